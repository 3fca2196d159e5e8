import PyProof.Rows.All
import Wide.All
import OpenK.AllK
import Wide.FinOn
import HandS.Base
import HandS.Call
import HandS.List
import HandS.Comp
import HandS.Dict
import HandS.Iter
import HandS.Text
import HandS.More
import HandS.Ends
import HandS.Words
import HandS.Defaults
import HandS.Lambda
import HandS.Nested
import KE.KDflt
import HandS.Gcd
import KE.KMathG
import HandS.Deep
import HandS.SortRule
import HandS.Walk
import KE.GoesEnum
import HandS.IsInst
import HandS.WordsExc
import HandS.ExcInit
import HandS.ExcIs
import HandS.ExcField
import HandS.SetFor
import HandS.ForMost
import HandS.ForExc
import KE.KDictKeyed
import PyProof.Rows.TupTab
import HandS.SortInts
import HandS.Star
import HandS.Property
import HandS.Conv
import HandS.GenBody
import HandS.GenYield
import HandS.GenCall
import HandS.GenList
import KE.KAsSuite
import PyProof.EnumMake
import PyProof.EnumFor
import HandS.RepeatKit
import HandS.Style
import HandS.NoneIn
import HandS.IterVal
import KE.KNestM
import HandS.EndOwn
import HandS.ClsMeth
import PySem.Challenge.RW_doorkeys_k09_invalid_ticks_and_persons
set_option Elab.async false
set_option linter.all false
set_option maxRecDepth 100000
set_option maxHeartbeats 4000000
namespace Dk
open PySem PySem.Spec PyProof.Rows L2
/-! ### the text by places -/
def top (i : Nat) : Stmt := PySem.Challenge.pw_doorkeys_k09_invalid_ticks_and_persons.main.body.getD i (.Pass ⟨0, 0, 0, 0⟩)
abbrev sIsInt : Stmt := top 19
abbrev sIsBelow : Stmt := top 20
abbrev sChkTick : Stmt := top 21
abbrev sChkPerson : Stmt := top 22
abbrev sHomeL : Stmt := top 32
abbrev sPeriod : Stmt := top 33
abbrev sChkTables : Stmt := top 34
abbrev sChkKeys : Stmt := top 35
abbrev sChkCareful : Stmt := top 36
abbrev sChkRem : Stmt := top 37
abbrev sIsTable : Stmt := top 38
abbrev sIsRem : Stmt := top 39
abbrev sAsc : Stmt := top 40
abbrev sHasOnly : Stmt := top 41
abbrev sCAfter : Stmt := top 56
abbrev sAtHome : Stmt := top 57
abbrev sFindC : Stmt := top 58
abbrev sCyc : Stmt := top 59
abbrev sEvents : Stmt := top 62
abbrev sEarly : Stmt := top 60
abbrev sScenes : Stmt := top 61
abbrev sWaiting : Stmt := top 64
abbrev sIsOpen : Stmt := top 65
abbrev sHook : Stmt := top 66
abbrev sHolders : Stmt := top 67
abbrev sRandom : Stmt := top 81
abbrev sBelow : Stmt := top 83
abbrev sTable : Stmt := top 84
abbrev sLength : Stmt := top 85
abbrev sParts : Stmt := top 86
abbrev sHouseF : Stmt := top 82
abbrev sLaw : Stmt := top 89
abbrev sWaitT : Stmt := top 68
abbrev sSplit : Stmt := top 69
abbrev sCntW : Stmt := top 70
abbrev sCntB : Stmt := top 71
abbrev sSmooth : Stmt := top 75
abbrev sNextE : Stmt := top 72
abbrev sPlan : Stmt := top 76
abbrev sListU : Stmt := top 77
abbrev sCanL : Stmt := top 78
abbrev sWithR : Stmt := top 79
abbrev sErrOf : Stmt := top 87
abbrev sAllRaise : Stmt := top 88
abbrev sSplitT : Stmt := top 42
abbrev sAreArgs : Stmt := top 43
abbrev sIsTW : Stmt := top 44
abbrev sIsNW : Stmt := top 45
abbrev sIsRW : Stmt := top 46
abbrev sReadNs : Stmt := top 47
abbrev sReadRs : Stmt := top 48
abbrev sKeysL : Stmt := top 49
abbrev sCarL : Stmt := top 50
abbrev sRemL : Stmt := top 51
abbrev sInit : Stmt := inClass (top 31) 0
abbrev sPersonsP : Stmt := inClass (top 31) 1
abbrev sPeriodP : Stmt := inClass (top 31) 2
abbrev sText : Stmt := inClass (top 31) 3
abbrev sParse : Stmt := inClass (top 31) 4
abbrev sWantsH : Stmt := inClass (top 31) 5
abbrev sTFInit : Stmt := inClass (top 12) 0
abbrev sICInit : Stmt := inClass (top 13) 0
abbrev sIOInit : Stmt := inClass (top 16) 0
abbrev sCInit : Stmt := inClass (top 55) 0
abbrev sScene : Stmt := inClass (top 55) 1
abbrev sAdv : Stmt := inClass (top 55) 2
abbrev sArrive : Stmt := inClass (top 55) 3
abbrev sCanE : Stmt := inClass (top 55) 4
abbrev sDepart : Stmt := inClass (top 55) 5
abbrev sThinks : Stmt := inClass (top 55) 6
abbrev sTake : Stmt := inClass (top 55) 7
abbrev sClose : Stmt := inClass (top 55) 8
abbrev sWants : Stmt := inClass (top 31) 5

/-! ### heaps -/
theorem sSqT {K : PySem.W.Frag} {H H' : Hp} {a : Addr} {xs : List V} (e : Same H H') (h : SqT K H a xs) : SqT K H' a xs := by
  rcases h with (h | ⟨o, h⟩) | h
  · exact .inl (.inl (e _ _ h))
  · exact .inl (.inr ⟨o, e _ _ h⟩)
  · exact .inr h
theorem same_upd {H : Hp} {p : Addr} {o : HO} (h : H p = none) : Same H (upd H p o) := fun b u e => by
  rw [upd_ne (ne_of_none e h)]; exact e
/-- all that was tracked is as it was, but at l -/
def Kp (l : Addr) (H H' : Hp) : Prop := ∀ b o, b ≠ l → H b = some o → H' b = some o
theorem sKp {l : Addr} {H H' : Hp} (s : Same H H') : Kp l H H' := fun b o _ e => s b o e
theorem Kp.refl {l : Addr} {H : Hp} : Kp l H H := fun _ _ _ e => e
theorem Kp.trans {l : Addr} {H H1 H2 : Hp} (a : Kp l H H1) (b : Kp l H1 H2) : Kp l H H2 := fun c o n e => b c o n (a c o n e)
theorem kp_upd {l : Addr} {H : Hp} {o : HO} : Kp l H (upd H l o) := fun b u n e => by rw [upd_ne n]; exact e
theorem Kp.same {l : Addr} {H H' : Hp} (k : Kp l H H') (h : ∀ o, H l = some o → H' l = some o) : Same H H' := fun b o e => by
  by_cases n : b = l
  · subst n; exact h o e
  · exact k b o n e
theorem Kp.sqT {K : PySem.W.Frag} {l : Addr} {xs : List V} {ys : List V} {H H' : Hp} {a : Addr} (k : Kp l H H') (hl : H l = some (.lst ys)) (h : SqT K H a xs) : SqT K H' a xs := by
  rcases h with (h | ⟨o, h⟩) | h
  · exact .inl (.inl (k _ _ (fun e => by rw [e, hl] at h; cases h) h))
  · exact .inl (.inr ⟨o, k _ _ (fun e => by rw [e, hl] at h; cases h) h⟩)
  · exact .inr h
/-- a list other than l stays -/
theorem Kp.lst {l : Addr} {xs : List V} {H H' : Hp} {a : Addr} (k : Kp l H H') (n : a ≠ l) (h : H a = some (.lst xs)) : H' a = some (.lst xs) := k _ _ n h

theorem take_more {α : Type} {l : List α} {i : Nat} {x : α} (h : l[i]? = some x) : l.take (i + 1) = l.take i ++ [x] := by
  rw [List.take_add_one, h]
  rfl
theorem map_at {α : Type} {f : α → V} {l : List α} {i : Nat} {y : V} (h : (l.map f)[i]? = some y) : ∃ z, l[i]? = some z ∧ y = f z := by
  rw [List.getElem?_map] at h
  cases e : l[i]? with
  | none => rw [e] at h; cases h
  | some z => rw [e] at h; exact ⟨z, rfl, (Option.some.inj h).symm⟩

/-! ### the law's source of numbers -/
/-- what is always true of the source's list -/
structure Good (st : List Int) : Prop where
  ex : ∃ s0 s1 r, st = s0 :: s1 :: r ∧ 0 ≤ s0 ∧ s0 < 2147483647 ∧ 0 ≤ s1 ∧ (∀ z ∈ r, (0 : Int) ≤ z) ∧ r.length ≤ 63

def spRandom (K : PySem.W.Frag) : Sp := fun vs H Q _ => ∃ (a : Addr) (ns : List Int) (salt : Int), vs = [.ref a, .int salt] ∧ SqL K H a (ns.map V.int) ∧ ns.length ≤ 63 ∧ 0 ≤ salt ∧ salt < 2147483647 ∧
  ∀ (H' : Hp) (p : Addr) (st : List Int), Same H H' → H p = none → H' p = some (.lst (st.map V.int)) → Good st → Q (.ref p) H'
structure TxtA (mg : Str → Option Value) : Prop where
  abs : mg "abs" = none
  len : mg "len" = none
  range : mg "range" = none

section
variable {P : Program} {w : World} {K : PySem.W.Frag} {mg : Str → Option Value} {base : Heap}
theorem scRandom : FnScope ["_law_script", "_law_salt", "_law_seed", "_law_cell"] ["_law_script", "_law_salt"] (defScope sRandom) := ⟨rfl, rfl, rfl, by decide +kernel, rfl, by decide +kernel, by decide +kernel⟩
theorem ok_random {f : Addr} {fd : FuncData} (F : Fun K "_law_random" "_law_random" sRandom f fd) (T : TxtA mg) : FnOk P w K mg base CX0 1 f fd ["_law_script", "_law_salt"] (spRandom K) := by
  refine F.ok scRandom (fun vs H Q E h => ?_) (fun cdv A outer s H vs Q E hr h => ?_)
  · obtain ⟨a, ns, salt, rfl, _⟩ := h
    rfl
  · obtain ⟨a, ns, salt, rfl, hS, hlen, hs0, hs1, k⟩ := h
    refine ⟨_, pss_cons (ps_set (i := 2) scRandom.nd rfl (.inl rfl) (pv 1))
      (pss_cons (ps_for PassesOwn.never rfl (pi_list (pv 0)) (pg_name (i := 3) scRandom.nd rfl (.inl rfl))
        (pss_one (ps_set (i := 2) scRandom.nd rfl (.inl rfl) (pe_op op_mod (pe_op op_add (pe_op op_mul (pv 2) pe_int) (pe_callB call_abs (by rfl) T.abs (by decide +kernel) (pa_cons (pv 3) pa_nil))) pe_int))))
      (pss_one (ps_ret (pe_op op_cat (pe_lst (pa_cons (pv 2) (pa_cons pe_int pa_nil)))
        (pe_lc (own := [("_law_cell", 3)]) (g := gName 3) (by rfl) scRandom.nd (pi_list (pv 0)) (blkOk_by (N := ["_law_script", "_law_salt", "_law_seed", "_law_cell"]) (sc := defScope sRandom) (by decide +kernel))
          (fun _ _ _ _ _ => pg_name (i := 3) scRandom.nd rfl (Or.inl rfl)) (fun _ _ _ _ _ => pts_one (pt_cmpR op_ge (pv 3) (pe_op op_pow pe_int pe_int) (nomark _))) (fun _ _ _ _ _ => pv 3)))))), ?_⟩
    refine ⟨_, rfl, ?_⟩
    refine ⟨_, rfl, a, rfl, ⟨_, hS⟩, for_list (K := K) (a := a) (xs := ns.map V.int) (fun i σ H' => ∃ (z : Int) (v : Option V), σ = [some (.ref a), some (.int salt), some (.int z), v] ∧ H' = H ∧ 0 ≤ z ∧ z < 2147483647)
      ⟨salt, none, rfl, rfl, hs0, hs1⟩ (fun i σ H' _ ⟨_, _, _, e, _⟩ => by rw [e]; exact hS) ?_ ?_⟩
    · rintro i y σ H' hi ⟨z, v, rfl, rfl, h0, h1⟩
      obtain ⟨u, hu, rfl⟩ := map_at hi
      refine ⟨_, rfl, _, _, rfl, rfl, .inl ⟨by omega, by omega⟩, _, rfl, _, rfl, _, _, rfl, rfl, _, _, rfl, rfl, (by show (0 : Int) < 2147483647; decide), ?_⟩
      exact ⟨_, _, rfl, rfl, Int.emod_nonneg _ (by decide), Int.emod_lt_of_pos _ (by decide)⟩
    · rintro σ H' ⟨z, v, rfl, rfl, h0, h1⟩
      refine ⟨_, rfl, (by show 2 ≤ sizeLine; decide), fun l hl => ?_⟩
      have s1 : Same H' (upd H' l (.lst [.int z, .int 0])) := same_upd hl
      refine ⟨_, rfl, a, rfl, ⟨_, s1.seq hS⟩, fun D hD => lc_list (K := K) (a := a) (xs := ns.map V.int)
        (fun i H2 => ∃ r : List Int, Same (upd H' l (.lst [.int z, .int 0])) H2 ∧ H2 D = some (.lst (r.map V.int)) ∧ r.length ≤ i ∧ ∀ x : Int, x ∈ r → 0 ≤ x)
        ⟨[], same_upd hD, upd_same, Nat.le_refl _, fun x hx => by cases hx⟩ (fun i H2 _ ⟨_, e, _⟩ => e.seq (s1.seq hS)) ?_ ?_⟩
      · rintro i y H2 hi ⟨r, e2, eD, hr1, hr2⟩
        obtain ⟨u, hu, rfl⟩ := map_at hi
        have hil : i < ns.length := (List.getElem?_eq_some_iff.mp hu).1
        refine ⟨rfl, _, rfl, _, _, rfl, rfl, ?_, _, _, rfl, rfl, _, rfl, ite2 (fun c => ?_) (fun c => ?_)⟩
        · exact ⟨by decide, by decide, by decide⟩
        · refine ⟨_, rfl, _, eD, ?_, r ++ [u], fun b o eb => ?_, ?_, ?_, fun x hx => ?_⟩
          · rw [List.length_map]; exact Nat.lt_of_le_of_lt (by omega : r.length ≤ 1000) (by decide)
          · have nb : b ≠ D := ne_of_none eb hD
            rw [upd_ne nb]; exact e2 _ _ eb
          · rw [upd_same]; simp
          · rw [List.length_append, List.length_singleton]; omega
          · rcases List.mem_append.mp hx with hx | hx
            · exact hr2 x hx
            · rw [List.mem_singleton] at hx
              subst hx
              have c' : (10 : Int) ^ (18 : Int).toNat ≤ x := of_decide_eq_true c
              exact Int.le_trans (by decide) c'
        · exact ⟨r, e2, eD, by omega, hr2⟩
      · rintro H2 ⟨r, e2, eD, hr1, hr2⟩
        rw [List.length_map] at hr1
        have el : H2 l = some (.lst [.int z, .int 0]) := e2 _ _ upd_same
        refine ⟨_, _, _, _, rfl, rfl, el, eD, ?_, fun p hp => ?_⟩
        · simp only [List.length_cons, List.length_nil, List.length_map]
          exact Nat.le_trans (by omega : _ ≤ 1000) (by decide)
        · have s2 : Same H' H2 := s1.trans e2
          refine k _ p (z :: 0 :: r) (s2.trans (same_upd hp)) (s2.free hp) (by rw [upd_same]; rfl) ⟨⟨z, 0, r, rfl, h0, h1, Int.le_refl _, hr2, by omega⟩⟩
end
end Dk

set_option Elab.async false
set_option linter.all false
set_option maxRecDepth 100000
set_option maxHeartbeats 2000000
namespace Dk
open PySem PySem.Spec PyProof.Rows L2 LamX
/-! ### lambdas that are stored: their objects are known for good -/
/-- the object at a is o -/
def ExO (a : Addr) (o : Obj) : HO := .ext fun h => h.get? a = some o
theorem exO_ne {a : Addr} {o : Obj} (ps : Array Value) : ExO a o ≠ .tbl ps := fun z => by
  unfold ExO at z
  cases z
theorem exO_neT {a : Addr} {o : Obj} (xs : List V) : ExO a o ≠ .tup xs := fun z => by
  unfold ExO at z
  cases z
theorem exO_neO {a b : Addr} {o : Obj} : ExO a o ≠ .own b := fun z => by
  unfold ExO at z
  cases z
theorem exO_at {P : Program} {w : World} {H : Hp} {h : Heap} {a : Addr} {o : Obj} (hok : HOk P w H h) (e : H a = some (ExO a o)) : h.get? a = some o := by
  obtain ⟨z, _, _⟩ := hok a _ e
  exact z
theorem exO_ok {P : Program} {w : World} {H : Hp} {h : Heap} {a : Addr} {o : Obj} (e : h.get? a = some o) : ObjOk P w H h a (ExO a o) :=
  ⟨e, ⟨o, e⟩, fun _ _ z st => st _ z⟩
/-- a lambda's words; dvs: its parameters' defaults -/
structure LamW where
  params : Arguments
  body : Expr
  scope : Scope
  dvs : List V
abbrev lamObj (cells : List (Str × Addr)) (q : Str) (L : LamW) (dV doc pm : Value) (c' : Addr) (ctv : Value) : Obj :=
  PySem.W.kdv_obj "<lambda>" q L.params (.expr L.body) L.scope (cloFrom cells L.scope.names []) dV doc pm c' ctv
def DfV (H : Hp) (dvs : List V) (dV : Value) : Prop := (dvs = [] ∧ dV = .none) ∨ (dvs ≠ [] ∧ ∃ T, dV = .ref T ∧ H T = some (.tup dvs))
/-- f is the lambda L, made in the def that has these cells -/
def MadeL (cells : List (Str × Addr)) (q : Str) (L : LamW) (f : Addr) (H : Hp) : Prop :=
  ∃ (dV doc pm ctv : Value) (c' : Addr), H f = some (ExO f (lamObj cells q L dV doc pm c' ctv)) ∧ H c' = some (CodeO c' q) ∧ DfV H L.dvs dV
theorem DfV.mono {H H' : Hp} {dvs : List V} {dV : Value} (d : DfV H dvs dV) (e : ExtN H H') : DfV H' dvs dV := by
  rcases d with d | ⟨h1, T, h2, h3⟩
  · exact .inl d
  · exact .inr ⟨h1, T, h2, e _ _ h3 fun ps z => by cases z⟩
theorem MadeL.mono {cells : List (Str × Addr)} {q : Str} {L : LamW} {f : Addr} {H H' : Hp} (m : MadeL cells q L f H) (e : ExtN H H') : MadeL cells q L f H' := by
  obtain ⟨dV, doc, pm, ctv, c', h1, h2, h3⟩ := m
  exact ⟨dV, doc, pm, ctv, c', e _ _ h1 fun ps => exO_ne ps, e _ _ h2 fun ps => codeO_ne ps, h3.mono e⟩
section
variable {X : Cx} {pins : List (Addr × Obj)} {σ : L2.St} {H : Hp} {s : Shared}
/-- the function object, its defaults at hand -/
theorem lam_tail {T : List (Addr × Str)} {c P : Addr} {L : LamW} {pos : Pos} {dV : Value} {E : Value → Shared → Prop} {Q : Value → Shared → Prop} (I : Inv X pins σ H s) (TB : TabB X.base X.mg c P) (hcode : X.env.code = .ref c)
    (hm : (P, X.env.qual ++ "<lambda>") ∈ T) (hu : ∀ p ∈ T, p.1 = P → p.2 = X.env.qual ++ "<lambda>") (hT : Tabs T H) (hfree : ∀ y ∈ L.scope.names, y.2 = .free → ∃ c, X.env.cells.lookup y.1 = some c) (hd : DfV H L.dvs dV)
    (h : ∀ (f : Addr) (H1 : Hp) (s' : Shared), Inv X pins σ H1 s' → ExtN H H1 → Tabs T H1 → MadeL X.env.cells (X.env.qual ++ "<lambda>") L f H1 → Q (.ref f) s') :
    wpAny (model X.prog X.w) X.A (makeTail "<lambda>" (X.env.qual ++ "<lambda>") L.params (.expr L.body) L.scope X.env dV .none none pos pos.line) Q E s := by
  obtain ⟨ps, hP, ht, ha⟩ := hT _ hm
  have bP : s.heap.BuiltinsAt X.mg P := TB.bm.keeps I.bk
  have hP' : s.heap.get? P = some { cls := .none, data := .fields ps } := I.hok P _ hP
  cases hc : codeAmong pos ps.toList with
  | none =>
    refine PySem.W.kdv_makeTail (mg := X.mg) (c := c) (P := P) (ps := ps) (closure_ok hfree) I.ok.glob (I.mod.glob.keeps I.bk) hcode (TB.code.keeps I.bk) hP' ht hc TB.gP bP fun c' ctv doc h' tk hx hge hlt hrec htb => ?_
    obtain ⟨c2, oc, vs, t, e2, hoc, hdt, hv⟩ := hrec
    cases e2
    have nC : H c' = none := I.hok.fresh hge
    have I1 := inv_table (t' := tk) (more := #[rawInt pos.line, rawInt pos.col, .ref c']) (h' := h') I hP (fun b o hb e => hx b o hb e) htb hge ⟨oc, vs, t, hoc, hdt, hv⟩
    have hE : ExtN H (upd (upd H P (.tbl (ps ++ #[rawInt pos.line, rawInt pos.col, .ref c']))) c' (CodeO c' (X.env.qual ++ "<lambda>"))) := fun b o e n => by
      rw [upd_ne (ne_of_none e nC), upd_ne (fun z => n ps (Option.some.inj (e.symm.trans (by rw [z]; exact hP))))]
      exact e
    have eL : (ps ++ #[rawInt pos.line, rawInt pos.col, .ref c']).toList = ps.toList ++ [rawInt pos.line, rawInt pos.col, .ref c'] := by simp
    have T1 : Tabs T (upd (upd H P (.tbl (ps ++ #[rawInt pos.line, rawInt pos.col, .ref c']))) c' (CodeO c' (X.env.qual ++ "<lambda>"))) := fun p hp => by
      by_cases hb : p.1 = P
      · rw [hu p hp hb, hb]
        refine ⟨_, by rw [upd_ne (ne_of_none hP nC), upd_same], by rw [eL]; exact PySem.TriplesOk_snoc _ _ _ _ ht, fun p' cv hcv => ?_⟩
        rw [eL] at hcv
        rcases among_app _ ht hcv with z | z
        · obtain ⟨c0, e1, e2⟩ := ha p' cv z
          exact ⟨c0, e1, hE _ _ e2 codeO_ne⟩
        · exact ⟨c', z, upd_same⟩
      · obtain ⟨ps', a1, a2, a3⟩ := hT p hp
        refine ⟨ps', by rw [upd_ne (ne_of_none a1 nC), upd_ne hb]; exact a1, a2, fun p' cv hcv => ?_⟩
        obtain ⟨c0, e1, e2⟩ := a3 p' cv hcv
        exact ⟨c0, e1, hE _ _ e2 codeO_ne⟩
    have nF := I1.hok.fresh (Nat.le_refl _)
    have I2 := I1.laid (a := h'.objs.size) (o := ExO h'.objs.size (lamObj X.env.cells (X.env.qual ++ "<lambda>") L dV doc ((X.mg "__name__").getD .none) c' ctv)) (t' := tk)
      (h' := h'.push (lamObj X.env.cells (X.env.qual ++ "<lambda>") L dV doc ((X.mg "__name__").getD .none) c' ctv)) (fun b u e => Heap.get?_push_of_some _ e) (Nat.le_refl _) (exO_ok (Heap.get?_push_size _ rfl))
    refine h h'.objs.size _ _ I2 (fun b o e n => ?_) (T1.ext fun b o e => ?_) ⟨dV, doc, (X.mg "__name__").getD .none, ctv, c', upd_same, ?_, (hd.mono hE).mono (ExtN.of fun b o e => ?_)⟩
    · exact (upd_ne (ne_of_none (hE b o e n) nF)).trans (hE b o e n)
    · exact (upd_ne (ne_of_none e nF)).trans e
    · exact (upd_ne (Nat.ne_of_lt hlt)).trans upd_same
    · exact (upd_ne (ne_of_none e nF)).trans e
  | some cv =>
    obtain ⟨c', e, hco⟩ := ha pos cv hc
    subst e
    refine PySem.W.kdv_makeTailHit (mg := X.mg) (c := c) (P := P) (ps := ps) (closure_ok hfree) I.ok.glob (I.mod.glob.keeps I.bk) hcode (TB.code.keeps I.bk) hP' ht hc bP fun ctv doc h' tk hx hsz => ?_
    have I1 : Inv X pins σ H { s with heap := h', toks := tk } := I.kept hx
    have nF : H h'.objs.size = none := I1.hok.fresh (Nat.le_refl _)
    have I2 := I1.laid (a := h'.objs.size) (o := ExO h'.objs.size (lamObj X.env.cells (X.env.qual ++ "<lambda>") L dV doc ((X.mg "__name__").getD .none) c' ctv)) (t' := tk)
      (h' := h'.push (lamObj X.env.cells (X.env.qual ++ "<lambda>") L dV doc ((X.mg "__name__").getD .none) c' ctv)) (fun b u e => Heap.get?_push_of_some _ e) (Nat.le_refl _) (exO_ok (Heap.get?_push_size _ rfl))
    refine h h'.objs.size _ _ I2 (fun b o e n => ?_) (hT.ext fun b o e => ?_) ⟨dV, doc, (X.mg "__name__").getD .none, ctv, c', upd_same, ?_, hd.mono (ExtN.of fun b o e => ?_)⟩
    · exact (upd_ne (ne_of_none e nF)).trans e
    · exact (upd_ne (ne_of_none e nF)).trans e
    · exact (upd_ne (ne_of_none hco nF)).trans hco
    · exact (upd_ne (ne_of_none e nF)).trans e
end
/-- the making of a lambda -/
def tMkL (T : List (Addr × Str)) (cells : List (Str × Addr)) (q : Str) (L : LamW) : TE := fun σ H Q => Tabs T H ∧ ∀ f H1, ExtN H H1 → Tabs T H1 → MadeL cells q L f H1 → Q (.ref f) H1
section
variable {X : Cx}
theorem pe_lam {T : List (Addr × Str)} {c P : Addr} {L : LamW} {pos : Pos} (TB : TabB X.base X.mg c P) (hcode : X.env.code = .ref c)
    (hm : (P, X.env.qual ++ "<lambda>") ∈ T) (hu : ∀ p ∈ T, p.1 = P → p.2 = X.env.qual ++ "<lambda>") (hfree : ∀ y ∈ L.scope.names, y.2 = .free → X.env.scope.names.lookup y.1 = some .cell ∨ X.env.scope.names.lookup y.1 = some .free)
    (hdef : (L.dvs = [] ∧ defaultsOf L.params X.env = ([], [])) ∨ (∃ j p, L.dvs = [.int 0] ∧ defaultsOf L.params X.env = ([eval (.Constant (.int 0) j p) X.env], []))) :
    PE X (.Lambda L.params L.body L.scope pos) (tMkL T X.env.cells (X.env.qual ++ "<lambda>") L) := by
  refine ⟨fun pins s σ H Q I h => ?_⟩
  obtain ⟨hT, h⟩ := h
  have hf : ∀ y ∈ L.scope.names, y.2 = .free → ∃ c, X.env.cells.lookup y.1 = some c := fun y hy e => I.ok.has _ (hfree y hy e)
  rw [arm_eval_Lambda]
  rcases hdef with ⟨e1, e2⟩ | ⟨j, p, e1, e2⟩
  · rw [e2]
    refine wpAny_bind (wpAny_pure (wpAny_bind (wpAny_holding (wpAny_pure ?_))))
    rw [makeFunction_eq]
    simp only [List.zip_nil_right, List.filterMap_nil, List.isEmpty_nil, if_true, pure_bind]
    exact lam_tail I TB hcode hm hu hT hf (.inl ⟨e1, rfl⟩) fun f H1 s' I1 x1 x2 x3 => ⟨.ref f, H1, I1, rfl, h f H1 x1 x2 x3⟩
  · rw [e2]
    refine wpAny_bind (evalAll_cons (thn ((pe_int (X := X) (i := 0) (j := j) (pos := p)).run pins s σ H (fun v H1 => v = .int 0 ∧ H1 = H) I ⟨rfl, rfl⟩) fun u s1 ⟨v, H1, I1, r1, q1⟩ => ?_))
    obtain ⟨rfl, rfl⟩ := q1
    refine evalAll_nil ?_
    refine wpAny_bind (wpAny_holding (wpAny_pure ?_))
    rw [makeFunction_eq]
    simp only [List.zip_nil_right, List.filterMap_nil, List.isEmpty_nil, List.isEmpty_cons, Bool.false_eq_true, if_false, if_true, pure_bind]
    refine wpAny_bind (wpAny_newTextTuple ?_)
    have nT : H1 s1.heap.objs.size = none := I1.hok.fresh (Nat.le_refl _)
    have I2 : Inv X pins σ (upd H1 s1.heap.objs.size (.tup [.int 0])) { s1 with heap := s1.heap.push { cls := .type "tuple", data := .seq [u].toArray } } :=
      I1.laid (a := s1.heap.objs.size) (o := .tup [.int 0]) (t' := s1.toks) (fun b w e => Heap.get?_push_of_some _ e) (Nat.le_refl _) ⟨by show 1 ≤ sizeLine; decide, [u], .cons r1 .nil, IsTup.new s1.heap _⟩
    have ex : ∀ b o, H1 b = some o → (upd H1 s1.heap.objs.size (.tup [.int 0])) b = some o := fun b o e => (upd_ne (ne_of_none e nT)).trans e
    exact lam_tail (s := { s1 with heap := s1.heap.push { cls := .type "tuple", data := .seq [u].toArray } }) I2 TB hcode hm hu (hT.ext ex) hf (.inr ⟨by rw [e1]; simp, _, rfl, by rw [e1]; exact upd_same⟩)
      fun f H3 s' I3 x1 x2 x3 => ⟨.ref f, H3, I3, rfl, h f H3 ((ExtN.of ex).trans x1) x2 x3⟩
end
end Dk

set_option Elab.async false
set_option linter.all false
set_option maxRecDepth 100000
set_option maxHeartbeats 2000000
namespace Dk
open PySem PySem.Spec PyProof.Rows L2 LamX
/-! ### the cells of the maker, shown and hidden -/
/-- cm's objects are known -/
def CmAt (cm : Addr → Option Obj) (H : Hp) : Prop := ∀ b o, cm b = some o → H b = some (ExO b o)
def addK (cm : Addr → Option Obj) (H : Hp) : Hp := fun b => match cm b with
  | some o => some (ExO b o)
  | none => H b
def stp (cm : Addr → Option Obj) (H : Hp) : Hp := fun b => match cm b with
  | some _ => none
  | none => H b
theorem addK_some {cm : Addr → Option Obj} {H : Hp} {b : Addr} {o : Obj} (e : cm b = some o) : addK cm H b = some (ExO b o) := by unfold addK; rw [e]
theorem addK_none {cm : Addr → Option Obj} {H : Hp} {b : Addr} (e : cm b = none) : addK cm H b = H b := by unfold addK; rw [e]
theorem stp_some {cm : Addr → Option Obj} {H : Hp} {b : Addr} {o : Obj} (e : cm b = some o) : stp cm H b = none := by unfold stp; rw [e]
theorem stp_none {cm : Addr → Option Obj} {H : Hp} {b : Addr} (e : cm b = none) : stp cm H b = H b := by unfold stp; rw [e]
theorem cmAt_add {cm : Addr → Option Obj} {H : Hp} : CmAt cm (addK cm H) := fun b o e => addK_some e
theorem CmAt.mono {cm : Addr → Option Obj} {H H' : Hp} (c : CmAt cm H) (e : ExtN H H') : CmAt cm H' := fun b o q => e _ _ (c b o q) fun ps => exO_ne ps
theorem CmAt.none_of {cm : Addr → Option Obj} {H : Hp} {b : Addr} (c : CmAt cm H) (e : H b = none) : cm b = none := by
  cases q : cm b with
  | none => rfl
  | some o => rw [c b o q] at e; cases e
theorem CmAt.tup_of {cm : Addr → Option Obj} {H : Hp} {b : Addr} {u : HO} (c : CmAt cm H) (e : H b = some u) (n : ∀ o, u ≠ ExO b o) : cm b = none := by
  cases q : cm b with
  | none => rfl
  | some o => rw [c b o q] at e; cases e; exact absurd rfl (n o)
theorem stp_add {cm : Addr → Option Obj} {H : Hp} (n : ∀ b o, cm b = some o → H b = none) : stp cm (addK cm H) = H := by
  funext b
  cases q : cm b with
  | none => rw [stp_none q, addK_none q]
  | some o => rw [stp_some q, n b o q]
theorem stp_stay {cm : Addr → Option Obj} {H : Hp} {b : Addr} {u : HO} (c : CmAt cm H) (e : H b = some u) (n : ∀ o, u ≠ ExO b o) : stp cm H b = some u := (stp_none (c.tup_of e n)).trans e
theorem stp_of {cm : Addr → Option Obj} {H : Hp} {b : Addr} {u : HO} (e : stp cm H b = some u) : H b = some u ∧ cm b = none := by
  cases q : cm b with
  | none => rw [stp_none q] at e; exact ⟨e, rfl⟩
  | some o => rw [stp_some q] at e; cases e
section
variable {P : Program} {w : World} {H H' : Hp} {h h' : Heap} {cm : Addr → Option Obj}
theorem hok_strip (ok : HOk P w H h) (c : CmAt cm H) : HOk P w (stp cm H) h := fun b u e => by
  obtain ⟨e1, e2⟩ := stp_of e
  exact (ok b u e1).stay (fun _ _ _ q => q) (fun d q => stp_stay c q fun o => fun z => exO_neO z.symm) fun d xs q => stp_stay c q fun o => fun z => exO_neT xs z.symm
theorem hok_add (ok : HOk P w H h) (c : ∀ b o, cm b = some o → H b = none ∧ h.get? b = some o) : HOk P w (addK cm H) h := fun b u e => by
  have keep : ∀ d (v : HO), H d = some v → addK cm H d = some v := fun d v q => by
    cases z : cm d with
    | none => rw [addK_none z]; exact q
    | some o => rw [(c d o z).1] at q; cases q
  cases z : cm b with
  | some o =>
    rw [addK_some z] at e
    cases e
    exact exO_ok (c b o z).2
  | none =>
    rw [addK_none z] at e
    exact (ok b u e).stay (fun _ _ _ q => q) (fun d q => keep _ _ q) fun d xs q => keep _ _ q
theorem un_add {fs : List Addr} (u : Un fs [] (stp cm H) H' h h') (c : CmAt cm H) (ok : HOk P w H h) : Un fs [] H (addK cm H') h h' := by
  have fr : ∀ b o, cm b = some o → H' b = none := fun b o e => u.free b o (exO_at ok (c b o e)) (stp_some e) (by simp)
  have ad : ∀ b (v : HO), H' b = some v → addK cm H' b = some v := fun b v q => by
    cases z : cm b with
    | none => rw [addK_none z]; exact q
    | some o => rw [fr b o z] at q; cases q
  refine ⟨fun b o e n => u.keep b o e (by rw [stp_none (c.none_of n)]; exact n), fun b o e n => u.slot b o e (by rw [stp_none (c.none_of n)]; exact n), fun b o e n x => ?_, u.there, fun b xs e => ad _ _ (u.tups b xs (stp_stay c e fun o z => exO_neT xs z.symm)), fun b o v e => ad _ _ (u.frzs b o v (stp_stay c e fun o z => ?_)), fun b ps e => ?_⟩
  · rw [addK_none (c.none_of n)]
    exact u.free b o e (by rw [stp_none (c.none_of n)]; exact n) x
  · unfold ExO at z; cases z
  · obtain ⟨m, q⟩ := u.tbls b ps (stp_stay c e fun o z => exO_ne ps z.symm)
    exact ⟨m, ad _ _ q⟩
theorem ub_add {fs : List Addr} {B : Heap} (u : UB fs (stp cm H) H' h B h') (c : CmAt cm H) (ok : HOk P w H h) : UB fs H (addK cm H') h B h' := by
  have fr : ∀ b o, cm b = some o → H' b = none := fun b o e => u.free b o (exO_at ok (c b o e)) (stp_some e)
  have ad : ∀ b (v : HO), H' b = some v → addK cm H' b = some v := fun b v q => by
    cases z : cm b with
    | none => rw [addK_none z]; exact q
    | some o => rw [fr b o z] at q; cases q
  refine ⟨fun b o e n => u.keep b o e (by rw [stp_none (c.none_of n)]; exact n), u.slot, fun b o e n => ?_, u.there, fun b xs e => ad _ _ (u.tups b xs (stp_stay c e fun o z => exO_neT xs z.symm)), fun b o v e => ad _ _ (u.frzs b o v (stp_stay c e fun o z => ?_)), fun b ps e => ?_⟩
  · rw [addK_none (c.none_of n)]
    exact u.free b o e (by rw [stp_none (c.none_of n)]; exact n)
  · unfold ExO at z; cases z
  · obtain ⟨m, q⟩ := u.tbls b ps (stp_stay c e fun o z => exO_ne ps z.symm)
    exact ⟨m, ad _ _ q⟩
end
/-! ### what a callable promises -/
/-- f(), f known by nothing but tl -/
def CallsV (P : Program) (w : World) (K : PySem.W.Frag) (mg : Str → Option Value) (base : Heap) (k : Nat) (f : Addr) (tl : XK → Hp → VK → Prop) : Prop :=
  ∀ (A : Around) (outer : List Env) (s : Shared) (H : Hp) (Q : VK) (E : XK), Room (k + 1) A → Env0 P w K mg base A outer s H → tl E H Q →
    codeAny (model P w) A (.call (.ref f) ⟨[], []⟩) (CR (L2.CX P w) outer P w H s Q E) s
/-- the lambda's names: captured ones, globals, its parameters ps, that the maker does not use -/
structure LamS1 (N : List Str) (sc scope : Scope) (ps : List Str) : Prop where
  kind : scope.kind = .function
  co : scope.isCoroutine = false
  gen : scope.isGenerator = false
  own : ∀ y ∈ scope.names, y.2 ≠ .cell ∧ (y.2 = .local → y.1 ∈ ps)
  nps : ∀ p ∈ ps, p ∉ N
  loc : ∀ p ∈ ps, scope.names.lookup p = some .local
  free : ∀ y ∈ scope.names, y.2 = .free → sc.names.lookup y.1 = some .cell ∨ sc.names.lookup y.1 = some .free
def lamS1B (N : List Str) (sc scope : Scope) (ps : List Str) : Bool :=
  decide (scope.kind = .function) && !scope.isCoroutine && !scope.isGenerator && (scope.names.all fun y => !decide (y.2 = .cell) && (!decide (y.2 = .local) || ps.contains y.1) && (!decide (y.2 = .free) || decide (sc.names.lookup y.1 = some .cell) || decide (sc.names.lookup y.1 = some .free))) &&
    ps.all fun p => !N.contains p && decide (scope.names.lookup p = some .local)
theorem lamS1_by {N : List Str} {sc scope : Scope} {ps : List Str} (h : lamS1B N sc scope ps = true) : LamS1 N sc scope ps := by
  unfold lamS1B at h
  simp only [Bool.and_eq_true, Bool.or_eq_true, Bool.not_eq_true', decide_eq_true_eq, decide_eq_false_iff_not, List.all_eq_true, List.contains_iff_mem, Bool.not_eq_true] at h
  obtain ⟨⟨⟨⟨h1, h2⟩, h3⟩, h4⟩, h5⟩ := h
  refine ⟨h1, h2, h3, fun y hy => ⟨(h4 y hy).1.1, fun e => ?_⟩, fun p hp => ?_, fun p hp => (h5 p hp).2, fun y hy e => ?_⟩
  · rcases (h4 y hy).1.2 with z | z
    · exact absurd e z
    · exact z
  · have := (h5 p hp).1
    simpa using this
  · rcases (h4 y hy).2 with (z | z) | z
    · exact absurd e z
    · exact .inl z
    · exact .inr z
/-- its parameters' defaults bind -/
def LamB (L : LamW) (ps : List Str) : Prop :=
  (L.dvs = [] ∧ ps = [] ∧ ∀ (q : Str) (cl : List (Str × Addr)) (doc pm cv ctv : Value), bindArgs (PySem.W.kdv_fn "<lambda>" q L.params (.expr L.body) L.scope cl .none doc pm cv ctv) ⟨[], []⟩ = pure []) ∨
  (∃ (d : V) (a : Str), L.dvs = [d] ∧ ps = [a] ∧ ∀ (T : Addr) (q : Str) (cl : List (Str × Addr)) (doc pm cv ctv u : Value), ∃ k, bindArgs (PySem.W.kdv_fn "<lambda>" q L.params (.expr L.body) L.scope cl (.ref T) doc pm cv ctv) ⟨[], []⟩ = seqItems? (.ref T) >>= k ∧ k (some #[u]) = pure [(a, u)])
section
variable {P : Program} {w : World} {H : Hp}
theorem LamB.binds {L : LamW} {ps : List Str} (B : LamB L ps) {s : Shared} (ok : HOk P w H s.heap) {dV : Value} (d : DfV H L.dvs dV) (q : Str) (cl : List (Str × Addr)) (doc pm cv ctv : Value) :
    ∃ bs : List (Str × Value), BindsTo s (PySem.W.kdv_fn "<lambda>" q L.params (.expr L.body) L.scope cl dV doc pm cv ctv) ⟨[], []⟩ bs ∧ ∀ y ∈ bs, y.1 ∈ ps := by
  rcases B with ⟨e1, e2, h⟩ | ⟨dd, a, e1, e2, h⟩
  · rcases d with ⟨_, rfl⟩ | ⟨n, _⟩
    · exact ⟨[], .of_eq (h q cl doc pm cv ctv), fun y hy => nomatch hy⟩
    · exact absurd e1 n
  · rcases d with ⟨z, _⟩ | ⟨_, T, rfl, hT⟩
    · rw [e1] at z; cases z
    · rw [e1] at hT
      obtain ⟨_, its, r, p⟩ := ok T _ hT
      obtain ⟨u, rfl, ru⟩ := r.one
      obtain ⟨ob, ho, hcl, n, hdt⟩ := p
      obtain ⟨k, h1, h2⟩ := h T q cl doc pm cv ctv u
      refine ⟨[(a, u)], BindsTo.of_defaults rfl ho hdt h1 h2, fun y hy => ?_⟩
      rw [List.mem_singleton.mp hy, e2]
      exact List.mem_singleton.mpr rfl
end
end Dk

set_option Elab.async false
set_option linter.all false
set_option maxRecDepth 100000
set_option maxHeartbeats 2000000
namespace Dk
open PySem PySem.Spec PyProof.Rows L2 LamX
/-- the cells of the def that runs, as they stand -/
structure CmOf (X : Cx) (H : Hp) (s : Shared) (cm : Addr → Option Obj) : Prop where
  all : ∀ x c o, X.env.cells.lookup x = some c → s.heap.get? c = some o → cm c = some o
  of : ∀ b o, cm b = some o → (∃ x, X.env.cells.lookup x = some b) ∧ s.heap.get? b = some o
  free : ∀ b o, cm b = some o → H b = none
section
variable {X : Cx} {pins : List (Addr × Obj)} {σ : L2.St} {H HZ : Hp} {s s1 : Shared}
open Classical in
theorem cm_of (I : Inv X pins σ H s) : ∃ cm, CmOf X H s cm := by
  refine ⟨fun b => if ∃ x, X.env.cells.lookup x = some b then s.heap.get? b else none, fun x c o e q => ?_, fun b o e => ?_, fun b o e => ?_⟩
  · show (if ∃ x, X.env.cells.lookup x = some c then s.heap.get? c else none) = some o
    rw [if_pos ⟨x, e⟩]; exact q
  · have e : (if ∃ x, X.env.cells.lookup x = some b then s.heap.get? b else none) = some o := e
    split at e
    · rename_i hx
      exact ⟨hx, e⟩
    · cases e
  · have e : (if ∃ x, X.env.cells.lookup x = some b then s.heap.get? b else none) = some o := e
    split at e
    · rename_i hx
      obtain ⟨x, hx⟩ := hx
      exact I.freeC x b hx
    · cases e
theorem lam_start3 {A : Around} {outer : List Env} {E : XK} {scope : Scope} {ps : List Str} {f c' : Addr} {h₁ : Heap} {tk : Nat} {bs : List (Str × Value)} (I : Inv X pins σ H s) (L : LamS1 X.N X.env.scope scope ps) (e0 : Env0 X.prog X.w X.K X.mg X.base A outer s1 HZ) (hd : A.handled = none)
    (hc : ∀ x c o, X.env.cells.lookup x = some c → s.heap.get? c = some o → s1.heap.get? c = some o ∧ HZ c = none) (hns : h₁.Ns s1.heap.objs.size fun y => bs.reverse.lookup y) (kp : ∀ b o, s1.heap.get? b = some o → h₁.get? b = some o) :
    Inv (lamCx X A outer s1 HZ E scope f c') [] σ HZ { s1 with heap := h₁, toks := tk } := by
  have hfree : ∀ y ∈ scope.names, y.2 = .free → ∃ c, X.env.cells.lookup y.1 = some c := fun y hy e => I.ok.has _ (L.free y hy e)
  have cm : ∀ {y c}, (cloFrom X.env.cells scope.names []).lookup y = some c → X.env.cells.lookup y = some c := fun {y c} e => by
    rcases cloFrom_mem (PySem.mem_of_lookup e) with hm | ⟨h1, h2⟩
    · cases hm
    · obtain ⟨c1, hc⟩ := hfree _ h1 rfl
      have hc : X.env.cells.lookup y = some c1 := hc
      have e2 : c = c1 := by
        rw [h2, hc] <;> rfl
      rw [e2]
      exact hc
  have look : ∀ {y}, scope.names.lookup y = some .free → ∃ c, (cloFrom X.env.cells scope.names []).lookup y = some c := fun {y} hl => by
    have hy : (y, NameKind.free) ∈ scope.names := PySem.mem_of_lookup hl
    exact mem_lookup (cloFrom_has (cells := X.env.cells) (acc := []) hy)
  have cellK : ∀ {x : Str} {c : Addr} {v : Option Value}, X.env.cells.lookup x = some c → s.heap.IsCell c v → h₁.IsCell c v := fun {x c v} e ⟨o, ho, hd⟩ => ⟨o, kp _ _ (hc x c o e ho).1, hd⟩
  have noA : ∀ b : Addr, b ∉ (lamCx X A outer s1 HZ E scope f c').ex := fun b z => absurd (show b ∈ ([] : List Addr) from z) (by simp)
  refine ⟨⟨e0.mod, L.kind, rfl, rfl, Nat.le_refl _, fun y z c e1 e2 => I.ok.inj y z c (cm e1) (cm e2), fun y hy => ?_, fun y c z _ => ?_, fun _ => hd, Around.frames_deeper e0.frames, .inr ⟨rfl, rfl⟩, fun b z => absurd z (noA b), e0.bs, e0.bsz, fun b _ _ => noA b,
      fun b z => absurd z (noA b), e0.funs, e0.frf⟩,
    rfl, e0.bare, Un.kept kp, ⟨_, hns, fun i y v e1 e2 e3 => ?_⟩, fun y c e => ?_, e0.hok.fresh (Nat.le_refl _), fun y c e => ?_, fun q hq => absurd (show q ∈ ([] : List (Addr × Obj)) ++ [] from hq) (by simp), e0.hok.kept kp, I.len⟩
  · have hy : scope.names.lookup y = some .cell ∨ scope.names.lookup y = some .free := hy
    rcases hy with hy | hy
    · exact absurd rfl (L.own _ (PySem.mem_of_lookup hy)).1
    · exact look hy
  · have z : false = true := z
    cases z
  · have e3 : Vis scope y := e3
    rcases e3 with k | k | k
    · exact absurd (List.mem_of_getElem? e1) (L.nps _ ((L.own _ (PySem.mem_of_lookup k)).2 rfl))
    · exact absurd rfl (L.own _ (PySem.mem_of_lookup k)).1
    · obtain ⟨m, hn, hl⟩ := I.loc
      have hvis : Vis X.env.scope y := (L.free _ (PySem.mem_of_lookup k) rfl).elim (fun k => .inr (.inl k)) (fun k => .inr (.inr k))
      obtain ⟨w', r, q⟩ := hl i y v e1 e2 hvis
      obtain ⟨c2, h2⟩ := look k
      refine ⟨w', r, .inr ⟨.inr k, c2, h2, ?_⟩⟩
      have c1 := cm h2
      rcases q with ⟨k', _⟩ | ⟨_, c3, e', z⟩
      · have k' : X.env.scope.names.lookup y = some .local := k'
        rcases L.free _ (PySem.mem_of_lookup k) rfl with k2 | k2 <;> rw [show X.env.scope.names.lookup y = _ from k2] at k' <;> cases k'
      · rw [c1] at e'
        cases e'
        exact cellK c1 z
  · obtain ⟨w', z⟩ := I.cell y c (cm e)
    exact ⟨w', cellK (cm e) z⟩
  · obtain ⟨v, o, ho, hd⟩ := I.cell y c (cm e)
    exact (hc y c o (cm e) ho).2
/-- an exception behind the hidden cells -/
theorem cx_add {P : Program} {w : World} {outer : List Env} {H : Hp} {s s2 : Shared} {E : XK} {e : Value} {cm : Addr → Option Obj} (hok : HOk P w H s.heap) (hC : CmAt cm H) (frf : ∀ b ∈ frs outer, H b = none)
    (h : L2.CX P w outer (stp cm H) s (fun cls d H3 => E cls d (addK cm H3)) e s2) : L2.CX P w outer H s E e s2 := by
  obtain ⟨a, B, H3, cls, d, rfl, fl, hk, ub, na, os, ag, hE⟩ := h
  have fr : ∀ b o, cm b = some o → H3 b = none ∧ B.get? b = some o := fun b o e => by
    have q := exO_at hok (hC b o e)
    exact ⟨ub.free b o q (stp_some e), ub.keep b o q (stp_some e) fun z => by have q2 := hC b o e; rw [frf b z] at q2; cases q2⟩
  refine ⟨a, B, addK cm H3, cls, d, rfl, fl, hok_add hk fr, ub_add ub hC hok, ?_, os, ag, hE⟩
  cases q : cm a with
  | none => rw [addK_none q]; exact na
  | some o =>
    have z := (fr a o q).2
    rw [fl.2.1] at z; cases z
/-- what a stored lambda does -/
def tlL (X : Cx) (L : LamW) (f : Addr) (cm : Addr → Option Obj) (σ : L2.St) (t : XK → TE) : XK → Hp → VK → Prop := fun E H' Q =>
  MadeL X.env.cells (X.env.qual ++ "<lambda>") L f H' ∧ CmAt cm H' ∧ t (fun cls d H3 => E cls d (addK cm H3)) σ (stp cm H') (fun v H3 => Q v (addK cm H3))
theorem lam_calls {k : Nat} {L : LamW} {ps : List Str} {cm : Addr → Option Obj} {t : XK → TE} (I : Inv X pins σ H s) (C : CmOf X H s cm) (LS : LamS1 X.N X.env.scope L.scope ps) (B : LamB L ps)
    (hbody : ∀ (A : Around) (outer : List Env) (s : Shared) (H : Hp) (E : XK) (f c' : Addr), Room k (A.deeper (lamEnv X L.scope s.heap.objs.size f c')) → PE (lamCx X A outer s H E L.scope f c') L.body (t E)) (f : Addr) :
    CallsV X.prog X.w X.K X.mg X.base k f (tlL X L f cm σ t) := by
  intro A outer s1 H' Q E hr e0 ⟨hM, hC, ht⟩
  obtain ⟨dV, doc, pm, ctv, c', hf, hco, hdv⟩ := hM
  have of1 := exO_at e0.hok hf
  obtain ⟨bs, hb, hbs⟩ := B.binds e0.hok hdv (X.env.qual ++ "<lambda>") (cloFrom X.env.cells L.scope.names []) doc pm (.ref c') ctv
  have e1 : Env0 X.prog X.w X.K X.mg X.base A outer s1 (stp cm H') := ⟨e0.frames, e0.mod, fun b o e => ⟨(e0.bs b o e).1, by rw [stp_none (hC.none_of (e0.bs b o e).2)]; exact (e0.bs b o e).2⟩, e0.bsz, e0.funs, fun b hb => by rw [stp_none (hC.none_of (e0.frf b hb))]; exact e0.frf b hb, hok_strip e0.hok hC, e0.bare⟩
  have lim : s1.heap.NoLimit := e0.mod.nolimit.keeps fun b o e => (e0.bs b o e).1
  refine PySem.W.kla_callFunE hr.depth of1 rfl LS.co LS.gen rfl (NdefX.codeO_at e0.hok hco) ?_
  refine hb _ _ _ _ ?_
  refine wpAny_newFunctionEnv (fun y hy => (LS.own y hy).1) (fun y hy => LS.loc _ (hbs y hy)) (fun h₁ hns hsb => ⟨lim.fresh _ hsb, ?_⟩) LS.kind
  show codeAny _ _ (.expr L.body (lamEnv X L.scope s1.heap.objs.size f c')) _ _
  have kp : ∀ b o, s1.heap.get? b = some o → h₁.get? b = some o := fun b o e => hsb.extBut b o (Nat.ne_of_lt (Heap.lt_size e)) (Heap.get?_push_of_some _ e)
  have J : Inv (lamCx X A outer s1 (stp cm H') (fun cls d H3 => E cls d (addK cm H3)) L.scope f c') [] σ (stp cm H') { s1 with heap := h₁, toks := s1.toks + bs.length } :=
    lam_start3 I LS e1 hr.hd (fun x c o e q => ⟨exO_at e0.hok (hC c o (C.all x c o e q)), stp_some (C.all x c o e q)⟩) hns kp
  have fr : ∀ {H3 : Hp} {h3 : Heap}, Un (frs outer) [] (stp cm H') H3 s1.heap h3 → ∀ b o, cm b = some o → H3 b = none ∧ h3.get? b = some o := fun {H3 h3} u b o e => by
    have q := exO_at e0.hok (hC b o e)
    exact ⟨u.free b o q (stp_some e) (by simp), u.keep b o q (stp_some e) (fun z => by have q2 := hC b o e; rw [e0.frf b z] at q2; cases q2) (by simp)⟩
  refine PySem.W.kla_codeExpr (wpAny_mono ((hbody A outer s1 (stp cm H') _ f c' (hr.deeper _)).run [] _ _ (stp cm H') _ J ht) (fun v s' hq => ?_) fun e s' hq => wpAny_mono hq (fun _ s2 h2 => ?_) fun e' s2 h2 => ?_)
  · obtain ⟨w', H3, J', rv, q⟩ := hq
    exact ⟨w', addK cm H3, J'.os, J'.bare, un_add J'.base hC e0.hok, hok_add J'.hok (fr J'.base), rv, q⟩
  · exact cx_add e0.hok hC e0.frf h2
  · exact cx_add e0.hok hC e0.frf h2
end
end Dk

set_option Elab.async false
set_option linter.all false
set_option maxRecDepth 100000
set_option maxHeartbeats 4000000
namespace Dk
open PySem PySem.Spec PyProof.Rows L2
theorem at0 {a : V} {l : List V} : atI (a :: l) 0 = some a := atI_nat (j := 0) rfl
theorem at1 {a b : V} {l : List V} : atI (a :: b :: l) 1 = some b := atI_nat (j := 1) rfl
theorem at2 {a b c : V} {l : List V} : atI (a :: b :: c :: l) 2 = some c := atI_nat (j := 2) rfl
theorem at3 {a b c e : V} {l : List V} : atI (a :: b :: c :: e :: l) 3 = some e := atI_nat (j := 3) rfl
theorem ix0 {a : V} {l : List V} : ixN (a :: l).length 0 = some 0 := by
  unfold ixN; rw [if_pos (by decide), if_pos (by rw [List.length_cons]; omega)]; rfl
theorem ix1 {a b : V} {l : List V} : ixN (a :: b :: l).length 1 = some 1 := by
  unfold ixN; rw [if_pos (by decide), if_pos (by rw [List.length_cons, List.length_cons]; omega)]; rfl
theorem sq2 {a b c : V} {l : List V} : seqIndex? 2 (a :: b :: c :: l).length = some 2 := (ixN_seq (by
  unfold ixN; rw [if_pos (by decide), if_pos (by rw [List.length_cons, List.length_cons, List.length_cons]; omega)]; rfl)).1
def spBelow : Sp := fun vs H Q _ => ∃ (d : Addr) (lim : Int) (st : List Int), vs = [.ref d, .int lim] ∧ H d = some (.lst (st.map V.int)) ∧ Good st ∧ 1 ≤ lim ∧ lim < 1073741824 ∧
  ∀ (H' : Hp) (st' : List Int) (r : Int), Kp d H H' → H' d = some (.lst (st'.map V.int)) → Good st' → 0 ≤ r → r < lim → Q (.int r) H'
section
variable {P : Program} {w : World} {K : PySem.W.Frag} {mg : Str → Option Value} {base : Heap}
theorem scBelow : FnScope ["_law_d", "_law_limit", "_law_result"] ["_law_d", "_law_limit"] (defScope sBelow) := ⟨rfl, rfl, rfl, by decide +kernel, rfl, by decide +kernel, by decide +kernel⟩
theorem ok_below {f : Addr} {fd : FuncData} (F : Fun K "_law_below" "_law_below" sBelow f fd) (T : TxtA mg) : FnOk P w K mg base CX0 1 f fd ["_law_d", "_law_limit"] spBelow := by
  refine F.ok scBelow (fun vs H Q E h => ?_) (fun cdv A outer s H vs Q E hr h => ?_)
  · obtain ⟨d, lim, st, rfl, _⟩ := h
    rfl
  · obtain ⟨d, lim, st, rfl, hd, ⟨s0, s1, r, rfl, h0, h1, h2, h3, h4⟩, hl1, hl2, k⟩ := h
    refine ⟨_, pss_cons (ps_if (PW.pt (pw_and (pt_cmpR op_eq (pe_ix ix_list (pv 0) pe_int (fun _ _ => rfl)) pe_int (nomark _)) (pw_and1 (pt_cmpR op_gt (pe_callB call_len_seq (by rfl) T.len PySem.boot_len (pa_cons (pv 0) pa_nil)) pe_int (nomark _)))))
        (pss_one (ps_asg (pe_bm PySem.F.plainAttrs_list PySem.F.slot_list_pop PySem.F.type_list_pop mt_popAt (pv 0) (pa_cons pe_int pa_nil)) (pg_sub (pv 0) pe_int set_list))) pss_nil)
      (pss_cons (ps_if (pt_cmpR op_gt (pe_ix ix_list (pv 0) pe_int (fun _ _ => rfl)) pe_int (nomark _))
        (pss_cons (ps_set (i := 2) scBelow.nd rfl (.inl rfl) (pe_op op_modN (pe_ix ix_list (pv 0) pe_int (fun _ _ => rfl)) (pv 1)))
        (pss_cons (ps_asg (pe_op op_fdivN (pe_ix ix_list (pv 0) pe_int (fun _ _ => rfl)) (pv 1)) (pg_sub (pv 0) pe_int set_list))
        (pss_one (ps_ret (pv 2))))) pss_nil)
      (pss_cons (ps_asg (pe_op op_mod (pe_op op_add (pe_op op_mul (pe_ix ix_list (pv 0) pe_int (fun _ _ => rfl)) pe_int) pe_int) pe_int) (pg_sub (pv 0) pe_int set_list))
      (pss_one (ps_ret (pe_op op_modN (pe_op op_fdiv (pe_ix ix_list (pv 0) pe_int (fun _ _ => rfl)) pe_int) (pv 1)))))), ?_⟩
    have hd' : H d = some (.lst (V.int s0 :: V.int s1 :: r.map V.int)) := hd
    refine ⟨_, rfl, d, _, 1, V.int s1, rfl, rfl, SqL.of hd', at1, rfl, _, rfl, ite2 (fun c => ?_) (fun c => ?_)⟩
    · refine ⟨_, rfl, d, _, rfl, .inl (SqL.of hd'), _, _, rfl, rfl, _, rfl, ite2 (fun c2 => ?_) (fun c2 => ?_)⟩
      · cases r with
        | nil => exact absurd (of_decide_eq_true c2) (by simp)
        | cons r0 r =>
          refine ⟨_, rfl, .inl ⟨rfl, _, SqL.of hd'⟩, d, _, 2, 2, V.int r0, rfl, rfl, hd', (by decide), (by decide), sq2, rfl, ?_⟩
          refine ⟨_, rfl, d, _, _, 1, rfl, rfl, upd_same, ix1, ?_⟩
          generalize e : (upd (upd H d (HO.lst ((V.int s0 :: V.int s1 :: List.map V.int (r0 :: r)).eraseIdx 2))) d (HO.lst (((V.int s0 :: V.int s1 :: List.map V.int (r0 :: r)).eraseIdx 2).set 1 (V.int r0)))) = H1
          have kp1 : Kp d H H1 := by rw [← e]; exact kp_upd.trans kp_upd
          obtain ⟨t0, t1, r', hd1, g0, g1, g2, g3, g4⟩ : ∃ t0 t1 r', H1 d = some (.lst (V.int t0 :: V.int t1 :: r'.map V.int)) ∧ 0 ≤ t0 ∧ t0 < 2147483647 ∧ 0 ≤ t1 ∧ (∀ z ∈ r', (0 : Int) ≤ z) ∧ r'.length ≤ 63 :=
            ⟨s0, r0, r, by rw [← e, upd_same]; rfl, h0, h1, h3 _ (List.mem_cons_self ..), fun z hz => h3 z (List.mem_cons_of_mem _ hz), by rw [List.length_cons] at h4; omega⟩
          refine ⟨_, rfl, d, _, 1, V.int t1, rfl, rfl, SqL.of hd1, at1, _, _, rfl, rfl, _, rfl, ite2 (fun c3 => ?_) (fun c3 => ?_)⟩
          · have c3' : 0 < t1 := of_decide_eq_true c3
            refine ⟨_, rfl, d, _, 1, V.int t1, rfl, rfl, SqL.of hd1, at1, _, rfl, _, _, rfl, rfl, (by omega), ?_⟩
            refine ⟨_, rfl, d, _, 1, V.int t1, rfl, rfl, SqL.of hd1, at1, _, rfl, _, _, rfl, rfl, ⟨by omega, by omega⟩, _, rfl, d, _, _, 1, rfl, rfl, hd1, ix1, ?_⟩
            exact ⟨_, rfl, k _ (t0 :: t1.fdiv lim :: r') _ (kp1.trans kp_upd) upd_same ⟨⟨t0, _, r', rfl, g0, g1, Int.fdiv_nonneg g2 (by omega), g3, g4⟩⟩ (Int.fmod_nonneg_of_pos _ (by omega)) (Int.fmod_lt_of_pos _ (by omega))⟩
          · refine ⟨_, rfl, d, _, 0, V.int t0, rfl, rfl, SqL.of hd1, at0, _, _, rfl, rfl, .inl ⟨by omega, by omega⟩, _, _, rfl, rfl, _, _, rfl, rfl, (by show (0 : Int) < 2147483647; decide), _, rfl, d, _, _, 0, rfl, rfl, hd1, ix0, ?_⟩
            refine ⟨_, rfl, d, _, 0, V.int ((t0 * 48271 + 11) % 2147483647), rfl, rfl, SqL.of upd_same, at0, _, _, rfl, rfl, ⟨by decide, by decide⟩, _, rfl, _, _, rfl, rfl, (by omega), ?_⟩
            exact k _ ((t0 * 48271 + 11) % 2147483647 :: t1 :: r') _ (kp1.trans kp_upd) upd_same ⟨⟨_, _, r', rfl, Int.emod_nonneg _ (by decide), Int.emod_lt_of_pos _ (by decide), g2, g3, g4⟩⟩ (Int.fmod_nonneg_of_pos _ (by omega)) (Int.fmod_lt_of_pos _ (by omega))
      · have kp1 : Kp d H H := Kp.refl
        obtain ⟨t0, t1, r', hd1, g0, g1, g2, g3, g4⟩ : ∃ t0 t1 r', H d = some (.lst (V.int t0 :: V.int t1 :: r'.map V.int)) ∧ 0 ≤ t0 ∧ t0 < 2147483647 ∧ 0 ≤ t1 ∧ (∀ z ∈ r', (0 : Int) ≤ z) ∧ r'.length ≤ 63 :=
          ⟨s0, s1, r, hd', h0, h1, h2, h3, h4⟩
        refine ⟨_, rfl, d, _, 1, V.int t1, rfl, rfl, SqL.of hd1, at1, _, _, rfl, rfl, _, rfl, ite2 (fun c3 => ?_) (fun c3 => ?_)⟩
        · have c3' : 0 < t1 := of_decide_eq_true c3
          refine ⟨_, rfl, d, _, 1, V.int t1, rfl, rfl, SqL.of hd1, at1, _, rfl, _, _, rfl, rfl, (by omega), ?_⟩
          refine ⟨_, rfl, d, _, 1, V.int t1, rfl, rfl, SqL.of hd1, at1, _, rfl, _, _, rfl, rfl, ⟨by omega, by omega⟩, _, rfl, d, _, _, 1, rfl, rfl, hd1, ix1, ?_⟩
          exact ⟨_, rfl, k _ (t0 :: t1.fdiv lim :: r') _ (kp1.trans kp_upd) upd_same ⟨⟨t0, _, r', rfl, g0, g1, Int.fdiv_nonneg g2 (by omega), g3, g4⟩⟩ (Int.fmod_nonneg_of_pos _ (by omega)) (Int.fmod_lt_of_pos _ (by omega))⟩
        · refine ⟨_, rfl, d, _, 0, V.int t0, rfl, rfl, SqL.of hd1, at0, _, _, rfl, rfl, .inl ⟨by omega, by omega⟩, _, _, rfl, rfl, _, _, rfl, rfl, (by show (0 : Int) < 2147483647; decide), _, rfl, d, _, _, 0, rfl, rfl, hd1, ix0, ?_⟩
          refine ⟨_, rfl, d, _, 0, V.int ((t0 * 48271 + 11) % 2147483647), rfl, rfl, SqL.of upd_same, at0, _, _, rfl, rfl, ⟨by decide, by decide⟩, _, rfl, _, _, rfl, rfl, (by omega), ?_⟩
          exact k _ ((t0 * 48271 + 11) % 2147483647 :: t1 :: r') _ (kp1.trans kp_upd) upd_same ⟨⟨_, _, r', rfl, Int.emod_nonneg _ (by decide), Int.emod_lt_of_pos _ (by decide), g2, g3, g4⟩⟩ (Int.fmod_nonneg_of_pos _ (by omega)) (Int.fmod_lt_of_pos _ (by omega))
    · have kp1 : Kp d H H := Kp.refl
      obtain ⟨t0, t1, r', hd1, g0, g1, g2, g3, g4⟩ : ∃ t0 t1 r', H d = some (.lst (V.int t0 :: V.int t1 :: r'.map V.int)) ∧ 0 ≤ t0 ∧ t0 < 2147483647 ∧ 0 ≤ t1 ∧ (∀ z ∈ r', (0 : Int) ≤ z) ∧ r'.length ≤ 63 :=
        ⟨s0, s1, r, hd', h0, h1, h2, h3, h4⟩
      refine ⟨_, rfl, d, _, 1, V.int t1, rfl, rfl, SqL.of hd1, at1, _, _, rfl, rfl, _, rfl, ite2 (fun c3 => ?_) (fun c3 => ?_)⟩
      · have c3' : 0 < t1 := of_decide_eq_true c3
        refine ⟨_, rfl, d, _, 1, V.int t1, rfl, rfl, SqL.of hd1, at1, _, rfl, _, _, rfl, rfl, (by omega), ?_⟩
        refine ⟨_, rfl, d, _, 1, V.int t1, rfl, rfl, SqL.of hd1, at1, _, rfl, _, _, rfl, rfl, ⟨by omega, by omega⟩, _, rfl, d, _, _, 1, rfl, rfl, hd1, ix1, ?_⟩
        exact ⟨_, rfl, k _ (t0 :: t1.fdiv lim :: r') _ (kp1.trans kp_upd) upd_same ⟨⟨t0, _, r', rfl, g0, g1, Int.fdiv_nonneg g2 (by omega), g3, g4⟩⟩ (Int.fmod_nonneg_of_pos _ (by omega)) (Int.fmod_lt_of_pos _ (by omega))⟩
      · refine ⟨_, rfl, d, _, 0, V.int t0, rfl, rfl, SqL.of hd1, at0, _, _, rfl, rfl, .inl ⟨by omega, by omega⟩, _, _, rfl, rfl, _, _, rfl, rfl, (by show (0 : Int) < 2147483647; decide), _, rfl, d, _, _, 0, rfl, rfl, hd1, ix0, ?_⟩
        refine ⟨_, rfl, d, _, 0, V.int ((t0 * 48271 + 11) % 2147483647), rfl, rfl, SqL.of upd_same, at0, _, _, rfl, rfl, ⟨by decide, by decide⟩, _, rfl, _, _, rfl, rfl, (by omega), ?_⟩
        exact k _ ((t0 * 48271 + 11) % 2147483647 :: t1 :: r') _ (kp1.trans kp_upd) upd_same ⟨⟨_, _, r', rfl, Int.emod_nonneg _ (by decide), Int.emod_lt_of_pos _ (by decide), g2, g3, g4⟩⟩ (Int.fmod_nonneg_of_pos _ (by omega)) (Int.fmod_lt_of_pos _ (by omega))
end
end Dk

set_option Elab.async false
set_option linter.all false
set_option maxRecDepth 100000
set_option maxHeartbeats 4000000
namespace Dk
open PySem PySem.Spec PyProof.Rows L2 TL
theorem at_mem {L : List Int} {r : Int} (h0 : 0 ≤ r) (h1 : r < L.length) : ∃ z, z ∈ L ∧ atI (L.map V.int) r = some (.int z) := by
  obtain ⟨n, rfl⟩ := Int.eq_ofNat_of_zero_le h0
  have hn : n < L.length := by omega
  exact ⟨L[n], List.getElem_mem hn, atI_nat (by rw [List.getElem?_map, List.getElem?_eq_getElem hn]; rfl)⟩
theorem joinL_nil : ∀ ls : List (List Nat), joinL [] ls = ls.flatten
  | [] => rfl
  | [p] => by simp [joinL]
  | p :: q :: r => by
    show p ++ ([] ++ joinL [] (q :: r)) = _
    rw [List.nil_append, joinL_nil (q :: r)]
    rfl
def one (c : Nat) : Str := ⟨#[c]⟩
theorem tl_one (c : Nat) : tl (one c) = [c] := rfl
theorem tl_joined (cs : List Nat) : tl (Txt.join Str.empty (cs.map one)) = cs := by
  rw [join_eq, tl_join, show tl Str.empty = [] from rfl, joinL_nil, List.map_map]
  induction cs with
  | nil => rfl
  | cons c cs ih => show [c] ++ (List.map (tl ∘ one) cs).flatten = _; rw [ih]; rfl
theorem ones_sum (cs : List Nat) : ((cs.map one).map (·.length)).sum = cs.length := by
  induction cs with
  | nil => rfl
  | cons c cs ih => rw [List.map_cons, List.map_cons, List.sum_cons, ih, List.length_cons]; show 1 + _ = _; omega
/-- a timetable -/
structure IsTab (t : Str) : Prop where
  len : (tl t).length ∈ [1, 2, 3, 4, 6, 8, 12, 24]
  ho : ∀ c ∈ tl t, c = 104 ∨ c = 111
theorem IsTab.pos {t : Str} (h : IsTab t) : 1 ≤ (tl t).length ∧ (tl t).length ≤ 24 := by
  have := h.len
  simp only [List.mem_cons, List.not_mem_nil, or_false] at this
  omega
def spTable : Sp := fun vs H Q _ => ∃ (d : Addr) (st : List Int), vs = [.ref d] ∧ H d = some (.lst (st.map V.int)) ∧ Good st ∧
  ∀ (H' : Hp) (st' : List Int) (t : Str), Kp d H H' → H' d = some (.lst (st'.map V.int)) → Good st' → IsTab t → Q (.str t) H'
structure TxtB (K : PySem.W.Frag) (mg : Str → Option Value) (fB : Addr) (fdB : FuncData) : Prop where
  g : mg "_law_below" = some (.ref fB)
  F : Fun K "_law_below" "_law_below" sBelow fB fdB
  b : Binds K fdB ["_law_d", "_law_limit"] []
section
variable {P : Program} {w : World} {K : PySem.W.Frag} {mg : Str → Option Value} {base : Heap}
theorem scTable : FnScope ["_law_d", "_law_length_here", "_law_k"] ["_law_d"] (defScope sTable) := ⟨rfl, rfl, rfl, by decide +kernel, rfl, by decide +kernel, by decide +kernel⟩
theorem ok_table {f fB : Addr} {fd fdB : FuncData} (F : Fun K "_law_table" "_law_table" sTable f fd) (T : TxtA mg) (B : TxtB K mg fB fdB) : FnOk P w K mg base CX0 2 f fd ["_law_d"] spTable := by
  have GB : FnOk P w K mg base CX0 1 fB fdB ["_law_d", "_law_limit"] spBelow := ok_below B.F T
  refine F.ok scTable (fun vs H Q E h => ?_) (fun cdv A outer s H vs Q E hr h => ?_)
  · obtain ⟨d, st, rfl, _⟩ := h
    rfl
  · obtain ⟨d, st, rfl, hd, hg, k⟩ := h
    refine ⟨_, pss_cons (ps_set (i := 1) scTable.nd rfl (.inl rfl) (pe_ix ix_list (pe_lst (pa_cons pe_int (pa_cons pe_int (pa_cons pe_int (pa_cons pe_int (pa_cons pe_int (pa_cons pe_int (pa_cons pe_int (pa_cons pe_int (pa_cons pe_int pa_nil))))))))))
        (pe_call GB hr rfl B.g B.F.kp B.b .nil pass0 (pa_cons (pv 0) (pa_cons (pe_ix ix_list (pe_lst (pa_cons pe_int (pa_cons pe_int (pa_cons pe_int pa_nil)))) (pe_call GB hr rfl B.g B.F.kp B.b .nil pass0 (pa_cons (pv 0) (pa_cons pe_int pa_nil))) (fun _ _ => rfl)) pa_nil))) (fun _ _ => rfl)))
      (pss_one (ps_ret (pe_join pe_str
        (pe_lc (own := [("_law_k", 2)]) (g := gName 2) (by rfl) scTable.nd (pi_range1 rfl T.range (pa_cons (pv 1) pa_nil)) (blkOk_by (N := ["_law_d", "_law_length_here", "_law_k"]) (sc := defScope sTable) (by decide +kernel))
          (fun _ _ _ _ _ => pg_name (i := 2) scTable.nd rfl (Or.inl rfl)) (fun _ _ _ _ _ => pts_nil)
          (fun _ _ _ _ _ => pe_item_str pe_str (pe_call GB hr rfl B.g B.F.kp B.b .nil pass0 (pa_cons (pv 0) (pa_cons pe_int pa_nil))) (fun _ _ => rfl)))))), ?_⟩
    refine ⟨by show 9 ≤ sizeLine; decide, fun l1 hl1 => ?_⟩
    have nl1 : d ≠ l1 := ne_of_none hd hl1
    refine ⟨_, rfl, by show 3 ≤ sizeLine; decide, fun l2 hl2 => ?_⟩
    have hd0 : (upd (upd H l1 (.lst [.int 1, .int 2, .int 3, .int 4, .int 4, .int 6, .int 8, .int 12, .int 24])) l2 (.lst [.int 5, .int 7, .int 9])) d = some (.lst (st.map V.int)) := same_upd hl2 _ _ (same_upd hl1 _ _ hd)
    have nl12 : l1 ≠ l2 := ne_of_none upd_same hl2
    have nl2 : d ≠ l2 := ne_of_none (same_upd hl1 _ _ hd) hl2
    refine ⟨_, rfl, d, 3, st, rfl, hd0, hg, by decide, by decide, fun H1 st1 r1 k1 hd1 hg1 r10 r11 => ?_⟩
    have e2 : H1 l2 = some (.lst (([5, 7, 9] : List Int).map V.int)) := k1 _ _ nl2.symm upd_same
    have e1 : H1 l1 = some (.lst (([1, 2, 3, 4, 4, 6, 8, 12, 24] : List Int).map V.int)) := k1 _ _ nl1.symm (by rw [upd_ne nl12]; exact upd_same)
    have kA : Kp d H H1 := (sKp ((same_upd hl1).trans (same_upd hl2))).trans k1
    obtain ⟨z1, hz1, a1⟩ := at_mem (L := [5, 7, 9]) r10 (by simpa using r11)
    refine ⟨l2, _, r1, _, rfl, rfl, SqL.of e2, a1, d, z1, st1, rfl, hd1, hg1, ?_, ?_, fun H2 st2 r2 k2 hd2 hg2 r20 r21 => ?_⟩
    · simp at hz1; omega
    · simp at hz1; omega
    have e3 := k2 _ _ nl1.symm e1
    have kB : Kp d H H2 := kA.trans k2
    obtain ⟨z2, hz2, a2⟩ := at_mem (L := [1, 2, 3, 4, 4, 6, 8, 12, 24]) r20 (by simp at hz1 ⊢; omega)
    refine ⟨l1, _, r2, _, rfl, rfl, SqL.of e3, a2, ?_⟩
    have hz3 : 1 ≤ z2 ∧ z2 ≤ 24 ∧ z2.toNat ∈ [1, 2, 3, 4, 6, 8, 12, 24] := by
      simp only [List.mem_cons, List.not_mem_nil, or_false] at hz2
      rcases hz2 with h | h | h | h | h | h | h | h | h <;> subst h <;> decide
    refine ⟨⟨_, rfl⟩, _, rfl, z2, rfl, by omega, by omega, fun D hD => lc_range (lo := 0) (n := z2.toNat)
      (fun i H3 => ∃ (st3 : List Int) (cs : List Nat), Kp d H2 H3 ∧ H3 d = some (.lst (st3.map V.int)) ∧ Good st3 ∧ H3 D = some (.lst ((cs.map one).map V.str)) ∧ cs.length = i ∧ ∀ c ∈ cs, c = 104 ∨ c = 111)
      ⟨st2, [], sKp (same_upd hD), same_upd hD _ _ hd2, hg2, upd_same, rfl, fun c hc => by cases hc⟩ ?_ ?_⟩
    · rintro i H3 hi ⟨st3, cs, k3, hd3, hg3, eD, hcl, hc⟩
      have ndD : d ≠ D := ne_of_none hd2 hD
      refine ⟨rfl, _, rfl, d, 2, st3, rfl, hd3, hg3, by decide, by decide, fun H4 st4 r4 k4 hd4 hg4 r40 r41 => ?_⟩
      have add : ∀ (c : Nat), (c = 104 ∨ c = 111) → ∃ acc, H4 D = some (.lst acc) ∧ acc.length < sizeLine ∧
          ∃ (st3 : List Int) (cs : List Nat), Kp d H2 (upd H4 D (.lst (acc ++ [V.str (one c)]))) ∧ (upd H4 D (.lst (acc ++ [V.str (one c)]))) d = some (.lst (st3.map V.int)) ∧ Good st3 ∧ (upd H4 D (.lst (acc ++ [V.str (one c)]))) D = some (.lst ((cs.map one).map V.str)) ∧ cs.length = i + 1 ∧ ∀ c ∈ cs, c = 104 ∨ c = 111 := fun c hc1 => by
        refine ⟨_, k4 _ _ ndD.symm eD, ?_, st4, cs ++ [c], fun b o nb eb => ?_, by rw [upd_ne ndD]; exact hd4, hg4, by rw [upd_same]; simp, by rw [List.length_append, hcl]; rfl, fun x hx => ?_⟩
        · rw [List.length_map, List.length_map, hcl]; exact Nat.lt_of_le_of_lt (by omega : i ≤ 1000) (by decide)
        · rw [upd_ne (ne_of_none eb hD)]; exact k4 _ _ nb (k3 _ _ nb eb)
        · rcases List.mem_append.mp hx with hx | hx
          · exact hc x hx
          · rw [List.mem_singleton.mp hx]; exact hc1
      have r4c : r4 = 0 ∨ r4 = 1 := by omega
      rcases r4c with rfl | rfl
      · exact ⟨_, 0, 104, rfl, rfl, by decide, by decide, by decide +kernel, by decide +kernel, add 104 (.inl rfl)⟩
      · exact ⟨_, 1, 111, rfl, rfl, by decide, by decide, by decide +kernel, by decide +kernel, add 111 (.inr rfl)⟩
    · rintro H3 ⟨st3, cs, k3, hd3, hg3, eD, hcl, hc⟩
      refine ⟨_, D, cs.map one, rfl, rfl, .inl (SqL.of eD), ?_, ?_⟩
      · rw [ones_sum, hcl]
        have : (Str.ofString "").length = 0 := by decide +kernel
        rw [this]
        omega
      · refine k _ st3 _ (kB.trans k3) hd3 hg3 ⟨?_, ?_⟩
        · have e := tl_joined cs
          rw [show tl (Txt.join (Str.ofString "") (cs.map one)) = cs from e, hcl]
          exact hz3.2.2
        · rw [show tl (Txt.join (Str.ofString "") (cs.map one)) = cs from tl_joined cs]
          exact hc
end
end Dk

set_option Elab.async false
set_option linter.all false
set_option maxRecDepth 100000
set_option maxHeartbeats 4000000
namespace Dk
open PySem PySem.Spec PyProof.Rows L2 TL
/-! ### the period -/
def lens (ts : List Str) : List Nat := ts.map fun t => (tl t).length
def lcmL : List Nat → Nat → Nat
  | [], a => a
  | n :: r, a => lcmL r (a.lcm n)
def per (ts : List Str) : Nat := lcmL (lens ts) 1
theorem lcmL_dvd : ∀ (l : List Nat) (a m : Nat), a ∣ m → (∀ n ∈ l, n ∣ m) → lcmL l a ∣ m
  | [], a, m, h, _ => h
  | n :: r, a, m, h, k => lcmL_dvd r _ m (Nat.lcm_dvd h (k n (List.mem_cons_self ..))) fun x hx => k x (List.mem_cons_of_mem _ hx)
theorem dvd_lcmL : ∀ (l : List Nat) (a : Nat), a ∣ lcmL l a ∧ ∀ n ∈ l, n ∣ lcmL l a
  | [], a => ⟨Nat.dvd_refl _, fun n h => by cases h⟩
  | n :: r, a => by
    have ih := dvd_lcmL r (a.lcm n)
    refine ⟨Nat.dvd_trans (Nat.dvd_lcm_left a n) ih.1, fun x hx => ?_⟩
    rcases List.mem_cons.mp hx with e | hx
    · rw [e]; exact Nat.dvd_trans (Nat.dvd_lcm_right a n) ih.1
    · exact ih.2 x hx
def Tabs (ts : List Str) : Prop := ∀ t ∈ ts, IsTab t
theorem IsTab.dvd {t : Str} (h : IsTab t) : (tl t).length ∣ 24 := by
  have := h.len
  simp only [List.mem_cons, List.not_mem_nil, or_false] at this
  rcases this with e | e | e | e | e | e | e | e <;> rw [e] <;> decide
theorem per_24 {ts : List Str} (h : Tabs ts) : per ts ∣ 24 := lcmL_dvd _ _ _ (Nat.one_dvd _) fun n hn => by
  obtain ⟨t, ht, rfl⟩ := List.mem_map.mp hn
  exact (h t ht).dvd
theorem per_le {ts : List Str} (h : Tabs ts) : per ts ≤ 24 := Nat.le_of_dvd (by decide) (per_24 h)
theorem per_pos {ts : List Str} (h : Tabs ts) : 1 ≤ per ts := Nat.pos_of_ne_zero fun e => by
  have := per_24 h
  rw [e] at this
  exact absurd (Nat.eq_zero_of_zero_dvd this) (by decide)
theorem dvd_per {ts : List Str} {t : Str} (h : t ∈ ts) : (tl t).length ∣ per ts := (dvd_lcmL _ _).2 _ (List.mem_map.mpr ⟨t, h, rfl⟩)
theorem per_min {ts : List Str} {m : Nat} (h : ∀ t ∈ ts, (tl t).length ∣ m) : per ts ∣ m := lcmL_dvd _ _ _ (Nat.one_dvd _) fun n hn => by
  obtain ⟨t, ht, rfl⟩ := List.mem_map.mp hn
  exact h t ht
theorem IsTab.strOk {t : Str} (h : IsTab t) : PyData.strOk t = true := by
  unfold PyData.strOk
  rw [← Array.all_toList, List.all_eq_true]
  intro c hc
  have := h.ho c hc
  simp only [decide_eq_true_eq]
  omega
theorem dpAll_strs {K : PySem.W.Frag} {H : Hp} : ∀ ys : List Str, DpAll K H (ys.map V.str) (ys.map PyData.str)
  | [] => .nil
  | y :: ys => .cons (.str y) (dpAll_strs ys)
theorem shaped_strs : ∀ {ys : List Str}, Tabs ys → SeqAt.shaped (.list (ys.map PyData.str)) = true := by
  intro ys h
  have h1 : PyData.canLayAll0 (ys.map PyData.str) = true := by
    induction ys with
    | nil => rfl
    | cons y ys ih =>
      show (PyData.canLay0 (.str y) && PyData.canLayAll0 (ys.map PyData.str)) = true
      rw [ih fun t ht => h t (List.mem_cons_of_mem _ ht)]
      have := (h y (List.mem_cons_self ..)).strOk
      simp [PyData.canLay0, this]
  have h2 : PyData.depthAll (ys.map PyData.str) = 0 := by
    clear h h1
    induction ys with
    | nil => rfl
    | cons y ys ih => show max (PyData.depth (.str y)) (PyData.depthAll _) = 0; rw [ih]; rfl
  unfold SeqAt.shaped
  simp only [PyData.canLay0, PyData.depth, h1, h2]
  decide
theorem eqv_strs (ys : List Str) : PyData.eqv (.list (ys.map PyData.str)) (.list []) = ys.isEmpty := by
  cases ys <;> rfl
theorem fmod_pos {n m : Nat} (hm : 1 ≤ m) : (0 < (n : Int).fmod (m : Int)) ↔ ¬ m ∣ n := by
  have e : (n : Int).fmod (m : Int) = ((n % m : Nat) : Int) := by
    rw [Int.fmod_eq_emod_of_nonneg _ (by omega)]; rfl
  rw [e]
  constructor
  · intro h d
    rw [Nat.mod_eq_zero_of_dvd d] at h
    exact absurd h (by decide)
  · intro h
    have : n % m ≠ 0 := fun q => h (Nat.dvd_of_mod_eq_zero q)
    omega
/-! ### lcm -/
def rLcm : List V → Hp → VK → Prop := fun vs H Q => ∃ a b : Nat, vs = [.int (a : Int), .int (b : Int)] ∧ a ≤ 1000 ∧ b ≤ 1000 ∧ Q (.int ((Nat.lcm a b : Nat) : Int)) H
theorem cr_lcm {X : Cx} : CallR X (.builtin "math.lcm") rLcm := by
  intro pins s σ H vs us Q I r h
  obtain ⟨a, b, rfl, ha, hb, q⟩ := h
  obtain ⟨t, u, rfl⟩ := Vals.int2 r
  have e : (Nat.lcm 1 (a : Int).natAbs).lcm (b : Int).natAbs = Nat.lcm a b := by
    rw [Nat.lcm_one_left]; rfl
  have hle : Nat.lcm a b ≤ 1000000 := by
    have h1 : Nat.lcm a b ≤ a * b := Nat.div_le_self _ _
    have h2 : a * b ≤ 1000 * 1000 := Nat.mul_le_mul ha hb
    omega
  refine PySem.W.mg_lcm_v (c := ((Nat.lcm a b : Nat) : Int)) (by simp; omega) (by simp; omega) (by rw [e]) ?_ ⟨.int _, H, I.tok _, ⟨_, rfl⟩, q⟩
  rw [bitsLine_eq]
  have h3 : ((Nat.lcm a b : Nat) : Int).natAbs.log2 ≤ ((Nat.lcm a b : Nat) : Int).natAbs := Nat.log2_le_self _
  have h4 : ((Nat.lcm a b : Nat) : Int).natAbs = Nat.lcm a b := rfl
  omega
theorem lcmL_take {l : List Nat} {i x a : Nat} (h : l[i]? = some x) : lcmL (l.take (i + 1)) a = (lcmL (l.take i) a).lcm x := by
  rw [take_more h]
  generalize l.take i = p
  induction p generalizing a with
  | nil => rfl
  | cons y p ih => exact ih (a := a.lcm y)
theorem Tabs.take {ts : List Str} (h : Tabs ts) (n : Nat) : Tabs (ts.take n) := fun t ht => h t (List.mem_of_mem_take ht)
theorem lens_take (ts : List Str) (n : Nat) : lens (ts.take n) = (lens ts).take n := by unfold lens; rw [List.map_take]
theorem small_str {t : Str} (h : t.length ≤ 1000) : t.length ≤ sizeLine := Nat.le_trans h (by decide)
theorem IsTab.size {t : Str} (h : IsTab t) : t.length ≤ sizeLine := small_str (by rw [len_tl t]; have := h.pos.2; omega)
theorem filt1 {α : Type} {p : α → Bool} {x : α} (h : p x = true) : [x].filter p = [x] := by simp [h]
theorem filt0 {α : Type} {p : α → Bool} {x : α} (h : p x = false) : [x].filter p = [] := by simp [h]
def spPeriod (K : PySem.W.Frag) : Sp := fun vs H Q _ => ∃ (a : Addr) (ts : List Str), vs = [.ref a] ∧ SqT K H a (ts.map V.str) ∧ Tabs ts ∧ Q (.int ((per ts : Nat) : Int)) H
def spLength (K : PySem.W.Frag) : Sp := fun vs H Q _ => ∃ (a : Addr) (ts : List Str), vs = [.ref a] ∧ SqT K H a (ts.map V.str) ∧ Tabs ts ∧ ts.length ≤ 6 ∧ ∀ H', Same H H' → Q (.int ((per ts : Nat) : Int)) H'
structure TxtC (mg : Str → Option Value) : Prop where
  lcm : mg "lcm" = some (.builtin "math.lcm")
section
variable {P : Program} {w : World} {K : PySem.W.Frag} {mg : Str → Option Value} {base : Heap}
theorem scPeriod : FnScope ["tables", "ticks", "table"] ["tables"] (defScope sPeriod) := ⟨rfl, rfl, rfl, by decide +kernel, rfl, by decide +kernel, by decide +kernel⟩
theorem ok_period {f : Addr} {fd : FuncData} (F : Fun K "common_period" "common_period" sPeriod f fd) (T : TxtA mg) (TC : TxtC mg) : FnOk P w K mg base CX0 1 f fd ["tables"] (spPeriod K) := by
  refine F.ok scPeriod (fun vs H Q E h => ?_) (fun cdv A outer s H vs Q E hr h => ?_)
  · obtain ⟨a, ts, rfl, _⟩ := h
    rfl
  · obtain ⟨a, ts, rfl, hS, hT, k⟩ := h
    refine ⟨_, pss_cons (ps_set (i := 1) scPeriod.nd rfl (.inl rfl) pe_int)
      (pss_cons (ps_for PassesOwn.never rfl (pi_tup (pv 0)) (pg_name (i := 2) scPeriod.nd rfl (.inl rfl))
        (pss_one (ps_set (i := 1) scPeriod.nd rfl (.inl rfl) (pe_callBfun cr_lcm (by rfl) TC.lcm (pa_cons (pv 1) (pa_cons (pe_callB call_len_str (by rfl) T.len PySem.boot_len (pa_cons (pv 2) pa_nil)) pa_nil))))))
      (pss_one (ps_ret (pv 1)))), ?_⟩
    refine ⟨_, rfl, a, rfl, ⟨_, hS⟩, for_tup (K := K) (a := a) (xs := ts.map V.str) (fun i σ H' => ∃ v : Option V, σ = [some (.ref a), some (.int ((per (ts.take i) : Nat) : Int)), v] ∧ H' = H)
      ⟨none, rfl, rfl⟩ (fun i σ H' _ ⟨_, _, e⟩ => by rw [e]; exact hS) ?_ ?_⟩
    · rintro i y σ H' hi ⟨v, rfl, rfl⟩
      obtain ⟨t, ht, rfl⟩ := map_at hi
      have hm : t ∈ ts := List.mem_of_getElem? ht
      have hit := hT t hm
      have ex : (lens ts)[i]? = some (tl t).length := by unfold lens; rw [List.getElem?_map, ht]; rfl
      refine ⟨_, rfl, _, rfl, _, rfl, hit.size, per (ts.take i), (tl t).length, ?_, ?_, ?_, ?_⟩
      · rw [len_tl t]
      · have := per_le (hT.take i); omega
      · have := hit.pos.2; omega
      · refine ⟨some (.str t), ?_, rfl⟩
        show _ = [some (V.ref a), some (V.int ((per (ts.take (i + 1)) : Nat) : Int)), some (V.str t)]
        unfold per
        rw [lens_take, lens_take, lcmL_take ex]
        rfl
    · rintro σ H' ⟨v, rfl, rfl⟩
      rw [List.length_map, List.take_length]
      exact ⟨_, rfl, k⟩
theorem scLength : FnScope ["_law_tables", "_law_length_here", "_law_table_here"] ["_law_tables"] (defScope sLength) := ⟨rfl, rfl, rfl, by decide +kernel, rfl, by decide +kernel, by decide +kernel⟩
theorem ok_length {f : Addr} {fd : FuncData} (F : Fun K "_law_length" "_law_length" sLength f fd) (T : TxtA mg) : FnOk P w K mg base CX0 1 f fd ["_law_tables"] (spLength K) := by
  refine F.ok scLength (fun vs H Q E h => ?_) (fun cdv A outer s H vs Q E hr h => ?_)
  · obtain ⟨a, ts, rfl, _⟩ := h
    rfl
  · obtain ⟨a, ts, rfl, hS, hT, hl6, k⟩ := h
    refine ⟨_, pss_cons (ps_set (i := 1) scLength.nd rfl (.inr rfl) pe_int)
      (pss_cons (ps_while PassesOwn.never (pt_cmpR (op_neD hr.units) (pe_lc (own := [("_law_table_here", 2)]) (g := gName 2) (by rfl) scLength.nd (pi_tup (pv 0)) (blkOk_by (N := ["_law_tables", "_law_length_here", "_law_table_here"]) (sc := defScope sLength) (by decide +kernel))
          (fun _ _ _ _ _ => pg_name (i := 2) scLength.nd rfl (Or.inl rfl)) (fun _ _ _ _ _ => pts_one (pt_cmpR op_gt (pe_op op_modN (pv 1) (pe_callB call_len_str (by rfl) T.len PySem.boot_len (pa_cons (pv 2) pa_nil))) pe_int (nomark _))) (fun _ _ _ _ _ => pv 2)) (pe_lst pa_nil) (nomark _))
        (pss_one (ps_set (i := 1) scLength.nd rfl (.inr rfl) (pe_op op_add (pv 1) pe_int))))
      (pss_one (ps_ret (pv 1)))), ?_⟩
    refine ⟨fun m σ H' => ∃ n : Nat, σ = [some (.ref a), some (.int (n : Int)), none] ∧ Same H H' ∧ 1 ≤ n ∧ n ≤ per ts ∧ m = per ts - n, ⟨_, 1, rfl, Same.refl H, Nat.le_refl _, per_pos hT, rfl⟩, ?_⟩
    rintro m σ H' ⟨n, rfl, s1, h1, h2, rfl⟩
    have hS1 := sSqT s1 hS
    refine ⟨_, rfl, a, rfl, ⟨_, hS1⟩, fun D hD => lc_tup (K := K) (a := a) (xs := ts.map V.str)
      (fun i H3 => ∃ ys : List Str, Same H' H3 ∧ H3 D = some (.lst (ys.map V.str)) ∧ ys = (ts.take i).filter (fun t => decide (¬ (tl t).length ∣ n)) ∧ ys.length ≤ i)
      ⟨[], same_upd hD, upd_same, rfl, Nat.le_refl _⟩ (fun i H3 _ ⟨_, e, _⟩ => sSqT e hS1) ?_ ?_⟩
    · rintro i y H3 hi ⟨ys, s3, eD, hys, hyl⟩
      obtain ⟨t, ht, rfl⟩ := map_at hi
      have hil : i < ts.length := (List.getElem?_eq_some_iff.mp ht).1
      have hit := hT t (List.mem_of_getElem? ht)
      have hlen : t.length = (tl t).length := len_tl t
      refine ⟨rfl, _, rfl, _, rfl, _, rfl, hit.size, _, _, rfl, rfl, (by have := hit.pos.1; omega), _, _, rfl, rfl, _, rfl, ite2 (fun c => ?_) (fun c => ?_)⟩
      · have c' := of_decide_eq_true c
        rw [hlen, fmod_pos hit.pos.1] at c'
        refine ⟨_, rfl, _, eD, ?_, ys ++ [t], fun b o eb => ?_, ?_, ?_, ?_⟩
        · rw [List.length_map]; exact Nat.lt_of_le_of_lt (by omega : ys.length ≤ 1000) (by decide)
        · rw [upd_ne (ne_of_none eb hD)]; exact s3 _ _ eb
        · rw [upd_same]; simp
        · rw [take_more ht, List.filter_append, ← hys, show List.filter (fun t => decide (¬ (tl t).length ∣ n)) [t] = [t] from filt1 (decide_eq_true c')]
        · rw [List.length_append, List.length_singleton]; omega
      · have c' : ¬ (0 < (n : Int).fmod (t.length : Int)) := fun q => c (decide_eq_true q)
        rw [hlen, fmod_pos hit.pos.1] at c'
        refine ⟨ys, s3, eD, ?_, by omega⟩
        rw [take_more ht, List.filter_append, ← hys, show List.filter (fun t => decide (¬ (tl t).length ∣ n)) [t] = [] from filt0 (decide_eq_false c'), List.append_nil]
    · rintro H3 ⟨ys, s3, eD, hys, hyl⟩
      rw [List.length_map, List.take_length] at hys
      refine ⟨Nat.zero_le _, fun l hl => ?_⟩
      have eD2 := same_upd (o := .lst []) hl _ _ eD
      have hTy : Tabs ys := fun t ht => hT t (by rw [hys] at ht; exact (List.mem_filter.mp ht).1)
      refine ⟨.list (ys.map PyData.str), .list [], .lst (SqL.of eD2) (dpAll_strs ys), .lst (SqL.of upd_same) .nil, shaped_strs hTy, by decide, _, rfl, ?_⟩
      rw [eqv_strs]
      have s5 : Same H (upd H3 l (.lst [])) := (s1.trans s3).trans (same_upd hl)
      cases hy : ys with
      | nil =>
        refine iteF ⟨_, rfl, ?_⟩
        have all : ∀ t ∈ ts, (tl t).length ∣ n := fun t ht => by
          by_cases d : (tl t).length ∣ n
          · exact d
          · have : t ∈ ys := by rw [hys]; exact List.mem_filter.mpr ⟨ht, decide_eq_true d⟩
            rw [hy] at this
            cases this
        have e : n = per ts := Nat.le_antisymm h2 (Nat.le_of_dvd h1 (per_min all))
        rw [e]
        exact k _ s5
      | cons t0 ys' =>
        refine iteT ?_
        have hne : n ≠ per ts := fun e => by
          have hm : t0 ∈ ts.filter (fun t => decide (¬ (tl t).length ∣ n)) := by rw [← hys, hy]; exact List.mem_cons_self ..
          have := List.mem_filter.mp hm
          exact (of_decide_eq_true this.2) (by rw [e]; exact dvd_per this.1)
        refine ⟨fun σ' H'' => ∃ n' : Nat, σ' = [some (.ref a), some (.int (n' : Int)), none] ∧ Same H H'' ∧ 1 ≤ n' ∧ n' ≤ per ts ∧ n' = n + 1, fun σ' H'' ⟨n', e1, e2, e3, e4, e5⟩ => ⟨per ts - n', by omega, n', e1, e2, e3, e4, rfl⟩, ?_⟩
        exact ⟨_, rfl, _, _, rfl, rfl, n + 1, rfl, s5, by omega, by omega, rfl⟩
end
end Dk

set_option Elab.async false
set_option linter.all false
set_option maxRecDepth 100000
set_option maxHeartbeats 4000000
namespace Dk
open PySem PySem.Spec PyProof.Rows L2 TL
/-! ### pairs -/
abbrev Pr := Int × Int
def PrAt (H : Hp) (x : V) (r : Pr) : Prop := ∃ t, x = .ref t ∧ H t = some (.tup [.int r.1, .int r.2])
def Prs (H : Hp) (xs : List V) (rs : List Pr) : Prop := Paired (PrAt H) xs rs
theorem Prs.app {H : Hp} : ∀ {xs : List V} {rs : List Pr} {x : V} {r : Pr}, Prs H xs rs → PrAt H x r → Prs H (xs ++ [x]) (rs ++ [r])
  | [], [], _, _, .nil, h => .cons h .nil
  | _ :: _, _ :: _, _, _, .cons a b, h => .cons a (Prs.app b h)
theorem Prs.mono {H H' : Hp} : ∀ {xs : List V} {rs : List Pr}, (∀ t ys, H t = some (.tup ys) → H' t = some (.tup ys)) → Prs H xs rs → Prs H' xs rs
  | [], [], _, .nil => .nil
  | _ :: _, _ :: _, k, .cons ⟨t, e, h⟩ b => .cons ⟨t, e, k _ _ h⟩ (Prs.mono k b)
theorem kp_tup {d : Addr} {H H' : Hp} {xs : List V} (k : Kp d H H') (hd : H d = some (.lst xs)) : ∀ t ys, H t = some (.tup ys) → H' t = some (.tup ys) := fun t ys h => k t _ (fun e => by rw [e, hd] at h; cases h) h
theorem Prs.len {H : Hp} {xs : List V} {rs : List Pr} (h : Prs H xs rs) : xs.length = rs.length := Paired.length h
def kf (H : Hp) : V → Pr
  | .ref t => match H t with
    | some (.tup [.int i, .int j]) => (i, j)
    | _ => (0, 0)
  | _ => (0, 0)
theorem kf_at {H : Hp} {x : V} {r : Pr} (h : PrAt H x r) : kf H x = r := by
  obtain ⟨t, rfl, e⟩ := h
  show (match H t with | some (.tup [.int i, .int j]) => (i, j) | _ => (0, 0)) = r
  rw [e]
theorem Prs.kf {H : Hp} : ∀ {xs : List V} {rs : List Pr}, Prs H xs rs → xs.map (kf H) = rs
  | [], [], .nil => rfl
  | _ :: _, _ :: _, .cons a b => by rw [List.map_cons, kf_at a, Prs.kf b]
theorem Prs.mem {H : Hp} : ∀ {xs : List V} {rs : List Pr}, Prs H xs rs → ∀ x ∈ xs, PrAt H x (Dk.kf H x)
  | [], [], .nil, _, h => by cases h
  | _ :: _, _ :: _, .cons a b, x, h => by
    rcases List.mem_cons.mp h with rfl | h
    · rw [kf_at a]; exact a
    · exact Prs.mem b x h
theorem Prs.of_mem {H : Hp} : ∀ {xs : List V}, (∀ x ∈ xs, PrAt H x (Dk.kf H x)) → Prs H xs (xs.map (Dk.kf H))
  | [], _ => .nil
  | x :: xs, h => .cons (h x (List.mem_cons_self ..)) (Prs.of_mem fun y hy => h y (List.mem_cons_of_mem _ hy))
/-- r before s -/
def plt (r s : Pr) : Prop := r.1 < s.1 ∨ (r.1 = s.1 ∧ r.2 < s.2)
def prR (r : Pr) : PyData := .tuple [.int r.1, .int r.2]
theorem prR_eqv (r s : Pr) : PyData.eqv (prR r) (prR s) = decide (r = s) := by
  obtain ⟨a, b⟩ := r
  obtain ⟨c, d⟩ := s
  show (a == c && (b == d && true)) = decide ((a, b) = (c, d))
  by_cases h1 : a = c
  · by_cases h2 : b = d
    · subst h1 h2; simp
    · simp [h2]
  · simp [h1]
theorem any_eqv (rs : List Pr) (r : Pr) : ((rs.map prR).any fun z => PyData.eqv z (prR r)) = decide (r ∈ rs) := by
  induction rs with
  | nil => rfl
  | cons s rs ih =>
    rw [List.map_cons, List.any_cons, ih, prR_eqv]
    by_cases h : s = r
    · subst h; simp
    · have h' : r ≠ s := fun e => h e.symm
      simp [h, h']
theorem prR_shaped (r : Pr) : SeqAt.shaped (prR r) = true := by
  unfold SeqAt.shaped prR
  simp [PyData.canLay0, PyData.canLayAll0, PyData.depth, PyData.depthAll]
theorem prRs_shaped (rs : List Pr) : SeqAt.shaped (.list (rs.map prR)) = true := by
  have h1 : PyData.canLayAll0 (rs.map prR) = true := by
    induction rs with
    | nil => rfl
    | cons r rs ih => show (PyData.canLay0 (prR r) && PyData.canLayAll0 (rs.map prR)) = true; rw [ih]; rfl
  have h2 : PyData.depthAll (rs.map prR) ≤ 1 := by
    clear h1
    induction rs with
    | nil => exact Nat.zero_le _
    | cons r rs ih => show max (PyData.depth (prR r)) (PyData.depthAll (rs.map prR)) ≤ 1; exact Nat.max_le.mpr ⟨by show max 0 (max 0 0) + 1 ≤ 1; decide, ih⟩
  have h3 : PyData.depth (.list (rs.map prR)) ≤ 64 := by
    show PyData.depthAll (rs.map prR) + 1 ≤ 64
    omega
  unfold SeqAt.shaped
  rw [show PyData.canLay0 (.list (rs.map prR)) = true from h1, decide_eq_true h3]
  rfl
theorem dp_pr {K : PySem.W.Frag} {H : Hp} {x : V} {r : Pr} (h : PrAt H x r) : Dp K H x (prR r) := by
  obtain ⟨t, rfl, e⟩ := h
  exact .tup (SqT.of e) (.cons (.int _) (.cons (.int _) .nil))
theorem dpAll_prs {K : PySem.W.Frag} {H : Hp} : ∀ {xs : List V} {rs : List Pr}, Prs H xs rs → DpAll K H xs (rs.map prR)
  | [], [], .nil => .nil
  | _ :: _, _ :: _, .cons a b => .cons (dp_pr a) (dpAll_prs b)
theorem lex_plt {r s : Pr} (h : SrtO.lexB s r = false) (n : r ≠ s) : plt r s := by
  have a := SrtO.lexB_no.mp h
  obtain ⟨r1, r2⟩ := r
  obtain ⟨s1, s2⟩ := s
  simp only [plt] at *
  by_cases h1 : r1 = s1
  · subst h1
    by_cases h2 : r2 = s2
    · subst h2; exact absurd rfl n
    · right; omega
  · left; omega
theorem sorted_plt : ∀ {l : List Pr}, l.Pairwise (fun x y => SrtO.lexB y x = false) → l.Nodup → l.Pairwise plt
  | [], _, _ => .nil
  | x :: l, h, n => by
    have h' := List.pairwise_cons.mp h
    have n' := List.nodup_cons.mp n
    exact .cons (fun y hy => lex_plt (h'.1 y hy) fun e => n'.1 (e ▸ hy)) (sorted_plt h'.2 n'.2)
/-- the parts of a house -/
structure Parts (ts : List Str) (keys : Int) (cs : List Int) (rs : List Pr) : Prop where
  tabs : Tabs ts
  n1 : 1 ≤ ts.length
  n6 : ts.length ≤ 6
  k0 : 0 ≤ keys
  k9 : keys ≤ 9
  cp : cs.Pairwise (· < ·)
  cm : ∀ c ∈ cs, (0 : Int) ≤ c ∧ c < (ts.length : Int)
  rp : rs.Pairwise plt
  rm : ∀ r ∈ rs, (0 : Int) ≤ r.1 ∧ r.1 < ((per ts : Nat) : Int) ∧ (0 : Int) ≤ r.2 ∧ r.2 < (ts.length : Int)
  r10 : rs.length ≤ 10
structure PartsAt (H : Hp) (a : Addr) (ts : List Str) (keys : Int) (cs : List Int) (rs : List Pr) : Prop where
  ex : ∃ aT aC aR xs, H a = some (.tup [.ref aT, .int keys, .ref aC, .ref aR]) ∧ H aT = some (.tup (ts.map V.str)) ∧ H aC = some (.tup (cs.map V.int)) ∧ H aR = some (.tup xs) ∧ Prs H xs rs
theorem PartsAt.mono {H H' : Hp} {a : Addr} {ts : List Str} {keys : Int} {cs : List Int} {rs : List Pr} (h : PartsAt H a ts keys cs rs) (k : ∀ t ys, H t = some (.tup ys) → H' t = some (.tup ys)) : PartsAt H' a ts keys cs rs := by
  obtain ⟨aT, aC, aR, xs, e1, e2, e3, e4, e5⟩ := h
  exact ⟨aT, aC, aR, xs, k _ _ e1, k _ _ e2, k _ _ e3, k _ _ e4, e5.mono k⟩
end Dk

set_option Elab.async false
set_option linter.all false
set_option maxRecDepth 100000
set_option maxHeartbeats 4000000
namespace Dk
open PySem PySem.Spec PyProof.Rows L2 TL
def spParts : Sp := fun vs H Q _ => ∃ (d : Addr) (most : Int) (st : List Int), vs = [.ref d, .int most] ∧ H d = some (.lst (st.map V.int)) ∧ Good st ∧ 1 ≤ most ∧ most ≤ 6 ∧
  ∀ (H' : Hp) (st' : List Int) (a : Addr) (ts : List Str) (keys : Int) (cs : List Int) (rs : List Pr), Kp d H H' → H' d = some (.lst (st'.map V.int)) → Good st' → PartsAt H' a ts keys cs rs → Parts ts keys cs rs → Q (.ref a) H'
structure TxtD (K : PySem.W.Frag) (mg : Str → Option Value) (fT fL : Addr) (fdT fdL : FuncData) : Prop where
  gT : mg "_law_table" = some (.ref fT)
  FT : Fun K "_law_table" "_law_table" sTable fT fdT
  bT : Binds K fdT ["_law_d"] []
  gL : mg "_law_length" = some (.ref fL)
  FL : Fun K "_law_length" "_law_length" sLength fL fdL
  bL : Binds K fdL ["_law_tables"] []
  tuple : mg "tuple" = none
  sorted : mg "sorted" = none
abbrev nParts : List Str := ["_law_d", "_law_most", "_law_k", "_law_tables", "_law_careful", "_law_length_here", "_law_reminders", "_law_reminder"]
section
variable {P : Program} {w : World} {K : PySem.W.Frag} {mg : Str → Option Value} {base : Heap}
theorem scParts : FnScope nParts ["_law_d", "_law_most"] (defScope sParts) := ⟨rfl, rfl, rfl, by decide +kernel, rfl, by decide +kernel, by decide +kernel⟩
theorem ok_parts {f fB fT fL : Addr} {fd fdB fdT fdL : FuncData} (F : Fun K "_law_parts" "_law_parts" sParts f fd) (T : TxtA mg) (B : TxtB K mg fB fdB) (D' : TxtD K mg fT fL fdT fdL) : FnOk P w K mg base CX0 3 f fd ["_law_d", "_law_most"] spParts := by
  have GB : FnOk P w K mg base CX0 1 fB fdB ["_law_d", "_law_limit"] spBelow := ok_below B.F T
  have GT : FnOk P w K mg base CX0 2 fT fdT ["_law_d"] spTable := ok_table D'.FT T B
  have GL : FnOk P w K mg base CX0 1 fL fdL ["_law_tables"] (spLength K) := ok_length D'.FL T
  refine F.ok scParts (fun vs H Q E h => ?_) (fun cdv A outer s H vs Q E hr h => ?_)
  · obtain ⟨d, most, st, rfl, _⟩ := h
    rfl
  · obtain ⟨d, most, st, rfl, hd, hg, hm1, hm6, k⟩ := h
    have hr1 : Room 1 _ := hr.mono (by decide)
    have hu : (A.deeper (envOfC (Str.ofString "_law_parts") (defScope sParts) s.heap.objs.size f cdv)).units + 65 < cLine := by have := hr.un; omega
    refine ⟨_, pss_cons (ps_set (i := 3) scParts.nd rfl (.inl rfl) (pe_callTy call_tuple_of (by rfl) D'.tuple (by decide +kernel) (pa_cons
        (pe_lc (own := [("_law_k", 2)]) (g := gName 2) (by rfl) scParts.nd (pi_range1 rfl T.range (pa_cons (pe_op op_add pe_int (pe_call GB hr1 rfl B.g B.F.kp B.b .nil pass0 (pa_cons (pv 0) (pa_cons (pv 1) pa_nil)))) pa_nil)) (blkOk_by (N := nParts) (sc := defScope sParts) (by decide +kernel))
          (fun _ _ _ _ _ => pg_name (i := 2) scParts.nd rfl (Or.inl rfl)) (fun _ _ _ _ _ => pts_nil)
          (fun _ _ _ _ _ => pe_call GT hr rfl D'.gT D'.FT.kp D'.bT .nil pass0 (pa_cons (pv 0) pa_nil))) pa_nil)))
      (pss_cons (ps_set (i := 4) scParts.nd rfl (.inl rfl) (pe_callTy call_tuple_of (by rfl) D'.tuple (by decide +kernel) (pa_cons
        (pe_lc (own := [("_law_k", 2)]) (g := gName 2) (by rfl) scParts.nd (pi_range1 rfl T.range (pa_cons (pe_callB call_len_seq (by rfl) T.len PySem.boot_len (pa_cons (pv 3) pa_nil)) pa_nil)) (blkOk_by (N := nParts) (sc := defScope sParts) (by decide +kernel))
          (fun _ _ _ _ _ => pg_name (i := 2) scParts.nd rfl (Or.inl rfl)) (fun _ _ _ _ _ => pts_one (pt_cmpR op_eq (pe_call GB hr1 rfl B.g B.F.kp B.b .nil pass0 (pa_cons (pv 0) (pa_cons pe_int pa_nil))) pe_int (nomark _)))
          (fun _ _ _ _ _ => pv 2)) pa_nil)))
      (pss_cons (ps_par (by rfl) scParts.nd (i := 5) (j := 6) rfl rfl (by decide) rfl rfl (pa_cons (pe_call GL hr1 rfl D'.gL D'.FL.kp D'.bL .nil pass0 (pa_cons (pv 3) pa_nil)) (pa_cons (pe_lst pa_nil) pa_nil)) (by rfl))
      (pss_cons (ps_for PassesOwn.never rfl (pi_range1 rfl T.range (pa_cons (pe_call GB hr1 rfl B.g B.F.kp B.b .nil pass0 (pa_cons (pv 0) (pa_cons
            (pe_ix ix_list (pe_lst (pa_cons pe_int (pa_cons pe_int (pa_cons pe_int pa_nil)))) (pe_call GB hr1 rfl B.g B.F.kp B.b .nil pass0 (pa_cons (pv 0) (pa_cons pe_int pa_nil))) (fun _ _ => rfl)) pa_nil))) pa_nil)) (pg_name (i := 2) scParts.nd rfl (.inl rfl))
          (pss_cons (ps_set (i := 7) scParts.nd rfl (.inl rfl) (pe_tup (pa_cons (pe_call GB hr1 rfl B.g B.F.kp B.b .nil pass0 (pa_cons (pv 0) (pa_cons (pv 5) pa_nil)))
              (pa_cons (pe_call GB hr1 rfl B.g B.F.kp B.b .nil pass0 (pa_cons (pv 0) (pa_cons (pe_callB call_len_seq (by rfl) T.len PySem.boot_len (pa_cons (pv 3) pa_nil)) pa_nil))) pa_nil))))
          (pss_one (ps_if (pt_cmpR (op_notInD hu) (pv 7) (pv 6) (by rfl))
            (pss_one (ps_expr (pe_bm PySem.F.plainAttrs_list PySem.F.slot_list_append PySem.F.type_list_append mt_append (pv 6) (pa_cons (pv 7) pa_nil)))) pss_nil))))
      (pss_one (ps_ret (pe_tup (pa_cons (pv 3) (pa_cons (pe_call GB hr1 rfl B.g B.F.kp B.b .nil pass0 (pa_cons (pv 0) (pa_cons
            (pe_ix ix_list (pe_lst (pa_cons pe_int (pa_cons pe_int pa_nil))) (pe_call GB hr1 rfl B.g B.F.kp B.b .nil pass0 (pa_cons (pv 0) (pa_cons pe_int pa_nil))) (fun _ _ => rfl)) pa_nil)))
          (pa_cons (pv 4) (pa_cons (pe_callTy call_tuple_of (by rfl) D'.tuple (by decide +kernel) (pa_cons (pe_callB cr_sortedPO (by rfl) D'.sorted (by decide +kernel) (pa_cons (pv 6) pa_nil)) pa_nil)) pa_nil)))))))))), ?_⟩
    -- the timetables
    refine ⟨_, rfl, _, rfl, d, most, st, rfl, hd, hg, hm1, by omega, fun H1 st1 r1 k1 hd1 hg1 r10 r11 => ?_⟩
    refine ⟨_, _, rfl, rfl, _, rfl, by omega, by omega, fun D hD => lc_range (lo := 0) (n := (1 + r1).toNat)
      (fun i H3 => ∃ (st3 : List Int) (ts : List Str), Kp d H1 H3 ∧ H3 d = some (.lst (st3.map V.int)) ∧ Good st3 ∧ H3 D = some (.lst (ts.map V.str)) ∧ ts.length = i ∧ Tabs ts)
      ⟨st1, [], sKp (same_upd hD), same_upd hD _ _ hd1, hg1, upd_same, rfl, fun t ht => by cases ht⟩ ?_ ?_⟩
    · rintro i H3 hi ⟨st3, ts, k3, hd3, hg3, eD, hl, hT⟩
      have ndD : d ≠ D := ne_of_none hd1 hD
      refine ⟨rfl, _, rfl, d, st3, rfl, hd3, hg3, fun H4 st4 t k4 hd4 hg4 ht => ?_⟩
      refine ⟨_, k4 _ _ ndD.symm eD, ?_, st4, ts ++ [t], fun b o nb eb => ?_, by rw [upd_ne ndD]; exact hd4, hg4, by rw [upd_same]; simp, by rw [List.length_append, hl]; rfl, fun x hx => ?_⟩
      · rw [List.length_map, hl]; exact Nat.lt_of_le_of_lt (by omega : i ≤ 1000) (by decide)
      · rw [upd_ne (ne_of_none eb hD)]; exact k4 _ _ nb (k3 _ _ nb eb)
      · rcases List.mem_append.mp hx with hx | hx
        · exact hT x hx
        · rw [List.mem_singleton.mp hx]; exact ht
    rintro H3 ⟨st3, ts, k3, hd3, hg3, eD, hl, hT⟩
    have hl6 : 1 ≤ ts.length ∧ ts.length ≤ 6 := by omega
    clear hl
    refine ⟨D, ts.map V.str, rfl, .inl ⟨SqL.of eD, fun aT haT => ?_⟩⟩
    have kA : Kp d H (upd H3 aT (.tup (ts.map V.str))) := (k1.trans k3).trans (sKp (same_upd haT))
    have hdA : (upd H3 aT (.tup (ts.map V.str))) d = some (.lst (st3.map V.int)) := same_upd haT _ _ hd3
    have eT : (upd H3 aT (.tup (ts.map V.str))) aT = some (.tup (ts.map V.str)) := upd_same
    generalize upd H3 aT (.tup (ts.map V.str)) = HA at kA hdA eT
    clear k1 hd1 hg1 k3 hd3 eD haT hD hd hg
    -- the careful persons
    refine ⟨_, rfl, aT, _, rfl, .inr (SqT.of eT), _, rfl, by omega, by rw [List.length_map]; omega, fun D hD => lc_range (lo := 0) (n := (((ts.map V.str).length : Nat) : Int).toNat)
      (fun i H3 => ∃ (st3 : List Int) (cs : List Int), Kp d HA H3 ∧ H3 d = some (.lst (st3.map V.int)) ∧ Good st3 ∧ H3 D = some (.lst (cs.map V.int)) ∧ cs.length ≤ i ∧ cs.Pairwise (· < ·) ∧ ∀ c ∈ cs, (0 : Int) ≤ c ∧ c < (i : Int))
      ⟨st3, [], sKp (same_upd hD), same_upd hD _ _ hdA, hg3, upd_same, Nat.le_refl _, .nil, fun t ht => by cases ht⟩ ?_ ?_⟩
    · rintro i H3 hi ⟨st3, cs, k3, hd3, hg3, eD, hl, hP, hC⟩
      have ndD : d ≠ D := ne_of_none hdA hD
      rw [List.length_map] at hi
      refine ⟨rfl, _, rfl, d, 3, st3, rfl, hd3, hg3, by decide, by decide, fun H4 st4 r4 k4 hd4 hg4 r40 r41 => ?_⟩
      have eD4 := k4 _ _ ndD.symm eD
      refine ⟨rfl, _, rfl, ite2 (fun c => ?_) (fun c => ?_)⟩
      · refine ⟨_, rfl, _, eD4, ?_, st4, cs ++ [(0 : Int) + (i : Int)], fun b o nb eb => ?_, by rw [upd_ne ndD]; exact hd4, hg4, by rw [upd_same]; simp, by rw [List.length_append, List.length_singleton]; omega, ?_, fun x hx => ?_⟩
        · rw [List.length_map]; exact Nat.lt_of_le_of_lt (by omega : cs.length ≤ 1000) (by decide)
        · rw [upd_ne (ne_of_none eb hD)]; exact k4 _ _ nb (k3 _ _ nb eb)
        · refine List.pairwise_append.mpr ⟨hP, List.pairwise_singleton _ _, fun x hx y hy => ?_⟩
          rw [List.mem_singleton.mp hy]
          have := hC x hx
          omega
        · rcases List.mem_append.mp hx with hx | hx
          · have := hC x hx; omega
          · rw [List.mem_singleton.mp hx]; omega
      · exact ⟨st4, cs, fun b o nb eb => k4 _ _ nb (k3 _ _ nb eb), hd4, hg4, eD4, by omega, hP, fun x hx => by have := hC x hx; omega⟩
    rintro H3 ⟨st4, cs, k3, hd3, hg4, eD, hl, hCP, hCM⟩
    rw [List.length_map] at hl hCM
    refine ⟨D, cs.map V.int, rfl, .inl ⟨SqL.of eD, fun aC haC => ?_⟩⟩
    have kB : Kp d H (upd H3 aC (.tup (cs.map V.int))) := (kA.trans k3).trans (sKp (same_upd haC))
    have hdB : (upd H3 aC (.tup (cs.map V.int))) d = some (.lst (st4.map V.int)) := same_upd haC _ _ hd3
    have eT2 : (upd H3 aC (.tup (cs.map V.int))) aT = some (.tup (ts.map V.str)) := same_upd haC _ _ (kp_tup k3 hdA _ _ eT)
    have eC : (upd H3 aC (.tup (cs.map V.int))) aC = some (.tup (cs.map V.int)) := upd_same
    generalize upd H3 aC (.tup (cs.map V.int)) = HB at kB hdB eT2 eC
    clear kA hdA eT k3 hd3 hg3 eD haC hD
    -- the period; no reminders yet
    refine ⟨_, rfl, aT, ts, rfl, SqT.of eT2, hT, hl6.2, fun HC sC => ?_⟩
    refine ⟨Nat.zero_le _, fun l hL => ?_⟩
    have kC : Kp d H (upd HC l (.lst [])) := (kB.trans (sKp sC)).trans (sKp (same_upd hL))
    have hdC := same_upd (o := .lst []) hL _ _ (sC _ _ hdB)
    have eT3 := same_upd (o := .lst []) hL _ _ (sC _ _ eT2)
    have eC3 := same_upd (o := .lst []) hL _ _ (sC _ _ eC)
    have eL : (upd HC l (.lst [])) l = some (.lst []) := upd_same
    have ndl : d ≠ l := ne_of_none (sC _ _ hdB) hL
    have nHl : H l = none := by
      cases q : H l with
      | none => rfl
      | some o =>
        have := (kB.trans (sKp sC)) l o ndl.symm q
        rw [hL] at this
        cases this
    generalize upd HC l (.lst []) = HD at kC hdC eT3 eC3 eL
    clear kB hdB eT2 eC sC hL
    refine ⟨_, _, rfl, ?_⟩
    -- the reminders
    refine ⟨_, rfl, by show 3 ≤ sizeLine; decide, fun l1 hl1 => ?_⟩
    have s1 : Same HD (upd HD l1 (.lst [.int 1, .int 4, .int 11])) := same_upd hl1
    have n1 : l1 ≠ d := (ne_of_none hdC hl1).symm
    refine ⟨_, rfl, d, 3, st4, rfl, s1 _ _ hdC, hg4, by decide, by decide, fun HE st5 r5 k5 hd5 hg5 r50 r51 => ?_⟩
    have e1 : HE l1 = some (.lst (([1, 4, 11] : List Int).map V.int)) := k5 _ _ n1 upd_same
    obtain ⟨z1, hz1, a1⟩ := at_mem (L := [1, 4, 11]) r50 (by simpa using r51)
    have hz : 1 ≤ z1 ∧ z1 ≤ 11 := by simp at hz1; omega
    refine ⟨l1, _, r5, _, rfl, rfl, SqL.of e1, a1, d, z1, st5, rfl, hd5, hg5, hz.1, by omega, fun HF st6 r6 k6 hd6 hg6 r60 r61 => ?_⟩
    have kF : Kp d HD HF := (sKp s1).trans (k5.trans k6)
    have tF := kp_tup kF hdC
    refine ⟨_, rfl, by omega, by omega, for_range (lo := 0) (n := r6.toNat)
      (fun i σ H' => ∃ (st7 : List Int) (xs : List V) (rs : List Pr) (v2 v7 : Option V), σ = [some (.ref d), some (.int most), v2, some (.ref aT), some (.ref aC), some (.int ((per ts : Nat) : Int)), some (.ref l), v7] ∧
        Kp d H H' ∧ H' d = some (.lst (st7.map V.int)) ∧ Good st7 ∧ H' aT = some (.tup (ts.map V.str)) ∧ H' aC = some (.tup (cs.map V.int)) ∧ H' l = some (.lst xs) ∧ Prs H' xs rs ∧ rs.Nodup ∧ rs.length ≤ i ∧
        ∀ r ∈ rs, (0 : Int) ≤ r.1 ∧ r.1 < ((per ts : Nat) : Int) ∧ (0 : Int) ≤ r.2 ∧ r.2 < (ts.length : Int))
      ⟨st6, [], [], none, none, rfl, kC.trans kF, hd6, hg6, tF _ _ eT3, tF _ _ eC3, kF _ _ ndl.symm eL, .nil, .nil, Nat.le_refl _, fun r hr => by cases hr⟩ ?_ ?_⟩
    · rintro i σ H' hi ⟨st7, xs, rs, v2, v7, rfl, kG, hd7, hg7, eT4, eC4, eL4, hP, hN, hlen, hM⟩
      refine ⟨_, rfl, _, rfl, d, _, st7, rfl, hd7, hg7, by have := per_pos hT; omega, by have := per_le hT; omega, fun H5 st8 ra k8 hd8 hg8 ra0 ra1 => ?_⟩
      refine ⟨_, rfl, _, rfl, aT, _, rfl, .inr (SqT.of (kp_tup k8 hd7 _ _ eT4)), d, _, st8, rfl, hd8, hg8, by rw [List.length_map]; omega, by rw [List.length_map]; omega, fun H6 st9 rb k9 hd9 hg9 rb0 rb1 => ?_⟩
      rw [List.length_map] at rb1
      have kH : Kp d H' H6 := k8.trans k9
      have tH := kp_tup kH hd7
      refine ⟨by show 2 ≤ sizeLine; decide, fun p hp => ?_⟩
      have eL6 := same_upd (o := .tup [.int ra, .int rb]) hp _ _ (kH _ _ ndl.symm eL4)
      have hP6 : Prs (upd H6 p (.tup [.int ra, .int rb])) xs rs := hP.mono fun t ys h => same_upd hp _ _ (tH _ _ h)
      have hPr : PrAt (upd H6 p (.tup [.int ra, .int rb])) (.ref p) (ra, rb) := ⟨p, rfl, upd_same⟩
      have kI : Kp d H (upd H6 p (.tup [.int ra, .int rb])) := (kG.trans kH).trans (sKp (same_upd hp))
      have hd10 := same_upd (o := .tup [.int ra, .int rb]) hp _ _ hd9
      have eT6 := same_upd (o := .tup [.int ra, .int rb]) hp _ _ (tH _ _ eT4)
      have eC6 := same_upd (o := .tup [.int ra, .int rb]) hp _ _ (tH _ _ eC4)
      generalize upd H6 p (.tup [.int ra, .int rb]) = H7 at eL6 hP6 hPr kI hd10 eT6 eC6
      refine ⟨_, rfl, _, rfl, prR (ra, rb), rs.map prR, dp_pr hPr, .lst (SqL.of eL6) (dpAll_prs hP6), prR_shaped _, prRs_shaped _, _, rfl, ?_⟩
      rw [any_eqv]
      by_cases c : (ra, rb) ∈ rs
      · rw [decide_eq_true c]
        refine iteF ?_
        exact ⟨st9, xs, rs, _, _, rfl, kI, hd10, hg9, eT6, eC6, eL6, hP6, hN, by omega, hM⟩
      · rw [decide_eq_false c]
        refine iteT ?_
        refine ⟨_, rfl, .inl ⟨rfl, _, SqL.of eL6⟩, _, rfl, l, _, _, rfl, rfl, eL6, ?_, ?_⟩
        · rw [hP6.len]; exact Nat.lt_of_le_of_lt (by omega : rs.length ≤ 1000) (by decide)
        · have nlT : aT ≠ l := fun e => by rw [e, eL6] at eT6; cases eT6
          have nlC : aC ≠ l := fun e => by rw [e, eL6] at eC6; cases eC6
          have tK : ∀ t ys, H7 t = some (.tup ys) → (upd H7 l (.lst (xs ++ [V.ref p]))) t = some (.tup ys) := fun t ys h => by
            rw [upd_ne (fun e => by rw [e, eL6] at h; cases h)]; exact h
          refine ⟨st9, _, rs ++ [(ra, rb)], _, _, rfl, fun b o nb eb => ?_, by rw [upd_ne ndl]; exact hd10, hg9, tK _ _ eT6, tK _ _ eC6, upd_same, (hP6.mono tK).app ?_, ?_, ?_, fun r hr => ?_⟩
          · rw [upd_ne (fun e => by rw [e, nHl] at eb; cases eb)]; exact kI _ _ nb eb
          · obtain ⟨t, e, h⟩ := hPr
            exact ⟨t, e, tK _ _ h⟩
          · refine List.nodup_append.mpr ⟨hN, (by simp), fun a ha b hb => ?_⟩
            rw [List.mem_singleton.mp hb]
            exact fun e => c (e ▸ ha)
          · rw [List.length_append, List.length_singleton]; omega
          · rcases List.mem_append.mp hr with hr | hr
            · exact hM r hr
            · rw [List.mem_singleton.mp hr]; exact ⟨ra0, ra1, rb0, rb1⟩
    rintro σ H' ⟨st7, xs, rs, v2, v7, rfl, kG, hd7, hg7, eT4, eC4, eL4, hP, hN, hlen, hM⟩
    have hl10 : rs.length ≤ 10 := by omega
    -- the answer
    refine ⟨_, rfl, _, rfl, by show 2 ≤ sizeLine; decide, fun l2 hl2 => ?_⟩
    have s2 : Same H' (upd H' l2 (.lst [.int 3, .int 10])) := same_upd hl2
    have n2 : l2 ≠ d := (ne_of_none hd7 hl2).symm
    refine ⟨_, rfl, d, 2, st7, rfl, s2 _ _ hd7, hg7, by decide, by decide, fun H5 st8 r8 k8 hd8 hg8 r80 r81 => ?_⟩
    have e2 : H5 l2 = some (.lst (([3, 10] : List Int).map V.int)) := k8 _ _ n2 upd_same
    obtain ⟨z2, hz2, a2⟩ := at_mem (L := [3, 10]) r80 (by simpa using r81)
    have hz3 : 1 ≤ z2 ∧ z2 ≤ 10 := by simp at hz2; omega
    refine ⟨l2, _, r8, _, rfl, rfl, SqL.of e2, a2, d, z2, st8, rfl, hd8, hg8, hz3.1, by omega, fun H6 st9 keys k9 hd9 hg9 ky0 ky1 => ?_⟩
    have k10 : Kp d H' H6 := (sKp s2).trans (k8.trans k9)
    have t10 := kp_tup k10 hd7
    have hP6 := hP.mono t10
    have eL6 := k10 _ _ ndl.symm eL4
    refine ⟨_, rfl, _, rfl, l, xs, kf H6, rfl, SqL.of eL6, fun x hx => hP6.mem x hx, fun ys p hs hst hp => ?_⟩
    refine ⟨p, ys, rfl, .inl ⟨SqL.of upd_same, fun aR haR => ?_⟩⟩
    have s3 := same_upd (o := .lst ys) hp
    have s4 := same_upd (o := .tup ys) haR
    refine ⟨by show 4 ≤ sizeLine; decide, fun a ha => ?_⟩
    have s5 := same_upd (o := .tup [V.ref aT, V.int keys, V.ref aC, V.ref aR]) ha
    have perm : ys.Perm xs := hst.perm
    have hPy : Prs H6 ys (ys.map (kf H6)) := Prs.of_mem fun y hy => hP6.mem y (perm.mem_iff.mp hy)
    have permR : (ys.map (kf H6)).Perm rs := by
      have := perm.map (kf H6)
      rw [hP6.kf] at this
      exact this
    have s6 := (s3.trans s4).trans s5
    refine k _ st9 a ts keys cs (ys.map (kf H6)) ((kG.trans k10).trans (sKp s6)) (s6 _ _ hd9) hg9 ⟨⟨aT, aC, aR, ys, upd_same, s6 _ _ (t10 _ _ eT4), s6 _ _ (t10 _ _ eC4), s5 _ _ upd_same, hPy.mono fun t zs h => s6 _ _ h⟩⟩ ?_
    refine ⟨hT, hl6.1, hl6.2, ky0, by omega, hCP, fun c hc => ⟨(hCM c hc).1, ?_⟩, ?_, fun r hr => hM r (permR.mem_iff.mp hr), by rw [permR.length_eq]; exact hl10⟩
    · have := (hCM c hc).2; omega
    · refine sorted_plt ?_ (permR.nodup_iff.mpr hN)
      rw [List.pairwise_map]
      exact hs
end
end Dk

set_option Elab.async false
set_option linter.all false
set_option maxRecDepth 100000
set_option maxHeartbeats 4000000
/-! enumerate(tuple) -/
namespace Dk
open PySem PySem.Spec PyProof.Rows L2
theorem meets_enumB {v : Value} {o : Obj} {H : Heap → Prop} (B : Begins v o H) :
    Meets (Builtin.«enumerate.__new__» ⟨[.type "enumerate", v], []⟩) (fun _ R s => H s.heap ∧
      R (.ok (.ret (.ref (s.heap.push o).objs.size))) { s with heap := (s.heap.push o).push { cls := .type "enumerate", data := .fields #[.none, .bool false, .ref s.heap.objs.size, rawInt 0, .none, .none] } }) :=
  .of_wp fun prog w A R s h => by
    obtain ⟨hh, hR⟩ := h
    cases s with
    | mk h0 g0 d0 t0 o0 =>
      have _ := sub_enumerate
      have begin_ {A1 : Around} {E1 Q1 : Value → Shared → Prop} (q : Q1 (.ref h0.objs.size) ⟨h0.push o, g0, d0, t0, o0⟩) : wpAny (model prog w) A1 (pyIter v) Q1 E1 ⟨h0, g0, d0, t0, o0⟩ := B.iter prog w _ _ _ _ hh q
      (wp_walk using begin_); refine wpAny_stack_any fun _ => ?_
      refine wpAny_pure ?_
      split
      next c _ _ _ _ _ => cases (c == Value.type "enumerate") <;> (wp_walk using begin_) <;> exact ⟨_, rfl, hR⟩
      next => (wp_walk using begin_); exact ⟨_, rfl, hR⟩
section
variable {prog : Program} {w : World} {A : Around} {E : Value → Shared → Prop} {s : Shared}
theorem enum_beginsB {v : Value} {o : Obj} {H : Heap → Prop} {Q : Value → Shared → Prop} (B : Begins v o H) (h1 : H s.heap)
    (h : ∀ h', IsEnum h' (s.heap.objs.size + 1) s.heap.objs.size 0 .none → h'.get? s.heap.objs.size = some o → h'.objs.size = s.heap.objs.size + 2 →
      (∀ b o, s.heap.get? b = some o → h'.get? b = some o) → Q (.ref (s.heap.objs.size + 1)) { s with heap := h' }) :
    wpAny (model prog w) A (call (.type "enumerate") [v]) Q E s := by
  refine callType_new F.called_enumerate (by decide) (F.typeCall_enumerate_1 _) (F.newCall_enumerate_1 _) (fun obj => F.args_object_init_2 obj _) F.entry_enumerate_new
    (meets_enumB B) ⟨h1, ?_⟩
  have hzz : (s.heap.push o).objs.size = s.heap.objs.size + 1 := Heap.size_push ..
  show _ ∧ _
  rw [hzz]
  have he : IsEnum ((s.heap.push o).push { cls := .type "enumerate", data := .fields #[.none, .bool false, .ref s.heap.objs.size, rawInt 0, .none, .none] }) (s.heap.objs.size + 1) s.heap.objs.size 0 .none := by
    have := Heap.get?_push_size (s.heap.push o) (o := { cls := .type "enumerate", data := .fields #[.none, .bool false, .ref s.heap.objs.size, rawInt 0, .none, .none] }) rfl
    rw [hzz] at this; exact this
  refine ⟨⟨_, he, rfl⟩, h _ he (Heap.get?_push_of_some _ (Heap.get?_push_size _ B.free)) (by rw [Heap.size_push, hzz]) fun b o x => Heap.get?_push_of_some _ (Heap.get?_push_of_some _ x)⟩
end
/-- the tuple at a, each item in a nw pair -/
def IteT (K : PySem.W.Frag) (a : Addr) : It :=
  ⟨fun i H => ∃ (xs : List V) (x : V), SqT K H a xs ∧ xs[i]? = some x, fun i H v H' => ∃ T x, v = .ref T ∧ H T = none ∧ H' = upd H T (.tup [.int (i : Nat), x]) ∧ ∀ xs, SqT K H a xs → xs[i]? = some x, fun i H => ∃ xs : List V, SqT K H a xs ∧ xs.length = i⟩
theorem turn_enumT {P : Program} {w : World} {K : PySem.W.Frag} {elts : List Expr} {kk : Nat} {tpos : Pos} (a e it : Addr) :
    Turn P w K (.Tuple elts kk tpos) (IteT K a) [e, it] e (fun i h => (∃ was, IsEnum h e it ((i : Nat) : Int) was) ∧ h.IsTupleIter it a i ∧ e ≠ it ∧ a ≠ it ∧ a ≠ e) where
  mem := by simp
  obj := fun i h stt b hb => by
    obtain ⟨⟨was, he⟩, ⟨o, hob, hcl, hd⟩, _⟩ := stt
    have ee : b = e ∨ b = it := by simpa using hb
    rcases ee with z | z
    · rw [z]; exact ⟨_, he, fun v q => nomatch q⟩
    · rw [z]; exact ⟨o, hob, fun v q => by rw [hd] at q; cases q⟩
  keep := fun i h h' stt k => let ⟨⟨was, he⟩, hi, neq⟩ := stt; ⟨⟨was, k e (by simp) _ he⟩, hi.at fun o q => k it (by simp) o q, neq⟩
  item := by
    intro X hP hw hK hcl i pins s σ H E I hf stt hg
    subst hP hw hK
    obtain ⟨⟨was, he⟩, hit, neq, hai, hae⟩ := stt
    obtain ⟨xs, x, hq, hx⟩ := hg
    obtain ⟨its, rv, p, hzz⟩ := I.tuple hq
    obtain ⟨u, hu, ru⟩ := rv.get hx
    have elt : e < s.heap.objs.size := Heap.lt_size he
    have ilt : it < s.heap.objs.size := by obtain ⟨_, q, _⟩ := hit; exact Heap.lt_size q
    have hlen : i < its.toArray.size := by
      have h1 := (List.getElem?_eq_some_iff.mp hu).1
      simpa using h1
    refine wpAny_pyNext_enum_itemC (n := its.toArray.size) (i := i) (Draws.tuple (A := X.A.in1) (show X.A.in1.handled = none from I.ok.hd hcl) it a hai its.toArray) he ⟨hit, p⟩ hlen neq (by simp; exact ⟨neq, fun z => hae z.symm⟩) fun y h' tk hP hob hst hT hsize hkeep => ?_
    have ey : y = u := by
      have h1 : its.toArray[i]? = some u := by simpa using hu
      rw [h1] at hP
      exact (Option.some.inj hP).symm
    subst ey
    refine ⟨_, rfl, wpAny_letOwnedTupleGo_enum (s := { s with heap := h', toks := tk + 1 }) hob fun h'' he' same2 => ?_⟩
    have hT2 : h''.get? s.heap.objs.size = some { cls := .type "tuple", data := .seq #[.int i tk, y] } := (same2.2 _ (Nat.ne_of_gt elt)).trans hT
    have nw : ObjOk X.prog X.w (upd H s.heap.objs.size (.tup [.int (i : Nat), x])) h'' s.heap.objs.size (.tup [.int (i : Nat), x]) :=
      ⟨by show 2 ≤ sizeLine; decide, [.int i tk, y], .cons ⟨_, rfl⟩ (.cons ru .nil), ⟨_, hT2, rfl, _, rfl⟩⟩
    have J1 : Inv X pins σ (upd H s.heap.objs.size (.tup [.int (i : Nat), x])) { s with heap := h'', toks := tk + 1 } :=
      I.turnedNew (ch := [e, it]) (fun b ob hb q => (same2.2 b (fun z => hb (by simp [z]))).trans (hkeep b ob (fun z => hb (by simp [z])) (fun z => hb (by simp [z])) q)) hf (Nat.le_refl _) nw
    refine ⟨.ref s.heap.objs.size, _, J1, rfl, ⟨_, x, rfl, I.hok.fresh (Nat.le_refl _), rfl, fun ys hy => by rw [I.tuple_inj hy hq]; exact hx⟩, ⟨⟨y, ?_⟩, hst.1.at fun o q => (same2.2 it (Ne.symm neq)).trans q, neq, hai, hae⟩, fun b hb => ?_⟩
    · have esum : ((i + 1 : Nat) : Int) = (i : Int) + 1 := by omega
      rw [esum]; exact he'
    · have hlow : b < s.heap.objs.size := by
        have ee : b = e ∨ b = it := by simpa using hb
        rcases ee with z | z
        · rw [z]; exact elt
        · rw [z]; exact ilt
      rw [upd_ne (Nat.ne_of_lt hlow)]
      exact (hf b hb).1
  done := by
    intro X hP hw hK hcl i pins s σ H E I hf stt hg
    subst hP hw hK
    obtain ⟨⟨was, he⟩, hit, neq, hai, hae⟩ := stt
    obtain ⟨xs, hq, hx⟩ := hg
    obtain ⟨its, rv, p, hzz⟩ := I.tuple hq
    obtain ⟨k0, k1, k2, k3, k4, k5⟩ := hf it (by simp)
    have hl : its.toArray.size = i := by have := rv.length; simp; omega
    have D := Draws.tuple (prog := X.prog) (w := X.w) (A := X.A.in1) (I.ok.hd hcl) it a hai its.toArray
    exact wpAny_pyNext_enum_endD D he (hl ▸ ⟨hit, p⟩) fun h' eb => ⟨rfl, I.turned (t' := s.toks) (fun b o hb q => eb b o hb q) k0 k1 k3 k4 k5⟩
  self := fun A i s Q E stt h => let ⟨⟨_, he⟩, _⟩ := stt; wpAny_pyIter_enum he h
def iEnumT (K : PySem.W.Frag) (ta : TA) : TI := fun σ H R => ta σ H fun vs H1 => ∃ a xs, vs = [.ref a] ∧ SqT K H1 a xs ∧ R (IteT K a) H1
theorem pi_enumT {X : Cx} {e : Expr} {ta : TA} {p pos tpos : Pos} {elts : List Expr} {kk : Nat} (hg : Gl X "enumerate") (hm : X.mg "enumerate" = none) (ha : PA X [e] ta) (hs : starEach [e] X.env = [(false, eval e X.env)] := by rfl) :
    PI X (.Tuple elts kk tpos) (.Call (.Name "enumerate" p) [e] [] pos) (iEnumT X.K ta) := by
  refine ⟨fun pins s σ H R I h => ?_⟩
  refine Call_ (ld_blt I hg hm boot_enumerate (PyProof.Rows.callWith_type1 (thn (ha.run pos pins s σ H _ I h) fun us s1 ⟨vs, H1, J1, r1, q1⟩ => ?_) hs rfl))
  obtain ⟨a, xs, ex, hq, q⟩ := q1
  subst ex
  cases r1 with
  | cons r rr =>
    cases rr
    cases r
    obtain ⟨its, rv, p', hzz⟩ := J1.tuple hq
    have hal : a < s1.heap.objs.size := p'.lt
    refine enum_beginsB (begins_tuple a its.toArray) p' fun h' he hit hsize hkeep => wpAny_pyIter_enum he ?_
    have J2 : Inv X pins σ H1 { s1 with heap := h' } := J1.kept (t' := s1.toks) hkeep
    refine ⟨s1.heap.objs.size + 1, [s1.heap.objs.size + 1, s1.heap.objs.size], _, _, H1, rfl, J2, turn_enumT a (s1.heap.objs.size + 1) s1.heap.objs.size, ⟨⟨.none, he⟩, ⟨_, hit, rfl, rfl⟩, Nat.succ_ne_self _, Nat.ne_of_lt hal, Nat.ne_of_lt (Nat.lt_succ_of_lt hal)⟩, fun b hb => ?_, q⟩
    have ee : b = s1.heap.objs.size + 1 ∨ b = s1.heap.objs.size := by simpa using hb
    have hle : s1.heap.objs.size ≤ b := by
      rcases ee with z | z
      · rw [z]; exact Nat.le_add_right _ _
      · rw [z]; exact Nat.le_refl _
    exact J1.fpOk hle (J1.hok.fresh hle)
theorem walk_enumT {K : PySem.W.Frag} {a : Addr} {xs : List V} : Walk (IteT K a) xs.length (fun H => SqT K H a xs) (YPair (fun i => some (.int (i : Nat))) (fun i => xs[i]?)) := by
  refine ⟨fun i _ hi q => ⟨xs, xs[i], q, by simp [hi]⟩, fun _ q => ⟨xs, q, rfl⟩, fun i H v H' hi q y => ?_⟩
  obtain ⟨T, x, esum, e2, e3, e4⟩ := y
  exact ⟨T, _, x, esum, e2, e3, rfl, e4 xs q⟩
end Dk

set_option Elab.async false
set_option linter.all false
set_option maxRecDepth 100000
set_option maxHeartbeats 4000000
namespace Dk
open PySem PySem.Spec PyProof.Rows L2 TL
/-! ### what the checks say of any data -/
def tyN : PyData → String
  | .none => "NoneType"
  | .bool _ => "bool"
  | .int _ => "int"
  | .str _ => "str"
  | .list _ => "list"
  | .tuple _ => "tuple"
  | .dict _ => "dict"
theorem tyx {K : PySem.W.Frag} {H : Hp} {v : V} {d : PyData} (h : Dp K H v d) : TyX K H v (.type (tyN d)) := by
  cases h with
  | non => exact .base .non
  | bl b => exact .base (.bl b)
  | int i => exact .base (.int i)
  | str x => exact .base (.str x)
  | lst hs ha =>
    rcases hs with (e | ⟨o, e⟩) | ⟨o, its, n, hk, hc, _⟩
    · exact .base (.lst e)
    · exact .base (.frz e)
    · exact .kList hk hc
  | tup hs ha =>
    rcases hs with (e | ⟨o, e⟩) | ⟨o, its, n, hk, hc, _⟩
    · exact .base (.tup e)
    · exact .fTuple e
    · exact .kTuple hk hc
def isIntD : PyData → Bool
  | .int _ => true
  | _ => false
def isIntB : PyData → Bool
  | .int _ => true
  | .bool _ => true
  | _ => false
def isBoolD : PyData → Bool
  | .bool _ => true
  | _ => false
def isStrD : PyData → Bool
  | .str _ => true
  | _ => false
def isTupD : PyData → Bool
  | .tuple _ => true
  | _ => false
def isLstD : PyData → Bool
  | .list _ => true
  | _ => false
theorem kit_int : ∀ d : PyData, kitB (tyN d) "int" = some (isIntB d)
  | .none => (by decide +kernel : kitB "NoneType" "int" = some false)
  | .bool _ => (by decide +kernel : kitB "bool" "int" = some true)
  | .int _ => (by decide +kernel : kitB "int" "int" = some true)
  | .str _ => (by decide +kernel : kitB "str" "int" = some false)
  | .list _ => (by decide +kernel : kitB "list" "int" = some false)
  | .tuple _ => (by decide +kernel : kitB "tuple" "int" = some false)
  | .dict _ => (by decide +kernel : kitB "dict" "int" = some false)
theorem kit_bool : ∀ d : PyData, kitB (tyN d) "bool" = some (isBoolD d)
  | .none => (by decide +kernel : kitB "NoneType" "bool" = some false)
  | .bool _ => (by decide +kernel : kitB "bool" "bool" = some true)
  | .int _ => (by decide +kernel : kitB "int" "bool" = some false)
  | .str _ => (by decide +kernel : kitB "str" "bool" = some false)
  | .list _ => (by decide +kernel : kitB "list" "bool" = some false)
  | .tuple _ => (by decide +kernel : kitB "tuple" "bool" = some false)
  | .dict _ => (by decide +kernel : kitB "dict" "bool" = some false)
theorem kit_str : ∀ d : PyData, kitB (tyN d) "str" = some (isStrD d)
  | .none => (by decide +kernel : kitB "NoneType" "str" = some false)
  | .bool _ => (by decide +kernel : kitB "bool" "str" = some false)
  | .int _ => (by decide +kernel : kitB "int" "str" = some false)
  | .str _ => (by decide +kernel : kitB "str" "str" = some true)
  | .list _ => (by decide +kernel : kitB "list" "str" = some false)
  | .tuple _ => (by decide +kernel : kitB "tuple" "str" = some false)
  | .dict _ => (by decide +kernel : kitB "dict" "str" = some false)
theorem kit_tup : ∀ d : PyData, kitB (tyN d) "tuple" = some (isTupD d)
  | .none => (by decide +kernel : kitB "NoneType" "tuple" = some false)
  | .bool _ => (by decide +kernel : kitB "bool" "tuple" = some false)
  | .int _ => (by decide +kernel : kitB "int" "tuple" = some false)
  | .str _ => (by decide +kernel : kitB "str" "tuple" = some false)
  | .list _ => (by decide +kernel : kitB "list" "tuple" = some false)
  | .tuple _ => (by decide +kernel : kitB "tuple" "tuple" = some true)
  | .dict _ => (by decide +kernel : kitB "dict" "tuple" = some false)
theorem kit_lst : ∀ d : PyData, kitB (tyN d) "list" = some (isLstD d)
  | .none => (by decide +kernel : kitB "NoneType" "list" = some false)
  | .bool _ => (by decide +kernel : kitB "bool" "list" = some false)
  | .int _ => (by decide +kernel : kitB "int" "list" = some false)
  | .str _ => (by decide +kernel : kitB "str" "list" = some false)
  | .list _ => (by decide +kernel : kitB "list" "list" = some true)
  | .tuple _ => (by decide +kernel : kitB "tuple" "list" = some false)
  | .dict _ => (by decide +kernel : kitB "dict" "list" = some false)
def below (d : PyData) (lim : Int) : Bool := match d with
  | .int i => decide (0 ≤ i) && decide (i < lim)
  | _ => false
def only (w cs : Str) : Bool := (tl w).all fun c => decide (c ∈ tl cs)
def tabLens : List Int := [1, 2, 3, 4, 6, 8, 12, 24]
def hoS : Str := Str.ofString "ho"
def isTabD : PyData → Bool
  | .str t => decide ((t.length : Int) ∈ tabLens) && only t hoS
  | _ => false
def isRemD (d : PyData) (per n : Int) : Bool := match d with
  | .tuple [a, b] => below a per && below b n
  | _ => false
structure TxtF (K : PySem.W.Frag) (mg : Str → Option Value) (fII fIB fHO : Addr) (fdII fdIB fdHO : FuncData) : Prop where
  isinstance : mg "isinstance" = none
  int : mg "int" = none
  bool : mg "bool" = none
  str : mg "str" = none
  tuple : mg "tuple" = none
  all : mg "all" = none
  gII : mg "is_integer" = some (.ref fII)
  FII : Fun K "is_integer" "is_integer" sIsInt fII fdII
  bII : Binds K fdII ["value"] []
  gIB : mg "is_below" = some (.ref fIB)
  FIB : Fun K "is_below" "is_below" sIsBelow fIB fdIB
  bIB : Binds K fdIB ["value", "limit"] []
  gHO : mg "has_only" = some (.ref fHO)
  FHO : Fun K "has_only" "has_only" sHasOnly fHO fdHO
  bHO : Binds K fdHO ["word", "characters"] []
  letters : ∃ t, mg "LETTERS" = some (.str hoS t)
  lengths : ∃ a, mg "TABLE_LENGTHS" = some (.ref a) ∧ SqT K (fun _ => none) a (tabLens.map V.int)
def spIsInt (K : PySem.W.Frag) : Sp := fun vs H Q _ => ∃ (v : V) (d : PyData), vs = [v] ∧ Dp K H v d ∧ Q (.bl (isIntD d)) H
def spIsBelow (K : PySem.W.Frag) : Sp := fun vs H Q _ => ∃ (v : V) (d : PyData) (lim : Int), vs = [v, .int lim] ∧ Dp K H v d ∧ Q (.bl (below d lim)) H
def spHasOnly : Sp := fun vs H Q _ => ∃ (x cs : Str), vs = [.str x, .str cs] ∧ x.length ≤ 100000 ∧ ∀ H', Same H H' → Q (.bl (only x cs)) H'
def spIsTable (K : PySem.W.Frag) : Sp := fun vs H Q _ => ∃ (v : V) (d : PyData), vs = [v] ∧ Dp K H v d ∧ (∀ t, d = .str t → t.length ≤ 100000) ∧ ∀ H', Same H H' → Q (.bl (isTabD d)) H'
def spIsRem (K : PySem.W.Frag) : Sp := fun vs H Q _ => ∃ (v : V) (d : PyData) (per n : Int), vs = [v, .int per, .int n] ∧ Dp K H v d ∧ Q (.bl (isRemD d per n)) H
section
variable {P : Program} {w : World} {K : PySem.W.Frag} {mg : Str → Option Value} {base : Heap} {fII fIB fHO : Addr} {fdII fdIB fdHO : FuncData}
theorem scIsInt : FnScope ["value"] ["value"] (defScope sIsInt) := ⟨rfl, rfl, rfl, by decide +kernel, rfl, by decide +kernel, by decide +kernel⟩
theorem ok_isint (TF : TxtF K mg fII fIB fHO fdII fdIB fdHO) : FnOk P w K mg base CX0 1 fII fdII ["value"] (spIsInt K) := by
  refine TF.FII.ok scIsInt (fun vs H Q E h => ?_) (fun cdv A outer s H vs Q E hr h => ?_)
  · obtain ⟨v, d, rfl, _⟩ := h
    rfl
  · obtain ⟨v, d, rfl, hd, k⟩ := h
    refine ⟨_, pss_one (ps_ret (pe_and (pe_callB call_isi (by rfl) TF.isinstance (by decide +kernel) (pa_cons (pv 0) (pa_cons (pe_bltn (v := .ty "int") (by rfl) TF.int (by decide +kernel) rfl) pa_nil)))
      (pe_one (pe_not (pe_callB call_isi (by rfl) TF.isinstance (by decide +kernel) (pa_cons (pv 0) (pa_cons (pe_bltn (v := .ty "bool") (by rfl) TF.bool (by decide +kernel) rfl) pa_nil))))))), ?_⟩
    refine ⟨_, rfl, _, _, _, _, _, rfl, .ty "int", tyx hd, kit_ty (kit_int d), _, rfl, ?_⟩
    cases e : isIntB d with
    | false =>
      refine iteF ?_
      have : isIntD d = false := by cases d <;> first | rfl | cases e
      rw [← this]; exact k
    | true =>
      refine iteT ⟨_, rfl, _, _, _, _, _, rfl, .ty "bool", tyx hd, kit_ty (kit_bool d), _, rfl, ?_⟩
      have : (!isBoolD d) = isIntD d := by cases d <;> first | rfl | cases e
      rw [this]; exact k
theorem scIsBelow : FnScope ["value", "limit"] ["value", "limit"] (defScope sIsBelow) := ⟨rfl, rfl, rfl, by decide +kernel, rfl, by decide +kernel, by decide +kernel⟩
theorem ok_isbelow (TF : TxtF K mg fII fIB fHO fdII fdIB fdHO) : FnOk P w K mg base CX0 2 fIB fdIB ["value", "limit"] (spIsBelow K) := by
  have GI : FnOk P w K mg base CX0 1 fII fdII ["value"] (spIsInt K) := ok_isint TF
  refine TF.FIB.ok scIsBelow (fun vs H Q E h => ?_) (fun cdv A outer s H vs Q E hr h => ?_)
  · obtain ⟨v, d, lim, rfl, _⟩ := h
    rfl
  · obtain ⟨v, d, lim, rfl, hd, k⟩ := h
    refine ⟨_, pss_one (ps_ret (pe_and (pe_call GI hr rfl TF.gII TF.FII.kp TF.bII .nil pass0 (pa_cons (pv 0) pa_nil)) (pe_one (pe_chain op_le op_lt pe_int (pv 0) (pv 1))))), ?_⟩
    refine ⟨_, rfl, v, d, rfl, hd, _, rfl, ?_⟩
    cases hd with
    | int i =>
      refine iteT ⟨_, rfl, _, _, rfl, rfl, _, rfl, ?_⟩
      by_cases c : (0 : Int) ≤ i
      · rw [decide_eq_true c]
        refine iteT ⟨_, rfl, _, _, rfl, rfl, ?_⟩
        have e : below (.int i) lim = decide (i < lim) := by show (decide ((0 : Int) ≤ i) && decide (i < lim)) = _; rw [decide_eq_true c]; rfl
        rw [e] at k; exact k
      · rw [decide_eq_false c]
        refine iteF ?_
        have e : below (.int i) lim = false := by show (decide ((0 : Int) ≤ i) && decide (i < lim)) = _; rw [decide_eq_false c]; rfl
        rw [e] at k; exact k
    | non => exact iteF k
    | bl b => exact iteF k
    | str x => exact iteF k
    | lst hs ha => exact iteF k
    | tup hs ha => exact iteF k
theorem scHasOnly : FnScope ["word", "characters", "character"] ["word", "characters"] (defScope sHasOnly) := ⟨rfl, rfl, rfl, by decide +kernel, rfl, by decide +kernel, by decide +kernel⟩
theorem ok_hasonly (TF : TxtF K mg fII fIB fHO fdII fdIB fdHO) : FnOk P w K mg base CX0 1 fHO fdHO ["word", "characters"] spHasOnly := by
  refine TF.FHO.ok scHasOnly (fun vs H Q E h => ?_) (fun cdv A outer s H vs Q E hr h => ?_)
  · obtain ⟨x, cs, rfl, _⟩ := h
    rfl
  · obtain ⟨x, cs, rfl, hlen, k⟩ := h
    refine ⟨_, pss_one (ps_ret (pe_callB (cr_all rfl) (by rfl) TF.all (by decide +kernel) (pa_cons
        (pe_lc (own := [("character", 2)]) (g := gName 2) (by rfl) scHasOnly.nd (pi_str (pv 0)) (blkOk_by (N := ["word", "characters", "character"]) (sc := defScope sHasOnly) (by decide +kernel))
          (fun _ _ _ _ _ => pg_name (i := 2) scHasOnly.nd rfl (Or.inl rfl)) (fun _ _ _ _ _ => pts_nil)
          (fun _ _ _ _ _ => pe_cmpR op_in_sign (pv 2) (pv 1) (by rfl))) pa_nil))), ?_⟩
    refine ⟨_, rfl, x, rfl, fun D hD => lc_it walk_str
      (fun i H3 => Same H H3 ∧ H3 D = some (.lst ((((tl x).take i).map fun c => decide (c ∈ tl cs)).map V.bl)))
      ⟨same_upd hD, upd_same⟩ (fun _ _ _ _ => True.intro) ?_ ?_⟩
    · rintro i y H3 H4 hi ⟨s3, eD⟩ ⟨rfl, c, hc, rfl⟩
      have hc' : (tl x)[i]? = some c := by rw [← hc]; exact Array.getElem?_toList
      refine ⟨rfl, _, rfl, _, rfl, c, cs, rfl, rfl, _, eD, ?_, fun b o eb => ?_, ?_⟩
      · have hx : i < x.length := hi
        rw [List.length_map, List.length_map, List.length_take]
        exact Nat.lt_of_le_of_lt (Nat.le_trans (Nat.min_le_left _ _) (by omega : i ≤ 100000)) (by decide)
      · rw [upd_ne (ne_of_none eb hD)]; exact s3 _ _ eb
      · rw [upd_same, take_more hc', List.map_append, List.map_append]; rfl
    · rintro H3 ⟨s3, eD⟩
      have e : (tl x).take x.cps.size = tl x := List.take_of_length_le (by simp)
      rw [e] at eD
      refine ⟨D, _, rfl, SqL.of eD, ?_⟩
      have e2 : List.all ((tl x).map fun c => decide (c ∈ tl cs)) id = only x cs := by
        unfold only
        rw [List.all_map]; rfl
      rw [e2]
      exact k _ s3
end
end Dk

set_option Elab.async false
set_option linter.all false
set_option maxRecDepth 100000
set_option maxHeartbeats 1000000
namespace Dk
open PySem PySem.Spec PyProof.Rows L2 TL
theorem sqtK {K : PySem.W.Frag} {H : Hp} {a : Addr} {xs : List V} (h : SqT K (fun _ => none) a xs) : SqT K H a xs := by
  rcases h with (h | ⟨o, h⟩) | h
  · cases h
  · cases h
  · exact .inr h
theorem any_eqI (l : List Int) (n : Int) : inV (.int n) (l.map V.int) = decide (n ∈ l) := by
  unfold inV
  induction l with
  | nil => rfl
  | cons m l ih =>
    rw [List.map_cons, List.any_cons, ih]
    show (m == n || decide (n ∈ l)) = decide (n ∈ m :: l)
    by_cases e : m = n
    · subst e; simp
    · have e' : n ≠ m := fun q => e q.symm
      simp [e, e']
theorem flat_ints (l : List Int) : (l.map V.int).all flatV = true := by
  induction l with
  | nil => rfl
  | cons m l ih => rw [List.map_cons, List.all_cons, ih]; rfl
/-- x < y, two ints or two tuples of ints -/
def Lt2 (K : PySem.W.Frag) (H : Hp) (x y : V) (b : Bool) : Prop :=
  (∃ m n : Int, x = .int m ∧ y = .int n ∧ b = decide (m < n)) ∨ (∃ (a c : Addr) (ns ms : List Int), x = .ref a ∧ y = .ref c ∧ SqT K H a (ns.map V.int) ∧ SqT K H c (ms.map V.int) ∧ b = HT.lexLt ns ms)
def rLt2 (K : PySem.W.Frag) : R2 := fun x y H Q => ∃ b, Lt2 K H x y b ∧ Q (.bl b) H
theorem op_lt2 {X : Cx} (hu : X.A.units < cLine) : OpR X (compareOp .Lt) (rLt2 X.K) := by
  intro pins s σ H x y v u Q I rx ry h
  obtain ⟨b, h | h, q⟩ := h
  · obtain ⟨m, n, rfl, rfl, rfl⟩ := h
    exact op_lt pins s σ H _ _ v u Q I rx ry ⟨m, n, rfl, rfl, q⟩
  · obtain ⟨a, c, ns, ms, rfl, rfl, h1, h2, rfl⟩ := h
    exact op_ltT hu pins s σ H _ _ v u Q I rx ry ⟨a, c, ns, ms, rfl, rfl, h1, h2, q⟩
def spAsc (K : PySem.W.Frag) : Sp := fun vs H Q _ => ∃ (a : Addr) (xs : List V) (i : Nat) (b : Bool), vs = [.ref a, .int (i : Int)] ∧ SqT K H a xs ∧ i < xs.length ∧ (i = 0 → b = true) ∧
  (∀ j, i = j + 1 → ∃ x y, xs[j]? = some x ∧ xs[j + 1]? = some y ∧ Lt2 K H x y b) ∧ Q (.bl b) H
section
variable {P : Program} {w : World} {K : PySem.W.Frag} {mg : Str → Option Value} {base : Heap} {fII fIB fHO : Addr} {fdII fdIB fdHO : FuncData}
theorem scIsTable : FnScope ["table"] ["table"] (defScope sIsTable) := ⟨rfl, rfl, rfl, by decide +kernel, rfl, by decide +kernel, by decide +kernel⟩
theorem ok_istable {f : Addr} {fd : FuncData} (F : Fun K "is_table" "is_table" sIsTable f fd) (T : TxtA mg) (TF : TxtF K mg fII fIB fHO fdII fdIB fdHO) : FnOk P w K mg base CX0 2 f fd ["table"] (spIsTable K) := by
  have GH : FnOk P w K mg base CX0 1 fHO fdHO ["word", "characters"] spHasOnly := ok_hasonly TF
  obtain ⟨tL, eL⟩ := TF.letters
  obtain ⟨aT, eT, hT⟩ := TF.lengths
  refine F.ok scIsTable (fun vs H Q E h => ?_) (fun cdv A outer s H vs Q E hr h => ?_)
  · obtain ⟨v, d, rfl, _⟩ := h
    rfl
  · obtain ⟨v, d, rfl, hd, hz, k⟩ := h
    refine ⟨_, pss_one (ps_ret (pe_and (pe_callB call_isi (by rfl) TF.isinstance (by decide +kernel) (pa_cons (pv 0) (pa_cons (pe_bltn (v := .ty "str") (by rfl) TF.str (by decide +kernel) rfl) pa_nil)))
      (pe_and (pe_cmpR op_in_seq (pe_callB call_len_str (by rfl) T.len PySem.boot_len (pa_cons (pv 0) pa_nil)) (pe_glob (v := .ref aT) rfl eT rfl) (by rfl))
      (pe_one (pe_call GH hr rfl TF.gHO TF.FHO.kp TF.bHO .nil pass0 (pa_cons (pv 0) (pa_cons (pe_glob (v := .str hoS) rfl eL ⟨_, rfl⟩) pa_nil))))))), ?_⟩
    refine ⟨_, rfl, _, _, _, _, _, rfl, .ty "str", tyx hd, kit_ty (kit_str d), _, rfl, ?_⟩
    cases hd with
    | str x =>
      have hx := hz x rfl
      refine iteT ⟨_, rfl, _, rfl, Nat.le_trans hx (by decide), aT, _, rfl, .inr (sqtK hT), rfl, flat_ints _, _, rfl, ?_⟩
      show (if inV (.int (x.length : Int)) (tabLens.map V.int) = true then _ else _)
      rw [any_eqI]
      by_cases c : (x.length : Int) ∈ tabLens
      · rw [decide_eq_true c]
        refine iteT ⟨_, rfl, x, hoS, rfl, hx, fun H' s' => ?_⟩
        have e : isTabD (.str x) = only x hoS := by show (decide _ && _) = _; rw [decide_eq_true c]; rfl
        rw [← e]; exact k _ s'
      · rw [decide_eq_false c]
        refine iteF ?_
        have e : isTabD (.str x) = false := by show (decide _ && _) = _; rw [decide_eq_false c]; rfl
        have := k H (Same.refl H)
        rw [e] at this; exact this
    | non => exact iteF (k H (Same.refl H))
    | bl b => exact iteF (k H (Same.refl H))
    | int i => exact iteF (k H (Same.refl H))
    | lst hs ha => exact iteF (k H (Same.refl H))
    | tup hs ha => exact iteF (k H (Same.refl H))
theorem scIsRem : FnScope ["reminder", "period", "persons"] ["reminder", "period", "persons"] (defScope sIsRem) := ⟨rfl, rfl, rfl, by decide +kernel, rfl, by decide +kernel, by decide +kernel⟩
theorem ok_isrem {f : Addr} {fd : FuncData} (F : Fun K "is_reminder" "is_reminder" sIsRem f fd) (T : TxtA mg) (TF : TxtF K mg fII fIB fHO fdII fdIB fdHO) : FnOk P w K mg base CX0 3 f fd ["reminder", "period", "persons"] (spIsRem K) := by
  have GB : FnOk P w K mg base CX0 2 fIB fdIB ["value", "limit"] (spIsBelow K) := ok_isbelow TF
  refine F.ok scIsRem (fun vs H Q E h => ?_) (fun cdv A outer s H vs Q E hr h => ?_)
  · obtain ⟨v, d, per, n, rfl, _⟩ := h
    rfl
  · obtain ⟨v, d, per, n, rfl, hd, k⟩ := h
    refine ⟨_, pss_cons (ps_if (PW.pt (pw_or (pt_not (pt_val (pe_callB call_isi (by rfl) TF.isinstance (by decide +kernel) (pa_cons (pv 0) (pa_cons (pe_bltn (v := .ty "tuple") (by rfl) TF.tuple (by decide +kernel) rfl) pa_nil)))))
        (pw_or1 (pt_cmpR op_ne (pe_callB call_len_seq (by rfl) T.len PySem.boot_len (pa_cons (pv 0) pa_nil)) pe_int (nomark _))))) (pss_one (ps_ret pe_bl)) pss_nil)
      (pss_one (ps_ret (pe_and (pe_call GB hr rfl TF.gIB TF.FIB.kp TF.bIB .nil pass0 (pa_cons (pe_ix ix_tup (pv 0) pe_int (fun _ _ => rfl)) (pa_cons (pv 1) pa_nil)))
        (pe_one (pe_call GB hr rfl TF.gIB TF.FIB.kp TF.bIB .nil pass0 (pa_cons (pe_ix ix_tup (pv 0) pe_int (fun _ _ => rfl)) (pa_cons (pv 2) pa_nil))))))), ?_⟩
    refine ⟨_, rfl, _, _, _, _, _, rfl, .ty "tuple", tyx hd, kit_ty (kit_tup d), _, rfl, ?_⟩
    cases hd with
    | str x => exact iteT (iteT k)
    | non => exact iteT (iteT k)
    | bl b => exact iteT (iteT k)
    | int i => exact iteT (iteT k)
    | lst hs ha => exact iteT (iteT k)
    | @tup a xs ds hs ha =>
      refine iteF ⟨_, rfl, a, xs, rfl, .inr hs, rfl, _, rfl, ?_⟩
      cases ha with
      | nil => exact iteT k
      | cons h1 ha =>
        rename_i v1 vs1 d1 ds1
        cases ha with
        | nil => exact iteT k
        | cons h2 ha =>
          rename_i v2 vs2 d2 ds2
          cases ha with
          | nil =>
            refine iteF ?_
            refine ⟨_, rfl, a, _, 0, v1, rfl, rfl, hs, at0, _, rfl, v1, d1, per, rfl, h1, _, rfl, ?_⟩
            have e : isRemD (.tuple [d1, d2]) per n = (Dk.below d1 per && Dk.below d2 n) := rfl
            rw [e] at k
            cases c : Dk.below d1 per with
            | false => rw [c] at k; exact iteF k
            | true =>
              rw [c] at k
              exact iteT ⟨_, rfl, a, _, 1, v2, rfl, rfl, hs, at1, _, rfl, v2, d2, n, rfl, h2, k⟩
          | cons h3 ha =>
            rename_i v3 vs3 d3 ds3
            have e : (!decide (V.int (((v1 :: v2 :: v3 :: vs3).length : Nat) : Int) = V.int 2)) = true := by
              have : ¬ V.int (((v1 :: v2 :: v3 :: vs3).length : Nat) : Int) = V.int 2 := fun q => by
                have := V.int.inj q
                simp only [List.length_cons] at this
                omega
              rw [decide_eq_false this]; rfl
            show (if (!decide (V.int (((v1 :: v2 :: v3 :: vs3).length : Nat) : Int) = V.int 2)) = true then _ else _)
            rw [e]
            exact iteT k
theorem scAsc : FnScope ["items", "index"] ["items", "index"] (defScope sAsc) := ⟨rfl, rfl, rfl, by decide +kernel, rfl, by decide +kernel, by decide +kernel⟩
theorem ok_asc {f : Addr} {fd : FuncData} (F : Fun K "is_ascending_at" "is_ascending_at" sAsc f fd) : FnOk P w K mg base CX0 1 f fd ["items", "index"] (spAsc K) := by
  refine F.ok scAsc (fun vs H Q E h => ?_) (fun cdv A outer s H vs Q E hr h => ?_)
  · obtain ⟨a, xs, i, b, rfl, _⟩ := h
    rfl
  · obtain ⟨a, xs, i, b, rfl, hs, hi, h0, hj, k⟩ := h
    refine ⟨_, pss_one (ps_ret (pe_or (pe_cmpR op_eq (pv 1) pe_int (nomark _)) (pe_one (pe_cmpR (op_lt2 hr.units0) (pe_ix ix_tup (pv 0) (pe_op op_sub (pv 1) pe_int) (fun _ _ => rfl)) (pe_ix ix_tup (pv 0) (pv 1) (fun _ _ => rfl)) (nomark _))))), ?_⟩
    refine ⟨_, rfl, rfl, _, rfl, ?_⟩
    cases i with
    | zero =>
      refine ite2 (fun _ => ?_) (fun c => absurd (decide_eq_true rfl) c)
      rw [← h0 rfl]; exact k
    | succ j =>
      obtain ⟨x, y, ex, ey, hl⟩ := hj j rfl
      refine ite2 (fun c => ?_) (fun _ => ?_)
      · have := of_decide_eq_true c
        cases this
      · refine ⟨_, rfl, _, rfl, _, _, rfl, rfl, a, xs, _, x, rfl, rfl, hs, ?_, _, rfl, _, rfl, a, xs, _, y, rfl, rfl, hs, atI_nat ey, b, hl, k⟩
        have e : ((j + 1 : Nat) : Int) - 1 = (j : Int) := by omega
        rw [e]; exact atI_nat ex
end
end Dk

set_option Elab.async false
set_option linter.all false
set_option maxRecDepth 100000
set_option maxHeartbeats 1000000
namespace Dk
open PySem PySem.Spec PyProof.Rows L2 TL
mutual
theorem dpSame {K : PySem.W.Frag} {H H' : Hp} (k : Same H H') : ∀ (d : PyData) (v : V), Dp K H v d → Dp K H' v d
  | .none, _, h => by cases h; exact .non
  | .bool b, _, h => by cases h; exact .bl b
  | .int i, _, h => by cases h; exact .int i
  | .str x, _, h => by cases h; exact .str x
  | .list ds, _, h => by
    cases h with
    | lst hs ha => exact .lst (k.seq hs) (dpAllSame k ds _ ha)
  | .tuple ds, _, h => by
    cases h with
    | tup hs ha => exact .tup (sSqT k hs) (dpAllSame k ds _ ha)
  | .dict _, _, h => by cases h
theorem dpAllSame {K : PySem.W.Frag} {H H' : Hp} (k : Same H H') : ∀ (ds : List PyData) (vs : List V), DpAll K H vs ds → DpAll K H' vs ds
  | [], _, h => by cases h; exact .nil
  | d :: ds, _, h => by
    cases h with
    | cons h1 h2 => exact .cons (dpSame k d _ h1) (dpAllSame k ds _ h2)
end
theorem dpAll_len {K : PySem.W.Frag} {H : Hp} : ∀ {vs : List V} {ds : List PyData}, DpAll K H vs ds → vs.length = ds.length
  | [], [], .nil => rfl
  | _ :: _, _ :: _, .cons _ h => congrArg Nat.succ (dpAll_len h)
theorem dpAll_get {K : PySem.W.Frag} {H : Hp} : ∀ {vs : List V} {ds : List PyData} {i : Nat} {x : V}, DpAll K H vs ds → vs[i]? = some x → ∃ d, ds[i]? = some d ∧ Dp K H x d
  | [], [], _, _, .nil, e => by simp at e
  | _ :: _, _ :: _, 0, _, .cons h _, e => by
    simp at e; subst e; exact ⟨_, rfl, h⟩
  | _ :: _, _ :: _, i + 1, _, .cons _ h, e => by
    obtain ⟨d, e1, e2⟩ := dpAll_get (i := i) h (by simpa using e)
    exact ⟨d, by simpa using e1, e2⟩
/-! ### errors of one's own -/
abbrev ihFields (part : Str) (i : Int) : List (Str × V) := [("index", .int i), ("part", .str part)]
def Raised (C : Addr) (E : XK) (H : Hp) (part : Str) (i : Int) : Prop := ∀ (H' : Hp) (d : Addr), Same H H' → H d = none → H' d = some (.xd (ihFields part i)) → E (.ref C) (some d) H'
theorem Raised.mono {C : Addr} {E : XK} {H H1 : Hp} {part : Str} {i : Int} (h : Raised C E H part i) (s : Same H H1) : Raised C E H1 part i := fun H' d s2 n e => h H' d (s.trans s2) (s.free n) e
abbrev sIHInit : Stmt := inClass (top 5) 0
structure TxtIH (K : PySem.W.Frag) (mg : Str → Option Value) (C fI : Addr) (fdI : FuncData) : Prop where
  gC : mg "InvalidHouse" = some (.ref C)
  O : OexC K C
  iC : PySem.W.findIn K (.ref C) "__init__" = some (some (.ref fI))
  tI : PySem.W.typeIn K (.ref fI) = some (.type "function")
  F : Fun K "__init__" "InvalidHouse.__init__" sIHInit fI fdI
  b : Binds K fdI ["self", "part", "index"] []
  nP : PySem.W.findIn K (.ref C) "part" = some none
  nI : PySem.W.findIn K (.ref C) "index" = some none
def spIHInit (C : Addr) : Sp := fun vs H Q _ => ∃ (a : Addr) (p i : V), vs = [.ref a, p, i] ∧ H a = some (exo a C none) ∧
  ∀ d, H d = none → d ≠ a → Q .non (upd (upd (upd H d (exd d [("part", p)])) a (exo a C (some d))) d (exd d [("index", i), ("part", p)]))
section
variable {P : Program} {w : World} {K : PySem.W.Frag} {mg : Str → Option Value} {base : Heap} {C fI : Addr} {fdI : FuncData}
theorem scIHInit : FnScope ["self", "part", "index"] ["self", "part", "index"] (defScope sIHInit) := ⟨rfl, rfl, rfl, by decide +kernel, rfl, by decide +kernel, by decide +kernel⟩
theorem ok_ihinit (TI : TxtIH K mg C fI fdI) : FnOk P w K mg base CX0 1 fI fdI ["self", "part", "index"] (spIHInit C) := by
  refine TI.F.ok scIHInit (fun vs H Q E h => ?_) (fun cdv A outer s H vs Q E hr h => ?_)
  · obtain ⟨a, p, i, rfl, _⟩ := h
    rfl
  · obtain ⟨a, p, i, rfl, ha, k⟩ := h
    refine ⟨_, pss_cons (ps_ost (pv 0) (pv 1)) (pss_one (ps_ost (pv 0) (pv 2))), ?_⟩
    refine ⟨_, rfl, _, rfl, a, C, rfl, TI.O, TI.nP, .inl ⟨ha, fun d hd nd => ?_⟩⟩
    refine ⟨_, rfl, _, rfl, a, C, rfl, TI.O, TI.nI, .inr ⟨d, [("part", p)], upd_same, ?_, by simp, ?_⟩⟩
    · rw [upd_ne nd]; exact upd_same
    · exact k d hd nd
/-- the reading of raise InvalidHouse(part, i), from what is wanted of it -/
theorem raise_ih {H : Hp} {E : XK} {part : Str} {i : Int} (k : Raised C E H part i) :
    ([V.str part, V.int i] : List V).length ≤ 1000 ∧ ∀ a, H a = none → spIHInit C (.ref a :: ([V.str part, V.int i] ++ [])) (upd H a (exo a C none))
      (fun v H2 => v = .non ∧ ∃ (d : Addr) (fs : List (Str × V)), H2 a = some (exo a C (some d)) ∧ H2 d = some (exd d fs) ∧ H d = none ∧ E (.ref C) (some d) (upd (del H2 a) d (.xd fs))) (fun _ _ _ => False) := by
  refine ⟨by simp, fun a hn => ⟨a, _, _, rfl, upd_same, fun d hd nd => ⟨rfl, d, _, ?_, upd_same, ?_, ?_⟩⟩⟩
  · rw [upd_ne nd.symm]; exact upd_same
  · rw [upd_ne nd] at hd; exact hd
  · rw [upd_ne nd] at hd
    refine k _ d (fun b o e => ?_) hd upd_same
    have nb : b ≠ a := ne_of_none e hn
    have nd' : b ≠ d := ne_of_none e hd
    rw [upd_ne nd', del_ne nb, upd_ne nd', upd_ne nb, upd_ne nd', upd_ne nb]
    exact e
end
/-! ### the first bad item -/
def bad1 (p : Nat → PyData → Bool) : Nat → List PyData → Option Nat
  | _, [] => none
  | i, d :: ds => if p i d then some i else bad1 p (i + 1) ds
theorem bad1_step {p : Nat → PyData → Bool} {ds : List PyData} {i : Nat} {d : PyData} (h : ds[i]? = some d) : bad1 p i (ds.drop i) = if p i d then some i else bad1 p (i + 1) (ds.drop (i + 1)) := by
  have hi : i < ds.length := (List.getElem?_eq_some_iff.mp h).1
  have e : ds.drop i = d :: ds.drop (i + 1) := by
    rw [List.drop_eq_getElem_cons hi]
    congr 1
    have := List.getElem?_eq_getElem hi
    rw [h] at this
    exact (Option.some.inj this).symm
  rw [e]; rfl
theorem bad1_end {p : Nat → PyData → Bool} {ds : List PyData} : bad1 p ds.length (ds.drop ds.length) = none := by
  rw [List.drop_length]; rfl
def chkTabs : PyData → Option Nat
  | .tuple [] => some 0
  | .tuple (d :: ds) => bad1 (fun i t => i == 6 || !isTabD t) 0 (d :: ds)
  | _ => some 0
def chkKeys (d : PyData) : Option Nat := if below d 10 then none else some 0
def intOf : PyData → Int
  | .int i => i
  | _ => 0
def prOf : PyData → Pr
  | .tuple [.int i, .int j] => (i, j)
  | _ => (0, 0)
/-- the item before, less -/
def ascI (ds : List PyData) (i : Nat) : Bool := match i with
  | 0 => true
  | j + 1 => decide (intOf (ds.getD j .none) < intOf (ds.getD (j + 1) .none))
def ascP (ds : List PyData) (i : Nat) : Bool := match i with
  | 0 => true
  | j + 1 => HT.lexLt [(prOf (ds.getD j .none)).1, (prOf (ds.getD j .none)).2] [(prOf (ds.getD (j + 1) .none)).1, (prOf (ds.getD (j + 1) .none)).2]
def chkCareful (d : PyData) (n : Int) : Option Nat := match d with
  | .tuple ds => bad1 (fun i x => !below x n || !ascI ds i) 0 ds
  | _ => some 0
def chkRem (d : PyData) (per n : Int) : Option Nat := match d with
  | .tuple ds => bad1 (fun i x => i == 10 || !isRemD x per n || !ascP ds i) 0 ds
  | _ => some 0
end Dk

set_option Elab.async false
set_option linter.all false
set_option maxRecDepth 100000
set_option maxHeartbeats 1000000
namespace Dk
open PySem PySem.Spec PyProof.Rows L2 TL
structure TxtI (K : PySem.W.Frag) (mg : Str → Option Value) (fIT fIR fAs : Addr) (fdIT fdIR fdAs : FuncData) : Prop where
  enumerate : mg "enumerate" = none
  most : ∃ t, mg "MOST_PERSONS" = some (.int 6 t)
  keys : ∃ t, mg "MOST_KEYS" = some (.int 9 t)
  rems : ∃ t, mg "MOST_REMINDERS" = some (.int 10 t)
  gIT : mg "is_table" = some (.ref fIT)
  FIT : Fun K "is_table" "is_table" sIsTable fIT fdIT
  bIT : Binds K fdIT ["table"] []
  gIR : mg "is_reminder" = some (.ref fIR)
  FIR : Fun K "is_reminder" "is_reminder" sIsRem fIR fdIR
  bIR : Binds K fdIR ["reminder", "period", "persons"] []
  gAs : mg "is_ascending_at" = some (.ref fAs)
  FAs : Fun K "is_ascending_at" "is_ascending_at" sAsc fAs fdAs
  bAs : Binds K fdAs ["items", "index"] []
def spChkKeys (K : PySem.W.Frag) (C : Addr) : Sp := fun vs H Q E => ∃ (v : V) (d : PyData), vs = [v] ∧ Dp K H v d ∧ (chkKeys d = none → Q .non H) ∧ (chkKeys d = some 0 → Raised C E H "keys" 0)
def SmallS (d : PyData) : Prop := match d with
  | .str t => t.length ≤ 100000
  | _ => True
def spChkTabs (K : PySem.W.Frag) (C : Addr) : Sp := fun vs H Q E => ∃ (v : V) (d : PyData), vs = [v] ∧ Dp K H v d ∧ (∀ ds, d = .tuple ds → ∀ x ∈ ds, SmallS x) ∧
  (chkTabs d = none → ∀ H', Same H H' → Q .non H') ∧ (∀ i, chkTabs d = some i → Raised C E H "tables" (i : Int))
section
variable {P : Program} {w : World} {K : PySem.W.Frag} {mg : Str → Option Value} {base : Heap} {C fI : Addr} {fdI : FuncData} {fII fIB fHO : Addr} {fdII fdIB fdHO : FuncData} {fIT fIR fAs : Addr} {fdIT fdIR fdAs : FuncData}
theorem scChkKeys : FnScope ["keys"] ["keys"] (defScope sChkKeys) := ⟨rfl, rfl, rfl, by decide +kernel, rfl, by decide +kernel, by decide +kernel⟩
theorem ok_chkkeys {f : Addr} {fd : FuncData} (F : Fun K "check_keys" "check_keys" sChkKeys f fd) (TF : TxtF K mg fII fIB fHO fdII fdIB fdHO) (TI : TxtI K mg fIT fIR fAs fdIT fdIR fdAs) (TH : TxtIH K mg C fI fdI) :
    FnOk P w K mg base (L2.CX P w) 3 f fd ["keys"] (spChkKeys K C) := by
  have GB : FnOk P w K mg base CX0 2 fIB fdIB ["value", "limit"] (spIsBelow K) := ok_isbelow TF
  have GI : FnOk P w K mg base CX0 1 fI fdI ["self", "part", "index"] (spIHInit C) := ok_ihinit TH
  obtain ⟨tk, ek⟩ := TI.keys
  refine F.okX scChkKeys (fun vs H Q E h => ?_) (fun cdv A outer s H vs Q E hr h => ?_)
  · obtain ⟨v, d, rfl, _⟩ := h
    rfl
  · obtain ⟨v, d, rfl, hd, k1, k2⟩ := h
    refine ⟨_, pss_one (ps_if (pt_not (pt_val (pe_call GB hr rfl TF.gIB TF.FIB.kp TF.bIB .nil pass0 (pa_cons (pv 0) (pa_cons (pe_op op_add (pe_glob (v := .int 9) rfl ek ⟨_, rfl⟩) pe_int) pa_nil)))))
      (pss_one (ps_raise rfl (takes_of rfl rfl rfl rfl) (pmk_oex TH.O TH.iC TH.tI GI hr TH.b .nil pass0 rfl TH.gC (pa_cons pe_str (pa_cons pe_int pa_nil))))) pss_nil), ?_⟩
    refine ⟨_, rfl, _, _, rfl, rfl, v, d, _, rfl, hd, _, rfl, ?_⟩
    have e : below d (9 + 1) = below d 10 := rfl
    rw [e]
    cases c : below d 10 with
    | true => exact iteF (k1 (by unfold chkKeys; rw [c]; rfl))
    | false => exact iteT (raise_ih (k2 (by unfold chkKeys; rw [c]; rfl)))
theorem scChkTabs : FnScope ["tables", "index", "table"] ["tables"] (defScope sChkTables) := ⟨rfl, rfl, rfl, by decide +kernel, rfl, by decide +kernel, by decide +kernel⟩
theorem ok_chktabs {f : Addr} {fd : FuncData} (F : Fun K "check_tables" "check_tables" sChkTables f fd) (T : TxtA mg) (TF : TxtF K mg fII fIB fHO fdII fdIB fdHO) (TI : TxtI K mg fIT fIR fAs fdIT fdIR fdAs) (TH : TxtIH K mg C fI fdI) :
    FnOk P w K mg base (L2.CX P w) 3 f fd ["tables"] (spChkTabs K C) := by
  have GT : FnOk P w K mg base CX0 2 fIT fdIT ["table"] (spIsTable K) := ok_istable TI.FIT T TF
  have GI : FnOk P w K mg base CX0 1 fI fdI ["self", "part", "index"] (spIHInit C) := ok_ihinit TH
  obtain ⟨tk, ek⟩ := TI.most
  refine F.okX scChkTabs (fun vs H Q E h => ?_) (fun cdv A outer s H vs Q E hr h => ?_)
  · obtain ⟨v, d, rfl, _⟩ := h
    rfl
  · obtain ⟨v, d, rfl, hd, hz, k1, k2⟩ := h
    refine ⟨_, pss_cons (ps_if (PW.pt (pw_or (pt_not (pt_val (pe_callB call_isi (by rfl) TF.isinstance (by decide +kernel) (pa_cons (pv 0) (pa_cons (pe_bltn (v := .ty "tuple") (by rfl) TF.tuple (by decide +kernel) rfl) pa_nil)))))
          (pw_or1 (pt_not (pt_truth (pv 0) (by intro _; rfl))))))
        (pss_one (ps_raise rfl (takes_of rfl rfl rfl rfl) (pmk_oex TH.O TH.iC TH.tI GI hr TH.b .nil pass0 rfl TH.gC (pa_cons pe_str (pa_cons pe_int pa_nil))))) pss_nil)
      (pss_one (ps_for (passes_of rfl) rfl (pi_enumT (by rfl) TI.enumerate (pa_cons (pv 0) pa_nil)) (pg_tup rfl (pgs_cons (pg_name (i := 1) scChkTabs.nd rfl (.inl rfl)) (pgs_cons (pg_name (i := 2) scChkTabs.nd rfl (.inl rfl)) pgs_nil)))
        (pss_one (ps_if (PW.pt (pw_or (pt_cmpR op_eq (pv 1) (pe_glob (v := .int 6) rfl ek ⟨_, rfl⟩) (nomark _)) (pw_or1 (pt_not (pt_val (pe_call GT hr rfl TI.gIT TI.FIT.kp TI.bIT .nil pass0 (pa_cons (pv 2) pa_nil)))))))
          (pss_one (ps_raise rfl (takes_of rfl rfl rfl rfl) (pmk_oex TH.O TH.iC TH.tI GI hr TH.b .nil pass0 rfl TH.gC (pa_cons pe_str (pa_cons (pv 1) pa_nil))))) pss_nil)))), ?_⟩
    refine ⟨_, rfl, _, _, _, _, _, rfl, .ty "tuple", tyx hd, kit_ty (kit_tup d), _, rfl, ?_⟩
    cases hd with
    | str x => exact iteT (iteT (raise_ih (k2 0 rfl)))
    | non => exact iteT (iteT (raise_ih (k2 0 rfl)))
    | bl b => exact iteT (iteT (raise_ih (k2 0 rfl)))
    | int i => exact iteT (iteT (raise_ih (k2 0 rfl)))
    | lst hs ha => exact iteT (iteT (raise_ih (k2 0 rfl)))
    | @tup a xs ds hs ha =>
      refine iteF ⟨_, rfl, !xs.isEmpty, .inr (.inl ⟨xs, hs, rfl⟩), ?_⟩
      have hl := dpAll_len ha
      have hds : ds = [] ∨ ∃ d0 r, ds = d0 :: r := by
        cases ds with
        | nil => exact .inl rfl
        | cons d0 r => exact .inr ⟨d0, r, rfl⟩
      rcases hds with rfl | ⟨d0, r, hds⟩
      · cases ha
        exact iteT (raise_ih (k2 0 rfl))
      · have hx : xs.isEmpty = false := by
          cases xs with
          | nil => rw [hds] at hl; cases hl
          | cons x xs => rfl
        rw [hx]
        have ec : chkTabs (.tuple ds) = bad1 (fun i t => i == 6 || !isTabD t) 0 ds := by rw [hds]; rfl
        rw [ec] at k1 k2
        have hz' := hz ds rfl
        refine iteF ⟨_, rfl, a, xs, rfl, hs, for_it walk_enumT
          (fun i σ H' => ∃ v1 v2 : Option V, σ = [some (.ref a), v1, v2] ∧ Same H H' ∧ bad1 (fun i t => i == 6 || !isTabD t) 0 ds = bad1 (fun i t => i == 6 || !isTabD t) i (ds.drop i))
          ⟨none, none, rfl, Same.refl H, rfl⟩ (fun i σ H' _ ⟨_, _, _, e, _⟩ => sSqT e hs) ?_ ?_⟩
        · rintro i y σ H1 H2 hi ⟨v1, v2, rfl, s1, eb⟩ ⟨Tp, y1, y2, rfl, hTp, rfl, e1, e2⟩
          cases e1
          obtain ⟨dx, edx, hdx⟩ := dpAll_get ha e2
          have s2 : Same H (upd H1 Tp (.tup [.int (i : Nat), y2])) := s1.trans (same_upd hTp)
          have hm : dx ∈ ds := List.mem_of_getElem? edx
          have st := bad1_step (p := fun i t => i == 6 || !isTabD t) edx
          refine ⟨Tp, _, rfl, SqT.of upd_same, rfl, _, _, rfl, _, _, rfl, rfl, ?_⟩
          refine ⟨_, rfl, rfl, _, rfl, ?_⟩
          by_cases c6 : i = 6
          · have c6' : decide (V.int ((i : Nat) : Int) = V.int 6) = true := decide_eq_true (by rw [c6]; rfl)
            rw [c6']
            refine iteT (iteT ⟨_, rfl, raise_ih (Raised.mono (k2 i ?_) s2)⟩)
            rw [eb, st, c6]; rfl
          · have c6' : decide (V.int ((i : Nat) : Int) = V.int 6) = false := decide_eq_false fun q => c6 (by have := V.int.inj q; omega)
            rw [c6']
            refine iteF ⟨_, rfl, y2, dx, rfl, dpSame s2 _ _ hdx, fun t et => ?_, fun H3 s3 => ⟨_, rfl, ?_⟩⟩
            · have := hz' dx hm
              rw [et] at this
              exact this
            · have c6b : (i == 6) = false := by simpa using c6
              rw [c6b, Bool.false_or] at st
              cases c : isTabD dx with
              | true =>
                rw [c] at st
                refine iteF ⟨_, _, rfl, s2.trans s3, ?_⟩
                rw [eb, st]; rfl
              | false =>
                rw [c] at st
                refine iteT ⟨_, rfl, raise_ih (Raised.mono (k2 i ?_) (s2.trans s3))⟩
                rw [eb, st]; rfl
        · rintro σ H1 ⟨v1, v2, rfl, s1, eb⟩
          refine k1 ?_ H1 s1
          rw [eb, hl]
          exact bad1_end
end
end Dk

set_option Elab.async false
set_option linter.all false
set_option maxRecDepth 100000
set_option maxHeartbeats 1000000
namespace Dk
open PySem PySem.Spec PyProof.Rows L2 TL
theorem below_int {d : PyData} {n : Int} (h : below d n = true) : ∃ i, d = .int i ∧ 0 ≤ i ∧ i < n := by
  cases d with
  | int i =>
    have h' : (decide ((0 : Int) ≤ i) && decide (i < n)) = true := h
    rw [Bool.and_eq_true] at h'
    exact ⟨i, rfl, of_decide_eq_true h'.1, of_decide_eq_true h'.2⟩
  | none => cases h
  | bool _ => cases h
  | str _ => cases h
  | list _ => cases h
  | tuple _ => cases h
  | dict _ => cases h
theorem isRem_pr {d : PyData} {per n : Int} (h : isRemD d per n = true) : ∃ i j, d = .tuple [.int i, .int j] ∧ 0 ≤ i ∧ i < per ∧ 0 ≤ j ∧ j < n := by
  unfold isRemD at h
  split at h
  · rename_i a b
    rw [Bool.and_eq_true] at h
    obtain ⟨i, rfl, h1, h2⟩ := below_int h.1
    obtain ⟨j, rfl, h3, h4⟩ := below_int h.2
    exact ⟨i, j, rfl, h1, h2, h3, h4⟩
  · cases h
def spChkCareful (K : PySem.W.Frag) (C : Addr) : Sp := fun vs H Q E => ∃ (v : V) (d : PyData) (n : Int), vs = [v, .int n] ∧ Dp K H v d ∧
  (chkCareful d n = none → ∀ H', Same H H' → Q .non H') ∧ (∀ i, chkCareful d n = some i → Raised C E H "careful" (i : Int))
def spChkRem (K : PySem.W.Frag) (C : Addr) : Sp := fun vs H Q E => ∃ (v : V) (d : PyData) (per n : Int), vs = [v, .int per, .int n] ∧ Dp K H v d ∧
  (chkRem d per n = none → ∀ H', Same H H' → Q .non H') ∧ (∀ i, chkRem d per n = some i → Raised C E H "reminders" (i : Int))
theorem getD_of {ds : List PyData} {i : Nat} {d : PyData} (h : ds[i]? = some d) : ds.getD i .none = d := by rw [List.getD_eq_getElem?_getD, h]; rfl
section
variable {P : Program} {w : World} {K : PySem.W.Frag} {mg : Str → Option Value} {base : Heap} {C fI : Addr} {fdI : FuncData} {fII fIB fHO : Addr} {fdII fdIB fdHO : FuncData} {fIT fIR fAs : Addr} {fdIT fdIR fdAs : FuncData}
theorem scChkCareful : FnScope ["careful", "persons", "index", "person"] ["careful", "persons"] (defScope sChkCareful) := ⟨rfl, rfl, rfl, by decide +kernel, rfl, by decide +kernel, by decide +kernel⟩
theorem ok_chkcareful {f : Addr} {fd : FuncData} (F : Fun K "check_careful" "check_careful" sChkCareful f fd) (T : TxtA mg) (TF : TxtF K mg fII fIB fHO fdII fdIB fdHO) (TI : TxtI K mg fIT fIR fAs fdIT fdIR fdAs) (TH : TxtIH K mg C fI fdI) :
    FnOk P w K mg base (L2.CX P w) 3 f fd ["careful", "persons"] (spChkCareful K C) := by
  have GB : FnOk P w K mg base CX0 2 fIB fdIB ["value", "limit"] (spIsBelow K) := ok_isbelow TF
  have GA : FnOk P w K mg base CX0 1 fAs fdAs ["items", "index"] (spAsc K) := ok_asc TI.FAs
  have GI : FnOk P w K mg base CX0 1 fI fdI ["self", "part", "index"] (spIHInit C) := ok_ihinit TH
  refine F.okX scChkCareful (fun vs H Q E h => ?_) (fun cdv A outer s H vs Q E hr h => ?_)
  · obtain ⟨v, d, n, rfl, _⟩ := h
    rfl
  · obtain ⟨v, d, n, rfl, hd, k1, k2⟩ := h
    have hr1 : Room 1 (A.deeper (envOfC (Str.ofString "check_careful") (defScope sChkCareful) s.heap.objs.size f cdv)) := hr.mono (by decide)
    refine ⟨_, pss_cons (ps_if (pt_not (pt_val (pe_callB call_isi (by rfl) TF.isinstance (by decide +kernel) (pa_cons (pv 0) (pa_cons (pe_bltn (v := .ty "tuple") (by rfl) TF.tuple (by decide +kernel) rfl) pa_nil)))))
        (pss_one (ps_raise rfl (takes_of rfl rfl rfl rfl) (pmk_oex TH.O TH.iC TH.tI GI hr TH.b .nil pass0 rfl TH.gC (pa_cons pe_str (pa_cons pe_int pa_nil))))) pss_nil)
      (pss_one (ps_for (passes_of rfl) rfl (pi_enumT (by rfl) TI.enumerate (pa_cons (pv 0) pa_nil)) (pg_tup rfl (pgs_cons (pg_name (i := 2) scChkCareful.nd rfl (.inl rfl)) (pgs_cons (pg_name (i := 3) scChkCareful.nd rfl (.inl rfl)) pgs_nil)))
        (pss_one (ps_if (PW.pt (pw_or (pt_not (pt_val (pe_call GB hr rfl TF.gIB TF.FIB.kp TF.bIB .nil pass0 (pa_cons (pv 3) (pa_cons (pv 1) pa_nil)))))
            (pw_or1 (pt_not (pt_val (pe_call GA hr1 rfl TI.gAs TI.FAs.kp TI.bAs .nil pass0 (pa_cons (pv 0) (pa_cons (pv 2) pa_nil))))))))
          (pss_one (ps_raise rfl (takes_of rfl rfl rfl rfl) (pmk_oex TH.O TH.iC TH.tI GI hr TH.b .nil pass0 rfl TH.gC (pa_cons pe_str (pa_cons (pv 2) pa_nil))))) pss_nil)))), ?_⟩
    refine ⟨_, rfl, _, _, _, _, _, rfl, .ty "tuple", tyx hd, kit_ty (kit_tup d), _, rfl, ?_⟩
    cases hd with
    | str x => exact iteT (raise_ih (k2 0 rfl))
    | non => exact iteT (raise_ih (k2 0 rfl))
    | bl b => exact iteT (raise_ih (k2 0 rfl))
    | int i => exact iteT (raise_ih (k2 0 rfl))
    | lst hs ha => exact iteT (raise_ih (k2 0 rfl))
    | @tup a xs ds hs ha =>
      have hl := dpAll_len ha
      have ec : chkCareful (.tuple ds) n = bad1 (fun i x => !below x n || !ascI ds i) 0 ds := rfl
      rw [ec] at k1 k2
      refine iteF ⟨_, rfl, a, xs, rfl, hs, for_it walk_enumT
        (fun i σ H' => ∃ v1 v2 : Option V, σ = [some (.ref a), some (.int n), v1, v2] ∧ Same H H' ∧ bad1 (fun i x => !below x n || !ascI ds i) 0 ds = bad1 (fun i x => !below x n || !ascI ds i) i (ds.drop i) ∧ ∀ j d, j < i → ds[j]? = some d → below d n = true)
        ⟨none, none, rfl, Same.refl H, rfl, fun j d hj => absurd hj (Nat.not_lt_zero _)⟩ (fun i σ H' _ ⟨_, _, _, e, _⟩ => sSqT e hs) ?_ ?_⟩
      · rintro i y σ H1 H2 hi ⟨v1, v2, rfl, s1, eb, hall⟩ ⟨Tp, y1, y2, rfl, hTp, rfl, e1, e2⟩
        cases e1
        obtain ⟨dx, edx, hdx⟩ := dpAll_get ha e2
        have s2 : Same H (upd H1 Tp (.tup [.int (i : Nat), y2])) := s1.trans (same_upd hTp)
        have st := bad1_step (p := fun i x => !below x n || !ascI ds i) edx
        refine ⟨Tp, _, rfl, SqT.of upd_same, rfl, _, _, rfl, _, _, rfl, rfl, ?_⟩
        refine ⟨_, rfl, _, rfl, y2, dx, n, rfl, dpSame s2 _ _ hdx, _, rfl, ?_⟩
        cases c : below dx n with
        | false =>
          rw [c] at st
          refine iteT (iteT ⟨_, rfl, raise_ih (Raised.mono (k2 i ?_) s2)⟩)
          rw [eb, st]; rfl
        | true =>
          rw [c] at st
          have st' : bad1 (fun i x => !below x n || !ascI ds i) i (ds.drop i) = if (!ascI ds i) = true then some i else bad1 (fun i x => !below x n || !ascI ds i) (i + 1) (ds.drop (i + 1)) := st
          refine iteF ⟨_, rfl, _, rfl, a, xs, i, ascI ds i, rfl, sSqT s2 hs, hi, fun e0 => by rw [e0]; rfl, fun j ej => ?_, _, rfl, ?_⟩
          · subst ej
            obtain ⟨x, ex⟩ : ∃ x, xs[j]? = some x := ⟨xs[j]'(by omega), List.getElem?_eq_getElem _⟩
            obtain ⟨dj, edj, hdj⟩ := dpAll_get ha ex
            obtain ⟨m1, rfl, _, _⟩ := below_int (hall j dj (Nat.lt_succ_self _) edj)
            obtain ⟨m2, rfl, _, _⟩ := below_int c
            cases hdj
            cases hdx
            refine ⟨_, _, ex, e2, .inl ⟨m1, m2, rfl, rfl, ?_⟩⟩
            show decide (intOf (ds.getD j .none) < intOf (ds.getD (j + 1) .none)) = decide (m1 < m2)
            rw [getD_of edj, getD_of edx]; rfl
          · cases c2 : ascI ds i with
            | true =>
              rw [c2] at st'
              refine iteF ⟨_, _, rfl, s2, ?_, fun j d hj ej => ?_⟩
              · rw [eb, st']; rfl
              · by_cases e : j = i
                · subst e; rw [edx] at ej; cases ej; exact c
                · exact hall j d (by omega) ej
            | false =>
              rw [c2] at st'
              refine iteT ⟨_, rfl, raise_ih (Raised.mono (k2 i ?_) s2)⟩
              rw [eb, st']; rfl
      · rintro σ H1 ⟨v1, v2, rfl, s1, eb, _⟩
        refine k1 ?_ H1 s1
        rw [eb, hl]
        exact bad1_end
theorem scChkRem : FnScope ["reminders", "period", "persons", "index", "reminder"] ["reminders", "period", "persons"] (defScope sChkRem) := ⟨rfl, rfl, rfl, by decide +kernel, rfl, by decide +kernel, by decide +kernel⟩
theorem ok_chkrem {f : Addr} {fd : FuncData} (F : Fun K "check_reminders" "check_reminders" sChkRem f fd) (T : TxtA mg) (TF : TxtF K mg fII fIB fHO fdII fdIB fdHO) (TI : TxtI K mg fIT fIR fAs fdIT fdIR fdAs) (TH : TxtIH K mg C fI fdI) :
    FnOk P w K mg base (L2.CX P w) 4 f fd ["reminders", "period", "persons"] (spChkRem K C) := by
  have GR : FnOk P w K mg base CX0 3 fIR fdIR ["reminder", "period", "persons"] (spIsRem K) := ok_isrem TI.FIR T TF
  have GA : FnOk P w K mg base CX0 1 fAs fdAs ["items", "index"] (spAsc K) := ok_asc TI.FAs
  have GI : FnOk P w K mg base CX0 1 fI fdI ["self", "part", "index"] (spIHInit C) := ok_ihinit TH
  obtain ⟨tk, ek⟩ := TI.rems
  refine F.okX scChkRem (fun vs H Q E h => ?_) (fun cdv A outer s H vs Q E hr h => ?_)
  · obtain ⟨v, d, per, n, rfl, _⟩ := h
    rfl
  · obtain ⟨v, d, per, n, rfl, hd, k1, k2⟩ := h
    have hr1 : Room 1 (A.deeper (envOfC (Str.ofString "check_reminders") (defScope sChkRem) s.heap.objs.size f cdv)) := hr.mono (by decide)
    have hr2 : Room 2 (A.deeper (envOfC (Str.ofString "check_reminders") (defScope sChkRem) s.heap.objs.size f cdv)) := hr.mono (by decide)
    refine ⟨_, pss_cons (ps_if (pt_not (pt_val (pe_callB call_isi (by rfl) TF.isinstance (by decide +kernel) (pa_cons (pv 0) (pa_cons (pe_bltn (v := .ty "tuple") (by rfl) TF.tuple (by decide +kernel) rfl) pa_nil)))))
        (pss_one (ps_raise rfl (takes_of rfl rfl rfl rfl) (pmk_oex TH.O TH.iC TH.tI GI hr2 TH.b .nil pass0 rfl TH.gC (pa_cons pe_str (pa_cons pe_int pa_nil))))) pss_nil)
      (pss_one (ps_for (passes_of rfl) rfl (pi_enumT (by rfl) TI.enumerate (pa_cons (pv 0) pa_nil)) (pg_tup rfl (pgs_cons (pg_name (i := 3) scChkRem.nd rfl (.inl rfl)) (pgs_cons (pg_name (i := 4) scChkRem.nd rfl (.inl rfl)) pgs_nil)))
        (pss_cons (ps_if (PW.pt (pw_or (pt_cmpR op_eq (pv 3) (pe_glob (v := .int 10) rfl ek ⟨_, rfl⟩) (nomark _)) (pw_or1 (pt_not (pt_val (pe_call GR hr rfl TI.gIR TI.FIR.kp TI.bIR .nil pass0 (pa_cons (pv 4) (pa_cons (pv 1) (pa_cons (pv 2) pa_nil)))))))))
          (pss_one (ps_raise rfl (takes_of rfl rfl rfl rfl) (pmk_oex TH.O TH.iC TH.tI GI hr2 TH.b .nil pass0 rfl TH.gC (pa_cons pe_str (pa_cons (pv 3) pa_nil))))) pss_nil)
        (pss_one (ps_if (pt_not (pt_val (pe_call GA hr1 rfl TI.gAs TI.FAs.kp TI.bAs .nil pass0 (pa_cons (pv 0) (pa_cons (pv 3) pa_nil)))))
          (pss_one (ps_raise rfl (takes_of rfl rfl rfl rfl) (pmk_oex TH.O TH.iC TH.tI GI hr2 TH.b .nil pass0 rfl TH.gC (pa_cons pe_str (pa_cons (pv 3) pa_nil))))) pss_nil))))), ?_⟩
    refine ⟨_, rfl, _, _, _, _, _, rfl, .ty "tuple", tyx hd, kit_ty (kit_tup d), _, rfl, ?_⟩
    cases hd with
    | str x => exact iteT (raise_ih (k2 0 rfl))
    | non => exact iteT (raise_ih (k2 0 rfl))
    | bl b => exact iteT (raise_ih (k2 0 rfl))
    | int i => exact iteT (raise_ih (k2 0 rfl))
    | lst hs ha => exact iteT (raise_ih (k2 0 rfl))
    | @tup a xs ds hs ha =>
      have hl := dpAll_len ha
      have ec : chkRem (.tuple ds) per n = bad1 (fun i x => i == 10 || !isRemD x per n || !ascP ds i) 0 ds := rfl
      rw [ec] at k1 k2
      refine iteF ⟨_, rfl, a, xs, rfl, hs, for_it walk_enumT
        (fun i σ H' => ∃ v1 v2 : Option V, σ = [some (.ref a), some (.int per), some (.int n), v1, v2] ∧ Same H H' ∧ bad1 (fun i x => i == 10 || !isRemD x per n || !ascP ds i) 0 ds = bad1 (fun i x => i == 10 || !isRemD x per n || !ascP ds i) i (ds.drop i) ∧ ∀ j d, j < i → ds[j]? = some d → isRemD d per n = true)
        ⟨none, none, rfl, Same.refl H, rfl, fun j d hj => absurd hj (Nat.not_lt_zero _)⟩ (fun i σ H' _ ⟨_, _, _, e, _⟩ => sSqT e hs) ?_ ?_⟩
      · rintro i y σ H1 H2 hi ⟨v1, v2, rfl, s1, eb, hall⟩ ⟨Tp, y1, y2, rfl, hTp, rfl, e1, e2⟩
        cases e1
        obtain ⟨dx, edx, hdx⟩ := dpAll_get ha e2
        have s2 : Same H (upd H1 Tp (.tup [.int (i : Nat), y2])) := s1.trans (same_upd hTp)
        have st := bad1_step (p := fun i x => i == 10 || !isRemD x per n || !ascP ds i) edx
        refine ⟨Tp, _, rfl, SqT.of upd_same, rfl, _, _, rfl, _, _, rfl, rfl, ?_⟩
        refine ⟨_, rfl, rfl, _, rfl, ?_⟩
        by_cases c6 : i = 10
        · have c6' : decide (V.int ((i : Nat) : Int) = V.int 10) = true := decide_eq_true (by rw [c6]; rfl)
          rw [c6']
          refine iteT (iteT ⟨_, rfl, raise_ih (Raised.mono (k2 i ?_) s2)⟩)
          rw [eb, st, c6]; rfl
        · have c6' : decide (V.int ((i : Nat) : Int) = V.int 10) = false := decide_eq_false fun q => c6 (by have := V.int.inj q; omega)
          rw [c6']
          have c6b : (i == 10) = false := by simpa using c6
          rw [c6b, Bool.false_or] at st
          refine iteF ⟨_, rfl, _, rfl, _, rfl, y2, dx, per, n, rfl, dpSame s2 _ _ hdx, _, rfl, ?_⟩
          cases c : isRemD dx per n with
          | false =>
            rw [c] at st
            refine iteT ⟨_, rfl, raise_ih (Raised.mono (k2 i ?_) s2)⟩
            rw [eb, st]; rfl
          | true =>
            rw [c] at st
            have st' : bad1 (fun i x => i == 10 || !isRemD x per n || !ascP ds i) i (ds.drop i) = if (!ascP ds i) = true then some i else bad1 (fun i x => i == 10 || !isRemD x per n || !ascP ds i) (i + 1) (ds.drop (i + 1)) := st
            refine iteF ⟨_, rfl, _, rfl, a, xs, i, ascP ds i, rfl, sSqT s2 hs, hi, fun e0 => by rw [e0]; rfl, fun j ej => ?_, _, rfl, ?_⟩
            · subst ej
              obtain ⟨x, ex⟩ : ∃ x, xs[j]? = some x := ⟨xs[j]'(by omega), List.getElem?_eq_getElem _⟩
              obtain ⟨dj, edj, hdj⟩ := dpAll_get ha ex
              obtain ⟨m1, m2, rfl, _⟩ := isRem_pr (hall j dj (Nat.lt_succ_self _) edj)
              obtain ⟨m3, m4, rfl, _⟩ := isRem_pr c
              cases hdj with
              | tup h1 h2 =>
                cases hdx with
                | tup h3 h4 =>
                  cases h2 with
                  | cons p1 p2 =>
                    cases p2 with
                    | cons p2 p3 =>
                      cases p3
                      cases p1
                      cases p2
                      cases h4 with
                      | cons q1 q2 =>
                        cases q2 with
                        | cons q2 q3 =>
                          cases q3
                          cases q1
                          cases q2
                          refine ⟨_, _, ex, e2, .inr ⟨_, _, [m1, m2], [m3, m4], rfl, rfl, sSqT s2 h1, sSqT s2 h3, ?_⟩⟩
                          show HT.lexLt [(prOf (ds.getD j .none)).1, (prOf (ds.getD j .none)).2] [(prOf (ds.getD (j + 1) .none)).1, (prOf (ds.getD (j + 1) .none)).2] = _
                          rw [getD_of edj, getD_of edx]; rfl
            · cases c2 : ascP ds i with
              | true =>
                rw [c2] at st'
                refine iteF ⟨_, _, rfl, s2, ?_, fun j d hj ej => ?_⟩
                · rw [eb, st']; rfl
                · by_cases e : j = i
                  · subst e; rw [edx] at ej; cases ej; exact c
                  · exact hall j d (by omega) ej
              | false =>
                rw [c2] at st'
                refine iteT ⟨_, rfl, raise_ih (Raised.mono (k2 i ?_) s2)⟩
                rw [eb, st']; rfl
      · rintro σ H1 ⟨v1, v2, rfl, s1, eb, _⟩
        refine k1 ?_ H1 s1
        rw [eb, hl]
        exact bad1_end
end
end Dk

set_option Elab.async false
set_option linter.all false
set_option maxRecDepth 100000
set_option maxHeartbeats 1000000
namespace Dk
open PySem PySem.Spec PyProof.Rows L2 TL
/-! ### the house -/
theorem isTab_of {d : PyData} (h : isTabD d = true) : ∃ t, d = .str t ∧ IsTab t := by
  cases d with
  | str t =>
    have h' : (decide ((t.length : Int) ∈ tabLens) && only t hoS) = true := h
    rw [Bool.and_eq_true] at h'
    refine ⟨t, rfl, ?_, fun c hc => ?_⟩
    · have h1 := of_decide_eq_true h'.1
      rw [len_tl t] at h1
      simp only [tabLens, List.mem_cons, List.not_mem_nil, or_false] at h1 ⊢
      omega
    · have h2 := List.all_eq_true.mp h'.2 c hc
      have h3 := of_decide_eq_true h2
      have e : tl hoS = [104, 111] := by decide +kernel
      rw [e] at h3
      simpa using h3
  | none => cases h
  | bool _ => cases h
  | int _ => cases h
  | list _ => cases h
  | tuple _ => cases h
  | dict _ => cases h
theorem isTab_is {t : Str} (h : IsTab t) : isTabD (.str t) = true := by
  show (decide ((t.length : Int) ∈ tabLens) && only t hoS) = true
  rw [Bool.and_eq_true]
  refine ⟨decide_eq_true ?_, List.all_eq_true.mpr fun c hc => decide_eq_true ?_⟩
  · have h1 := h.len
    rw [len_tl t]
    simp only [tabLens, List.mem_cons, List.not_mem_nil, or_false] at h1 ⊢
    omega
  · have e : tl hoS = [104, 111] := by decide +kernel
    rw [e]
    simpa using h.ho c hc
theorem bad1_none {p : Nat → PyData → Bool} : ∀ {ds : List PyData} {i : Nat}, bad1 p i ds = none ↔ ∀ j d, ds[j]? = some d → p (i + j) d = false
  | [], i => by simp [bad1]
  | d :: ds, i => by
    unfold bad1
    constructor
    · intro h j x hx
      split at h
      · cases h
      · rename_i c
        cases j with
        | zero => simp at hx; subst hx; simpa using c
        | succ j =>
          have := (bad1_none (ds := ds) (i := i + 1)).mp h j x (by simpa using hx)
          rw [show i + (j + 1) = i + 1 + j by omega]; exact this
    · intro h
      have h0 := h 0 d rfl
      rw [Nat.add_zero] at h0
      rw [h0]
      refine (bad1_none (ds := ds) (i := i + 1)).mpr fun j x hx => ?_
      have := h (j + 1) x (by simpa using hx)
      rw [show i + 1 + j = i + (j + 1) by omega]; exact this
theorem strs_of : ∀ {ds : List PyData}, (∀ d ∈ ds, isTabD d = true) → ∃ ts : List Str, ds = ts.map PyData.str ∧ Tabs ts
  | [], _ => ⟨[], rfl, fun t ht => by cases ht⟩
  | d :: ds, h => by
    obtain ⟨t, rfl, ht⟩ := isTab_of (h d (List.mem_cons_self ..))
    obtain ⟨ts, rfl, hts⟩ := strs_of (ds := ds) fun x hx => h x (List.mem_cons_of_mem _ hx)
    refine ⟨t :: ts, rfl, fun x hx => ?_⟩
    rcases List.mem_cons.mp hx with rfl | hx
    · exact ht
    · exact hts x hx
theorem tabs_of {d : PyData} (h : chkTabs d = none) : ∃ ts : List Str, d = .tuple (ts.map PyData.str) ∧ Tabs ts ∧ 1 ≤ ts.length ∧ ts.length ≤ 6 := by
  unfold chkTabs at h
  split at h
  · cases h
  · rename_i d0 ds
    have h' := bad1_none.mp h
    obtain ⟨ts, e, hT⟩ := strs_of (ds := d0 :: ds) fun x hx => by
      obtain ⟨j, hj⟩ := List.getElem?_of_mem hx
      have := h' j x hj
      simp only [Bool.or_eq_false_iff, Bool.not_eq_false'] at this
      exact this.2
    have hl : (d0 :: ds).length = ts.length := by rw [e, List.length_map]
    refine ⟨ts, by rw [e], hT, by rw [← hl]; simp, ?_⟩
    rw [← hl]
    rcases Nat.lt_or_ge 6 (d0 :: ds).length with c | c
    · have hx : (d0 :: ds)[6]? = some ((d0 :: ds)[6]'c) := List.getElem?_eq_getElem c
      have := h' 6 _ hx
      simp at this
    · exact c
  · cases h
theorem tabs_is {ts : List Str} (hT : Tabs ts) (h1 : 1 ≤ ts.length) (h6 : ts.length ≤ 6) : chkTabs (.tuple (ts.map PyData.str)) = none := by
  cases ts with
  | nil => simp at h1
  | cons t ts =>
    show bad1 _ 0 _ = none
    refine bad1_none.mpr fun j d hd => ?_
    have hd' : ((t :: ts).map PyData.str)[j]? = some d := hd
    rw [List.getElem?_map] at hd'
    cases e : (t :: ts)[j]? with
    | none => rw [e] at hd'; cases hd'
    | some x =>
      rw [e] at hd'
      have ed : PyData.str x = d := Option.some.inj hd'
      subst ed
      have hj : j < (t :: ts).length := (List.getElem?_eq_some_iff.mp e).1
      rw [isTab_is (hT x (List.mem_of_getElem? e))]
      have : (0 + j == 6) = false := by simp; omega
      rw [this]; rfl
def lenD : PyData → Nat
  | .tuple ds => ds.length
  | _ => 0
def strOf : PyData → Str
  | .str t => t
  | _ => Str.empty
def perD : PyData → Nat
  | .tuple ds => per (ds.map strOf)
  | _ => 1
/-- the first invalid part of a house -/
def chkHouse (dT dK dC dR : PyData) : Option (Str × Nat) :=
  match chkTabs dT with
  | some i => some ("tables", i)
  | none => match chkKeys dK with
    | some i => some ("keys", i)
    | none => match chkCareful dC (lenD dT : Int) with
      | some i => some ("careful", i)
      | none => match chkRem dR (perD dT : Int) (lenD dT : Int) with
        | some i => some ("reminders", i)
        | none => none
end Dk

set_option Elab.async false
set_option linter.all false
set_option maxRecDepth 100000
set_option maxHeartbeats 1000000
namespace Dk
open PySem PySem.Spec PyProof.Rows L2 TL
abbrev hFields (vT vK vC vR : V) : List (Str × V) := putF "reminders" vR (putF "careful" vC (putF "key_count" vK (putF "tables" vT [])))
theorem hf_len (vT vK vC vR : V) : (hFields vT vK vC vR).length = 4 := by rfl
structure TxtL (K : PySem.W.Frag) (mg : Str → Option Value) (C fP fT fK fC fR : Addr) (fdP fdT fdK fdC fdR : FuncData) : Prop where
  cl : Cls K C
  nT : NoAttr K C "tables"
  nK : NoAttr K C "key_count"
  nC : NoAttr K C "careful"
  nR : NoAttr K C "reminders"
  gP : mg "common_period" = some (.ref fP)
  FP : Fun K "common_period" "common_period" sPeriod fP fdP
  bP : Binds K fdP ["tables"] []
  gT : mg "check_tables" = some (.ref fT)
  FT : Fun K "check_tables" "check_tables" sChkTables fT fdT
  bT : Binds K fdT ["tables"] []
  gK : mg "check_keys" = some (.ref fK)
  FK : Fun K "check_keys" "check_keys" sChkKeys fK fdK
  bK : Binds K fdK ["keys"] []
  gCa : mg "check_careful" = some (.ref fC)
  FC : Fun K "check_careful" "check_careful" sChkCareful fC fdC
  bC : Binds K fdC ["careful", "persons"] []
  gR : mg "check_reminders" = some (.ref fR)
  FR : Fun K "check_reminders" "check_reminders" sChkRem fR fdR
  bR : Binds K fdR ["reminders", "period", "persons"] []
def spInit (K : PySem.W.Frag) (C CI : Addr) : Sp := fun vs H Q E => ∃ (p dx : Addr) (vT vK vC vR : V) (dT dK dC dR : PyData), vs = [.ref p, vT, vK, vC, vR] ∧ Dp K H vT dT ∧ Dp K H vK dK ∧ Dp K H vC dC ∧ Dp K H vR dR ∧
  (∀ ds, dT = .tuple ds → ∀ x ∈ ds, SmallS x) ∧ H p = some (.ins C dx []) ∧
  (chkHouse dT dK dC dR = none → ∀ H', Kp p H H' → H' p = some (.ins C dx (hFields vT vK vC vR)) → Q .non H') ∧
  (∀ part i, chkHouse dT dK dC dR = some (part, i) → Raised CI E H part (i : Int))
section
variable {P : Program} {w : World} {K : PySem.W.Frag} {mg : Str → Option Value} {base : Heap} {C fI : Addr} {fdI : FuncData} {fII fIB fHO : Addr} {fdII fdIB fdHO : FuncData} {fIT fIR fAs : Addr} {fdIT fdIR fdAs : FuncData}
  {CH fP fT fK fC fR : Addr} {fdP fdT fdK fdC fdR : FuncData}
theorem scInit : FnScope ["self", "tables", "keys", "careful", "reminders"] ["self", "tables", "keys", "careful", "reminders"] (defScope sInit) := ⟨rfl, rfl, rfl, by decide +kernel, rfl, by decide +kernel, by decide +kernel⟩
theorem strs_back {ts : List Str} : (ts.map PyData.str).map strOf = ts := by
  induction ts with
  | nil => rfl
  | cons t ts ih => rw [List.map_cons, List.map_cons, ih]; rfl
theorem dp_tabs {K : PySem.W.Frag} {H : Hp} {v : V} {ts : List Str} (h : Dp K H v (.tuple (ts.map PyData.str))) : ∃ a, v = .ref a ∧ SqT K H a (ts.map V.str) := by
  cases h with
  | @tup a xs ds hs ha =>
    refine ⟨a, rfl, ?_⟩
    have e : xs = ts.map V.str := by
      clear hs
      induction ts generalizing xs with
      | nil => cases ha; rfl
      | cons t ts ih =>
        cases ha with
        | cons h1 h2 =>
          cases h1
          rw [ih h2]; rfl
    rw [← e]; exact hs
theorem ok_init {f : Addr} {fd : FuncData} {dvs : List V} (F : FunD K "__init__" "House.__init__" (defArgs sInit) (defBody sInit) (defScope sInit) dvs [] f fd) (T : TxtA mg) (TC : TxtC mg) (TF : TxtF K mg fII fIB fHO fdII fdIB fdHO) (TI : TxtI K mg fIT fIR fAs fdIT fdIR fdAs) (TH : TxtIH K mg C fI fdI)
    (TL' : TxtL K mg CH fP fT fK fC fR fdP fdT fdK fdC fdR) :
    FnOk P w K mg base (L2.CX P w) 5 f fd ["self", "tables", "keys", "careful", "reminders"] (spInit K CH C) := by
  have GP : FnOk P w K mg base CX0 1 fP fdP ["tables"] (spPeriod K) := ok_period TL'.FP T TC
  have GT : FnOk P w K mg base (L2.CX P w) 3 fT fdT ["tables"] (spChkTabs K C) := ok_chktabs TL'.FT T TF TI TH
  have GK : FnOk P w K mg base (L2.CX P w) 3 fK fdK ["keys"] (spChkKeys K C) := ok_chkkeys TL'.FK TF TI TH
  have GC : FnOk P w K mg base (L2.CX P w) 3 fC fdC ["careful", "persons"] (spChkCareful K C) := ok_chkcareful TL'.FC T TF TI TH
  have GR : FnOk P w K mg base (L2.CX P w) 4 fR fdR ["reminders", "period", "persons"] (spChkRem K C) := ok_chkrem TL'.FR T TF TI TH
  refine F.ok scInit (fun vs H Q E h => ?_) (fun cdv A outer s H vs Q E hr h => ?_)
  · obtain ⟨p, dx, vT, vK, vC, vR, dT, dK, dC, dR, rfl, _⟩ := h
    rfl
  · obtain ⟨p, dx, vT, vK, vC, vR, dT, dK, dC, dR, rfl, hT, hK, hC, hR, hz, hp, k1, k2⟩ := h
    have hr3 : Room 3 (A.deeper (envOfC (Str.ofString "House.__init__") (defScope sInit) s.heap.objs.size f cdv)) := hr.mono (by decide)
    have hr1 : Room 1 (A.deeper (envOfC (Str.ofString "House.__init__") (defScope sInit) s.heap.objs.size f cdv)) := hr.mono (by decide)
    refine ⟨_, pss_cons (ps_expr (pe_call GT hr3 rfl TL'.gT TL'.FT.kp TL'.bT .nil (passes_call (takes_of rfl rfl rfl rfl) (fun _ _ _ _ h => h)) (pa_cons (pv 1) pa_nil)))
      (pss_cons (ps_expr (pe_call GK hr3 rfl TL'.gK TL'.FK.kp TL'.bK .nil (passes_call (takes_of rfl rfl rfl rfl) (fun _ _ _ _ h => h)) (pa_cons (pv 2) pa_nil)))
      (pss_cons (ps_expr (pe_call GC hr3 rfl TL'.gCa TL'.FC.kp TL'.bC .nil (passes_call (takes_of rfl rfl rfl rfl) (fun _ _ _ _ h => h)) (pa_cons (pv 3) (pa_cons (pe_callB call_len_seq (by rfl) T.len PySem.boot_len (pa_cons (pv 1) pa_nil)) pa_nil))))
      (pss_cons (ps_expr (pe_call GR hr rfl TL'.gR TL'.FR.kp TL'.bR .nil (passes_call (takes_of rfl rfl rfl rfl) (fun _ _ _ _ h => h)) (pa_cons (pv 4) (pa_cons (pe_call GP hr1 rfl TL'.gP TL'.FP.kp TL'.bP .nil pass0 (pa_cons (pv 1) pa_nil)) (pa_cons (pe_callB call_len_seq (by rfl) T.len PySem.boot_len (pa_cons (pv 1) pa_nil)) pa_nil)))))
      (pss_cons (ps_fld (pv 0) (pv 1) rfl) (pss_cons (ps_fld (pv 0) (pv 2) rfl) (pss_cons (ps_fld (pv 0) (pv 3) rfl) (pss_one (ps_fld (pv 0) (pv 4) rfl)))))))), ?_⟩
    refine ⟨_, rfl, vT, dT, rfl, hT, hz, fun cT H1 s1 => ?_, fun i c => k2 "tables" i (by unfold chkHouse; rw [c])⟩
    obtain ⟨ts, rfl, hTs, h1, h6⟩ := tabs_of cT
    obtain ⟨aT, rfl, hsT⟩ := dp_tabs hT
    refine ⟨_, rfl, vK, dK, rfl, dpSame s1 _ _ hK, fun cK => ?_, fun c => Raised.mono (k2 "keys" 0 (by unfold chkHouse; rw [cT]; dsimp only; rw [c])) s1⟩
    refine ⟨_, rfl, _, rfl, aT, _, rfl, .inr (sSqT s1 hsT), vC, dC, _, rfl, dpSame s1 _ _ hC, ?_⟩
    rw [show (((ts.map V.str).length : Nat) : Int) = (lenD (.tuple (ts.map PyData.str)) : Int) by show _ = (((ts.map PyData.str).length : Nat) : Int); rw [List.length_map, List.length_map]]
    refine ⟨fun cC H2 s2 => ?_, fun i c => Raised.mono (k2 "careful" i (by unfold chkHouse; rw [cT]; dsimp only; rw [cK]; dsimp only; rw [c])) s1⟩
    have s12 := s1.trans s2
    refine ⟨_, rfl, _, rfl, aT, ts, rfl, sSqT s12 hsT, hTs, _, rfl, aT, _, rfl, .inr (sSqT s12 hsT), vR, dR, _, _, rfl, dpSame s12 _ _ hR, ?_⟩
    rw [show (((ts.map V.str).length : Nat) : Int) = (lenD (.tuple (ts.map PyData.str)) : Int) by show _ = (((ts.map PyData.str).length : Nat) : Int); rw [List.length_map, List.length_map],
      show ((per ts : Nat) : Int) = (perD (.tuple (ts.map PyData.str)) : Int) by show _ = ((per ((ts.map PyData.str).map strOf) : Nat) : Int); rw [strs_back]]
    refine ⟨fun cR H3 s3 => ?_, fun i c => Raised.mono (k2 "reminders" i (by unfold chkHouse; rw [cT]; dsimp only; rw [cK]; dsimp only; rw [cC]; dsimp only; rw [c])) s12⟩
    have s123 := s12.trans s3
    have hp3 := s123 _ _ hp
    refine ⟨_, rfl, _, rfl, p, CH, dx, _, rfl, hp3, TL'.cl, TL'.nT, (by show 0 < 1000; decide), ?_⟩
    refine ⟨_, rfl, _, rfl, p, CH, dx, _, rfl, upd_same, TL'.cl, TL'.nK, (by show 1 < 1000; decide), ?_⟩
    refine ⟨_, rfl, _, rfl, p, CH, dx, _, rfl, upd_same, TL'.cl, TL'.nC, (by show 2 < 1000; decide), ?_⟩
    refine ⟨_, rfl, _, rfl, p, CH, dx, _, rfl, upd_same, TL'.cl, TL'.nR, (by show 3 < 1000; decide), ?_⟩
    refine k1 ?_ _ (fun b o nb eb => ?_) upd_same
    · unfold chkHouse; rw [cT]; dsimp only; rw [cK]; dsimp only; rw [cC]; dsimp only; rw [cR]
    · rw [upd_ne nb, upd_ne nb, upd_ne nb, upd_ne nb]; exact s123 _ _ eb
end
end Dk

set_option Elab.async false
set_option linter.all false
set_option maxRecDepth 100000
set_option maxHeartbeats 2000000
/-! isinstance(e, c), e an exception with fields of its own -/
namespace DkI
open PySem PySem.Spec PySem.Calls PyProof.Rows PySem.W
section
variable {prog : Program} {w : World} {A : Around} {E : Value → Shared → Prop} {s : Shared} {K : Frag} {x D : Addr} {ox ob : Obj}
theorem class_of_err {Q : Option Value → Shared → Prop} (C : L2.ExcC K D) (X : K.In s.heap) (I : InstAt s.heap x ox D (some ob)) (h : Q (some (.ref D)) { s with toks := s.toks + 1 }) : wpAny (model prog w) A (getAttr? (.ref x) "__class__") Q E s := by
  have cD : (clsIn K D).isSome = true := by obtain ⟨_, e, _⟩ := any_some C.hd; rw [e]; rfl
  cases s with
  | mk h0 g0 d0 t0 o0 =>
    have T0 := I.type (M := model prog w)
    have T1 : Looks (model prog w) h0 (isInstance (.ref x) (.type "BaseException")) true := T0.andThen (looks_subIn X C.hs)
    have n1 : (Value.builtin "BaseException.__getattribute__" == Value.builtin "object.__getattribute__") = false := by decide +kernel
    have n2 : (onTheHeap (Value.ref D) && Value.builtin "BaseException.__getattribute__" == Value.builtin "object.__getattribute__") = false := by rw [n1]; rfl
    unfold getAttr? getAttrBy? getAttrBy
    refine wpAny_bind (wpAny_mkText ?_)
    refine wpAny_bind (wpAny_attempt (wpAny_holding ?_))
    refine wpAny_bind (T0.at ?_)
    refine wpAny_bind ((looks_findIn (M := model prog w) X C.hg).at ?_)
    show wpAny _ _ (if (onTheHeap (Value.ref D) && Value.builtin "BaseException.__getattribute__" == Value.builtin "object.__getattribute__") = true then _ else _) _ _ _
    rw [n2, if_neg Bool.false_ne_true]
    unfold getAttrByItsOwn hookBefore
    refine wpAny_bind ?_
    rw [if_pos (show onTheHeap (Value.ref D) = true from rfl)]
    refine (looks_findIn (M := model prog w) X C.hk).at (wpAny_bind (wpAny_attempt (wpAny_holding ?_)))
    unfold callGetattribute
    rw [show (false && onTheHeap (Value.builtin "BaseException.__getattribute__")) = false from rfl, if_neg Bool.false_ne_true]
    unfold boundAndCalled
    rw [PySem.F.excAttr_ValueError.ga.bind (.ref x)]
    refine wpAny_bind (wpAny_pure ?_)
    show wpAny _ _ (call (.builtin "BaseException.__getattribute__") [.ref x, .str "__class__" t0]) _ _ _
    refine wpAny_call (codeAny_call_builtin PySem.F.excAttr_ValueError.ga.plain PySem.F.entry_bexc_ga ?_)
    refine @check_slot (model prog w) _ _ ⟨h0, g0, d0, t0 + 1, o0⟩ "BaseException.__getattribute__" "BaseException" "__getattribute__" (.ref x) [.str "__class__" t0] [] _ (by decide +kernel) (by decide +kernel) T1 (PySem.F.args_bexc_ga (.ref x) (.str "__class__" t0)) ?_
    unfold Builtin.«object.__getattribute__»
    refine wpAny_bind (wpAny_of_eq (a := ((Value.ref x : Value), [Value.str "__class__" t0])) (by first | rfl | (simp only [slotArgs]; rfl)) ?_)
    refine wpAny_bind (wpAny_pure (wpAny_bind (T0.at ?_)))
    refine wpAny_bind ((looks_find (M := model prog w) X I (findObj_data cD C.ha C.hn C.ht)).at ?_)
    show wpAny _ _ (holding [Value.builtin "object.__class__"] (call (.builtin "getset_descriptor.__get__") [.builtin "object.__class__", .ref x, .ref D]) >>= ret) _ _ _
    refine wpAny_bind (wpAny_holding (wpAny_call (class_get (s := ⟨h0, g0, d0, t0 + 1, o0⟩) (ox := ox) (od := some ob) (tp := .ref D) X I C.hm ?_)))
    refine wpAny_pure ?_
    show wpAny _ _ (handedOut (.ref D)) _ _ _
    rw [handedOut_of (v := .ref D) rfl]
    first
      | exact wpAny_pure (wpAny_pure h)
      | exact wpAny_pure h
      | exact wpAny_pure (wpAny_bind (wpAny_pure (wpAny_pure h)))
theorem kit_err (C : L2.ExcC K D) : KitX K (.ref x) (.ref D) (fun h => InstAt h x ox D (some ob)) where
  ty := fun _ _ _ I => I.type
  it := fun M h X _ => by
    obtain ⟨cd, e, _⟩ := any_some C.hd
    unfold clsIn at e
    split at e
    · rename_i a b c d ho
      intro A' Q' E' s' k q
      unfold isType loadHead
      exact wpAny_bind (wpAny_loadPart (k _ _ (X _ _ ho)) (wpAny_pure q))
    · cases e
  ne := fun h tp dd its n sl X htp => by
    obtain ⟨cd, e, _⟩ := any_some C.hd
    refine Bool.eq_false_iff.mpr fun q => ?_
    have e0 : D = tp := Value.ref.inj (beq_iff_eq.mp q)
    subst e0
    unfold clsIn at e
    split at e
    · rename_i a b c d ho
      cases (X _ _ ho).symm.trans htp
    · cases e
  ca := fun X I k => class_of_err C X I k
end
end DkI
namespace Dk
open PySem PySem.Spec PyProof.Rows L2
/-- isinstance(e, c), e the exception that the suite holds, dd its dict -/
def rIsD (K : PySem.W.Frag) (D a : Addr) (cls : Value) (d : Option Addr) : List V → Hp → VK → Prop := fun xs H Q => ∃ (c : V) (cv : Value) (b : Bool) (dd : Addr) (fs : List (Str × V)), cls = .ref D ∧ d = some dd ∧ H dd = some (.xd fs) ∧ xs = [.ref a, c] ∧ (∀ u, RelV c u → u = cv) ∧ PySem.W.kitOne K (.ref D) cv = some b ∧ Q (.bl b) H
theorem call_isD {X : Cx} {a D : Addr} {oe : Obj} {cls : Value} {d : Option Addr} {pn : List (Addr × Obj)} (C : ExcC X.K D) (hz : Zc cls d oe) (hf : ∃ vs, oe.data = .fields vs) : CallR (X.suite a ((a, oe) :: pn)) (.builtin "isinstance") (rIsD X.K D a cls d) := by
  intro pins s σ H xs us Q I r h
  obtain ⟨c, cv, b, dd, fs, rfl, rfl, ea, rfl, hcv, e, q⟩ := h
  cases r with
  | cons rx rr =>
    cases rr with
    | cons rt rr =>
      cases rr
      cases rx
      have ec := hcv _ rt
      subst ec
      obtain ⟨hget, _⟩ := I.pin (a, oe) (List.mem_append.mpr (.inl List.mem_cons_self))
      obtain ⟨vs, hv⟩ := hf
      have hx : ObjOk X.prog X.w H s.heap dd (.xd fs) := I.hok dd _ ea
      obtain ⟨mA, hns, _⟩ := hx
      obtain ⟨ob, ho, _⟩ := lookIn_ns hns
      have J : PySem.W.InstAt s.heap a oe D (some ob) := ⟨hget, hz.1, by unfold PySem.W.notCls; rw [hv] <;> rfl, by rw [hz.2]; exact ho⟩
      exact PySem.W.kia_one (DkI.kit_err C) I.kIn J e (fun z => nomatch z) fun tk => ⟨.bl b, H, I.kept (t' := tk) fun _ _ z => z, rfl, q⟩
end Dk

set_option Elab.async false
set_option linter.all false
set_option maxRecDepth 100000
set_option maxHeartbeats 1000000
namespace Dk
open PySem PySem.Spec PyProof.Rows L2 TL
/-! ### heaps with a table -/
/-- all is as it was but d and the tables -/
def KpN (d : Addr) (H H' : Hp) : Prop := ∀ b o, b ≠ d → H b = some o → (∀ ps, o ≠ .tbl ps) → H' b = some o
theorem KpN.of {d : Addr} {H H' : Hp} (k : Kp d H H') : KpN d H H' := fun b o n e _ => k b o n e
theorem KpN.same {d : Addr} {H H' : Hp} (s : Same H H') : KpN d H H' := fun b o _ e _ => s b o e
theorem KpN.ext {d : Addr} {H H' : Hp} (s : LamX.ExtN H H') : KpN d H H' := fun b o _ e n => s b o e n
theorem KpN.refl {d : Addr} {H : Hp} : KpN d H H := fun _ _ _ e _ => e
theorem KpN.trans {d : Addr} {H H1 H2 : Hp} (a : KpN d H H1) (b : KpN d H1 H2) : KpN d H H2 := fun c o n e q => b c o n (a c o n e q) q
theorem KpN.tup {d : Addr} {H H' : Hp} {xs : List V} (k : KpN d H H') (hd : H d = some (.lst xs)) : ∀ t ys, H t = some (.tup ys) → H' t = some (.tup ys) := fun t ys h => k t _ (fun e => by rw [e, hd] at h; cases h) h fun ps z => by cases z
theorem tabs_kp {T : List (Addr × Str)} {d : Addr} {H H' : Hp} {xs : List V} (t : LamX.Tabs T H) (k : Kp d H H') (hd : H d = some (.lst xs)) : LamX.Tabs T H' := fun p hp => by
  obtain ⟨ps, h1, h2, h3⟩ := t p hp
  refine ⟨ps, k _ _ (fun e => by rw [e, hd] at h1; cases h1) h1, h2, fun pos cv hc => ?_⟩
  obtain ⟨c, e1, e2⟩ := h3 pos cv hc
  exact ⟨c, e1, k _ _ (fun e => by rw [e, hd] at e2; unfold LamX.CodeO at e2; cases e2) e2⟩
theorem tabs_same {T : List (Addr × Str)} {H H' : Hp} (t : LamX.Tabs T H) (s : Same H H') : LamX.Tabs T H' := t.ext s
theorem extN_same {H H' : Hp} (s : Same H H') : LamX.ExtN H H' := fun b o e _ => s b o e
theorem ExtN_lst {H H' : Hp} {a : Addr} {xs : List V} (e : LamX.ExtN H H') (h : H a = some (.lst xs)) : H' a = some (.lst xs) := e _ _ h fun ps z => by cases z
theorem ExtN_tup {H H' : Hp} {a : Addr} {xs : List V} (e : LamX.ExtN H H') (h : H a = some (.tup xs)) : H' a = some (.tup xs) := e _ _ h fun ps z => by cases z
end Dk

set_option Elab.async false
set_option linter.all false
set_option maxRecDepth 100000
set_option maxHeartbeats 1000000
namespace Dk
open PySem PySem.Spec PyProof.Rows L2 TL
/-! ### l.count(x), flat items -/
def rCntF (K : PySem.W.Frag) : V → List V → Hp → VK → Prop := fun x xs H Q => ∃ (a : Addr) (ys : List V) (y : V), x = .ref a ∧ xs = [y] ∧ SqL K H a ys ∧ flatV y = true ∧ ys.all flatV = true ∧ Q (.int ((ys.countP fun z => eqV z y : Nat) : Int)) H
theorem countP_vals {y : V} : ∀ {ys : List V} {us : List Value}, Vals ys us → ys.all flatV = true → us.countP (eqU y) = ys.countP fun z => eqV z y
  | _, _, .nil, _ => rfl
  | z :: ys, u :: us, .cons r t, f => by
    rw [List.all_cons, Bool.and_eq_true] at f
    rw [List.countP_cons, List.countP_cons, countP_vals t f.2, eqU_of r f.1]
theorem mt_countF {X : Cx} : MtR X "list.count" (rCntF X.K) := by
  intro pins s σ H x xs v us Q I rx rxs h
  obtain ⟨a, ys, y, rfl, rfl, hs, fy, fys, q⟩ := h
  cases rx
  obtain ⟨uy, rfl, ry⟩ := rxs.one
  obtain ⟨its, rv, ⟨⟨c0, dd, d0, sl⟩, n, ho, hc, _, hd⟩, _⟩ := I.list hs
  simp only at hc hd
  subst hc hd
  refine call_meets PySem.F.slot_list_count ⟨_, ho, rfl⟩ PySem.F.entry_list_count (PySem.F.args_list_count_2 _ _)
    (SeqAt.list_countAt a its.toArray n dd sl uy (eqU y)) ⟨ho, fun u' hu' => mem_eqAt ry fy rv fys u' (by simpa using hu'), ?_⟩
  refine ⟨.int ((ys.countP fun z => eqV z y : Nat) : Int), H, I.tok _, ⟨s.toks, ?_⟩, q⟩
  show Value.int ((its.toArray.toList.countP (eqU y) : Nat) : Int) s.toks = _
  rw [show its.toArray.toList.countP (eqU y) = ys.countP fun z => eqV z y from countP_vals rv fys]
/-! ### the kind of an error -/
def errNames : List Str := ["tick", "person", "limit", "different", "waiting", "contradiction", "name", "unknown", "house", "text", "code", "operation"]
structure TxtN (mg : Str → Option Value) (cs : Nat → Addr) (CE : Addr) : Prop where
  gE : mg "HouseError" = some (.ref CE)
  n0 : mg "InvalidTick" = some (.ref (cs 0))
  n1 : mg "UnknownPerson" = some (.ref (cs 1))
  n2 : mg "InvalidLimit" = some (.ref (cs 2))
  n3 : mg "DifferentHouses" = some (.ref (cs 3))
  n4 : mg "InvalidWaiting" = some (.ref (cs 4))
  n5 : mg "Contradiction" = some (.ref (cs 5))
  n6 : mg "InvalidName" = some (.ref (cs 6))
  n7 : mg "UnknownName" = some (.ref (cs 7))
  n8 : mg "InvalidHouse" = some (.ref (cs 8))
  n9 : mg "TextFault" = some (.ref (cs 9))
  n10 : mg "InvalidCode" = some (.ref (cs 10))
  n11 : mg "InvalidOperation" = some (.ref (cs 11))
  vE : mg "ValueError" = none
  isi : mg "isinstance" = none
/-- the class at D is the j-th -/
structure ErrKit (K : PySem.W.Frag) (cs : Nat → Addr) (CE D : Addr) (j : Nat) : Prop where
  at_ : ∀ i, i < 12 → PySem.W.kitOne K (.ref D) (.ref (cs i)) = some (decide (i = j))
  v : PySem.W.kitOne K (.ref D) (.type "ValueError") = some true
  ex : PySem.W.exmOne K (.ref D) (.ref CE) = some true
  C : ExcC K D
/-- isinstance(e, c) -/
def rIsX (K : PySem.W.Frag) (a : Addr) (cls : Value) (d : Option Addr) : List V → Hp → VK → Prop := fun xs H Q => ∃ (D : Addr) (_ : ExcC K D), rIsD K D a cls d xs H Q
theorem call_isX {X : Cx} {a : Addr} {oe : Obj} {cls : Value} {d : Option Addr} {pn : List (Addr × Obj)} (hz : Zc cls d oe) (hf : ∃ vs, oe.data = .fields vs) : CallR (X.suite a ((a, oe) :: pn)) (.builtin "isinstance") (rIsX X.K a cls d) := by
  intro pins s σ H xs us Q I r h
  obtain ⟨D, C, h⟩ := h
  exact call_isD C hz hf pins s σ H xs us Q I r h

/-- isinstance(e, c), e with fields or without -/
def rIsY (K : PySem.W.Frag) (a : Addr) (cls : Value) (d : Option Addr) : List V → Hp → VK → Prop := fun xs H Q => (d = none ∧ ∃ D, ExcC K D ∧ cls = .ref D ∧ rIsE K D a xs H Q) ∨ rIsX K a cls d xs H Q
theorem call_isY {X : Cx} {a : Addr} {oe : Obj} {cls : Value} {d : Option Addr} {pn : List (Addr × Obj)} (hz : Zc cls d oe) (hf : ∃ vs, oe.data = .fields vs) : CallR (X.suite a ((a, oe) :: pn)) (.builtin "isinstance") (rIsY X.K a cls d) := by
  intro pins s σ H xs us Q I r h
  rcases h with ⟨rfl, D, C, rfl, h⟩ | h
  · exact call_isE C hz hf pins s σ H xs us Q I r h
  · exact call_isX hz hf pins s σ H xs us Q I r h
/-- e.n, whatever the class that has it -/
def tXf2 (K : PySem.W.Frag) (a : Addr) (cls : Value) (d : Option Addr) (n : Str) : TE := fun σ H Q => σ[1]? = some (some (.ref a)) ∧ ∃ C, XfC K C ∧ PySem.W.findIn K (.ref C) n = some none ∧ cls = .ref C ∧ ∃ (dd : Addr) (fs : List (Str × V)) (v : V), d = some dd ∧ H dd = some (.xd fs) ∧ fs.lookup n = some v ∧ Q v H
theorem pe_xf2 {X : Cx} {a : Addr} {oe : Obj} {cls : Value} {d : Option Addr} {pn : List (Addr × Obj)} {e : Expr} {pos : Pos} {n : Str} (hz : Zc cls d oe) (hf : ∃ vs, oe.data = .fields vs) (he : PE (X.suite a ((a, oe) :: pn)) e (tVar 1)) (hb : attributeBase e n X.env (eval e X.env) = eval e X.env := by rfl) :
    PE (X.suite a ((a, oe) :: pn)) (.Attribute e n pos) (tXf2 X.K a cls d n) := by
  refine ⟨fun pins s σ H Q I h => ?_⟩
  obtain ⟨h1, C, XC, hno, rfl, dd, fs, v, rfl, h2, h3, h4⟩ := h
  exact (pe_xf XC hno hz hf he hb).run pins s σ H Q I ⟨_, h1, rfl, rfl, dd, fs, v, rfl, h2, h3, h4⟩
def DOk (d : Option Addr) (H : Hp) : Prop := d = none ∨ ∃ dd fs, d = some dd ∧ H dd = some (.xd fs)
theorem DOk.mono {d : Option Addr} {H H' : Hp} (h : DOk d H) (s : Same H H') : DOk d H' := by
  rcases h with h | ⟨dd, fs, h1, h2⟩
  · exact .inl h
  · exact .inr ⟨dd, fs, h1, s _ _ h2⟩
abbrev nErr : List Str := ["_law_call", "_law_e", "_law_kinds", "_law_names", "_law_name"]
def errAt (j : Nat) : Str := errNames.getD j (Str.ofString "")
/-- what the call's error must tell: (word, value) -/
def EErr (cs : Nat → Addr) (J : List Nat) (Q : VK) : XK := fun cls d H => ∃ j, j ∈ J ∧ cls = .ref (cs j) ∧
  ((j < 8 ∧ d = none ∧ ∀ (H' : Hp) (p : Addr), Same H H' → H' p = some (.tup [.str (errAt j), .int 0]) → Q (.ref p) H') ∨
   (j = 8 ∧ ∃ (part : Str) (i : Int) (dd : Addr), d = some dd ∧ H dd = some (.xd [("index", .int i), ("part", .str part)]) ∧
      ∀ (H' : Hp) (p t : Addr), Same H H' → H' t = some (.tup [.str part, .int i]) → H' p = some (.tup [.str (Str.ofString "house"), .ref t]) → Q (.ref p) H') ∨
   (j = 9 ∧ ∃ (i : Int) (dd : Addr), d = some dd ∧ H dd = some (.xd [("line", .int i)]) ∧ ∀ (H' : Hp) (p : Addr), Same H H' → H' p = some (.tup [.str (Str.ofString "text"), .int i]) → Q (.ref p) H') ∨
   (10 ≤ j ∧ ∃ (i : Int) (dd : Addr), d = some dd ∧ H dd = some (.xd [("place", .int i)]) ∧ ∀ (H' : Hp) (p : Addr), Same H H' → H' p = some (.tup [.str (errAt j), .int i]) → Q (.ref p) H'))
def TErr (cs : Nat → Addr) (J : List Nat) : (XK → Hp → VK → Prop) → Hp → VK → Prop := fun tl H Q => tl (EErr cs J Q) H fun _ H' => Q .non H'
theorem scErr : FnScope nErr ["_law_call"] (defScope sErrOf) := ⟨rfl, rfl, rfl, by decide +kernel, rfl, by decide +kernel, by decide +kernel⟩
/-- all classes of errors -/
structure ErK (K : PySem.W.Frag) (cs : Nat → Addr) (CE : Addr) (J : List Nat) : Prop where
  lt : ∀ j ∈ J, j < 12
  kit : ∀ j ∈ J, ErrKit K cs CE (cs j) j
  x8 : XfC K (cs 8)
  x9 : XfC K (cs 9)
  nP : PySem.W.findIn K (.ref (cs 8)) "part" = some none
  nI : PySem.W.findIn K (.ref (cs 8)) "index" = some none
  nL : PySem.W.findIn K (.ref (cs 9)) "line" = some none
  x10 : ∀ j ∈ J, 10 ≤ j → XfC K (cs j) ∧ PySem.W.findIn K (.ref (cs j)) "place" = some none
section
variable {P : Program} {w : World} {K : PySem.W.Frag} {mg : Str → Option Value} {base : Heap} {cs : Nat → Addr} {CE : Addr} {J : List Nat}
def flags (j : Nat) : List V := (List.range 12).map fun i => V.bl (decide (i = j))
theorem flags_flat (j : Nat) : (flags j).all flatV = true := by
  refine List.all_eq_true.mpr fun x hx => ?_
  obtain ⟨i, _, rfl⟩ := List.mem_map.mp hx
  rfl
theorem flags_at {j m : Nat} {z : V} (h : (flags j)[m]? = some z) : z = .bl (decide (m = j)) := by
  unfold flags at h
  rw [List.getElem?_map] at h
  cases e : (List.range 12)[m]? with
  | none => rw [e] at h; cases h
  | some i =>
    rw [e] at h
    have hi := List.getElem?_eq_some_iff.mp e
    obtain ⟨h1, h2⟩ := hi
    rw [List.getElem_range] at h2
    subst h2
    exact (Option.some.inj h).symm
theorem flags_no {j m : Nat} {z : V} (hm : m < j) (h : (flags j)[m]? = some z) : eqV z (.bl true) = false := by
  rw [flags_at h, decide_eq_false (by omega)]; rfl
theorem flags_yes {j : Nat} (h : j < 12) : (flags j)[j]? = some (.bl true) := by
  unfold flags
  rw [List.getElem?_map, List.getElem?_range h]
  show some (V.bl (decide (j = j))) = _
  rw [decide_eq_true rfl]
theorem flags_one {j : Nat} (h : j < 12) : (flags j).countP (fun z => eqV z (.bl true)) = 1 := by
  have : j = 0 ∨ j = 1 ∨ j = 2 ∨ j = 3 ∨ j = 4 ∨ j = 5 ∨ j = 6 ∨ j = 7 ∨ j = 8 ∨ j = 9 ∨ j = 10 ∨ j = 11 := by omega
  rcases this with rfl | rfl | rfl | rfl | rfl | rfl | rfl | rfl | rfl | rfl | rfl | rfl <;> rfl
theorem is_step {K : PySem.W.Frag} {cs : Nat → Addr} {CE D0 a : Addr} {d : Option Addr} {j i : Nat} {H : Hp} {Q : VK} (EK : ErrKit K cs CE D0 j) (e : DOk d H) (hi : i < 12) (q : Q (.bl (decide (i = j))) H) :
    rIsY K a (.ref D0) d [.ref a, .ref (cs i)] H Q := by
  rcases e with rfl | ⟨dd, fs, rfl, e⟩
  · exact .inl ⟨rfl, D0, EK.C, rfl, .ref (cs i), .ref (cs i), _, rfl, fun _ z => z, EK.at_ i hi, q⟩
  · exact .inr ⟨D0, EK.C, .ref (cs i), .ref (cs i), _, dd, fs, rfl, rfl, e, rfl, fun _ z => z, EK.at_ i hi, q⟩
theorem ve_step {K : PySem.W.Frag} {cs : Nat → Addr} {CE D0 a : Addr} {d : Option Addr} {j : Nat} {H : Hp} {Q : VK} (EK : ErrKit K cs CE D0 j) (e : DOk d H) (q : Q (.bl true) H) :
    rIsY K a (.ref D0) d [.ref a, .ty "ValueError"] H Q := by
  rcases e with rfl | ⟨dd, fs, rfl, e⟩
  · exact .inl ⟨rfl, D0, EK.C, rfl, .ty "ValueError", .type "ValueError", _, rfl, fun _ z => z, EK.v, q⟩
  · exact .inr ⟨D0, EK.C, .ty "ValueError", .type "ValueError", _, dd, fs, rfl, rfl, e, rfl, fun _ z => z, EK.v, q⟩
abbrev cxE (X : Cx) (g : Addr) (cdg : Value) (s : Shared) (H : Hp) : Cx := (cxOf C8.CX0 X.prog X.w X.K X.mg X.base nErr "_law_error_of" (defScope sErrOf) g cdg X.A X.stack s H C8.E0).nox
abbrev suiteE : List Stmt := match defBody sErrOf with
  | .Try _ [.ExceptHandler _ _ b _] _ _ _ :: _ => b
  | _ => []
abbrev bodyE : List Stmt := match defBody sErrOf with
  | .Try b _ _ _ _ :: _ => b
  | _ => []
def tsS0 (cs : Nat → Addr) (J : List Nat) (a : Addr) (cls : Value) (d : Option Addr) : TS := fun D σ H => (∃ v0 v2 v3 v4, σ = [v0, some (.ref a), v2, v3, v4]) ∧ EErr cs J D.rt cls d H
def tsS (cs : Nat → Addr) (J : List Nat) (a : Addr) (cls : Value) (d : Option Addr) : TS := fun D σ H => (∃ σ0 : L2.St, σ = σ0.set 1 (some (.ref a))) ∧ EErr cs J D.rt cls d H
theorem five {σ0 : L2.St} {a : Addr} (h : (σ0.set 1 (some (V.ref a))).length = 5) : ∃ v0 v2 v3 v4, σ0.set 1 (some (V.ref a)) = [v0, some (.ref a), v2, v3, v4] := by
  rw [List.length_set] at h
  match σ0, h with
  | [v0, _, v2, v3, v4], _ => exact ⟨v0, v2, v3, v4, rfl⟩
theorem suite_ok {X : Cx} {g : Addr} {cdg : Value} {s : Shared} {H : Hp} (N : TxtN X.mg cs CE) (EK' : ErK X.K cs CE J) (hu : X.A.units + 100 < cLine)
    {a : Addr} {oe : Obj} {cls : Value} {d : Option Addr} {pn : List (Addr × Obj)} (hz : Zc cls d oe) (hf : ∃ vs, oe.data = .fields vs) : PSs ((cxE X g cdg s H).suite a ((a, oe) :: pn)) suiteE (tsS cs J a cls d) := by
  have isi : ((cxE X g cdg s H).suite a ((a, oe) :: pn)).mg "isinstance" = none := N.isi
  have hh : ∃ t, PSs ((cxE X g cdg s H).suite a ((a, oe) :: pn)) suiteE t ∧ ∀ D σ H', tsS0 cs J a cls d D σ H' → t D σ H' := by
    have hu2 : ((cxE X g cdg s H).suite a ((a, oe) :: pn)).A.units + 65 < cLine := by
      show X.A.units + 3 + 65 < cLine
      omega
    refine ⟨_, (pss_cons (ps_set (i := 2) scErr.nd rfl (.inl rfl) (pe_lst (pa_cons (pe_callB (call_isY hz hf) (by rfl) N.isi (by decide +kernel) (pa_cons (pv 1) (pa_cons (pe_glob (v := .ref (cs 0)) (by rfl) N.n0 rfl) pa_nil))) (pa_cons (pe_callB (call_isY hz hf) (by rfl) N.isi (by decide +kernel) (pa_cons (pv 1) (pa_cons (pe_glob (v := .ref (cs 1)) (by rfl) N.n1 rfl) pa_nil))) (pa_cons (pe_callB (call_isY hz hf) (by rfl) N.isi (by decide +kernel) (pa_cons (pv 1) (pa_cons (pe_glob (v := .ref (cs 2)) (by rfl) N.n2 rfl) pa_nil))) pa_nil)))))
      (pss_cons (ps_set (i := 2) scErr.nd rfl (.inl rfl) (pe_op op_cat (pv 2) (pe_lst (pa_cons (pe_callB (call_isY hz hf) (by rfl) N.isi (by decide +kernel) (pa_cons (pv 1) (pa_cons (pe_glob (v := .ref (cs 3)) (by rfl) N.n3 rfl) pa_nil))) (pa_cons (pe_callB (call_isY hz hf) (by rfl) N.isi (by decide +kernel) (pa_cons (pv 1) (pa_cons (pe_glob (v := .ref (cs 4)) (by rfl) N.n4 rfl) pa_nil))) (pa_cons (pe_callB (call_isY hz hf) (by rfl) N.isi (by decide +kernel) (pa_cons (pv 1) (pa_cons (pe_glob (v := .ref (cs 5)) (by rfl) N.n5 rfl) pa_nil))) pa_nil))))))
      (pss_cons (ps_set (i := 2) scErr.nd rfl (.inl rfl) (pe_op op_cat (pv 2) (pe_lst (pa_cons (pe_callB (call_isY hz hf) (by rfl) N.isi (by decide +kernel) (pa_cons (pv 1) (pa_cons (pe_glob (v := .ref (cs 6)) (by rfl) N.n6 rfl) pa_nil))) (pa_cons (pe_callB (call_isY hz hf) (by rfl) N.isi (by decide +kernel) (pa_cons (pv 1) (pa_cons (pe_glob (v := .ref (cs 7)) (by rfl) N.n7 rfl) pa_nil))) (pa_cons (pe_callB (call_isY hz hf) (by rfl) N.isi (by decide +kernel) (pa_cons (pv 1) (pa_cons (pe_glob (v := .ref (cs 8)) (by rfl) N.n8 rfl) pa_nil))) pa_nil))))))
      (pss_cons (ps_set (i := 2) scErr.nd rfl (.inl rfl) (pe_op op_cat (pv 2) (pe_lst (pa_cons (pe_callB (call_isY hz hf) (by rfl) N.isi (by decide +kernel) (pa_cons (pv 1) (pa_cons (pe_glob (v := .ref (cs 9)) (by rfl) N.n9 rfl) pa_nil))) (pa_cons (pe_callB (call_isY hz hf) (by rfl) N.isi (by decide +kernel) (pa_cons (pv 1) (pa_cons (pe_glob (v := .ref (cs 10)) (by rfl) N.n10 rfl) pa_nil))) (pa_cons (pe_callB (call_isY hz hf) (by rfl) N.isi (by decide +kernel) (pa_cons (pv 1) (pa_cons (pe_glob (v := .ref (cs 11)) (by rfl) N.n11 rfl) pa_nil))) pa_nil))))))
      (pss_cons (ps_if (PW.pt (pw_or (pt_cmpR op_ne (pe_bm PySem.F.plainAttrs_list PySem.F.slot_list_count PySem.F.type_list_count mt_countF (pv 2) (pa_cons pe_bl pa_nil)) pe_int (nomark _)) (pw_or1 (pt_not (pt_val (pe_callB (call_isY hz hf) (by rfl) N.isi (by decide +kernel) (pa_cons (pv 1) (pa_cons (pe_bltn (v := .ty "ValueError") (by rfl) N.vE (by decide +kernel) rfl) pa_nil)))))))) (pss_one (ps_ret (pe_tup (pa_cons pe_str (pa_cons pe_int pa_nil))))) pss_nil)
      (pss_cons (ps_set (i := 3) scErr.nd rfl (.inl rfl) (pe_lst (pa_cons pe_str (pa_cons pe_str (pa_cons pe_str (pa_cons pe_str (pa_cons pe_str (pa_cons pe_str (pa_cons pe_str (pa_cons pe_str (pa_cons pe_str (pa_cons pe_str pa_nil))))))))))))
      (pss_cons (ps_set (i := 4) scErr.nd rfl (.inl rfl) (pe_ix ix_list (pe_op op_cat (pv 3) (pe_lst (pa_cons pe_str (pa_cons pe_str pa_nil)))) (pe_bm PySem.F.plainAttrs_list PySem.F.slot_list_index PySem.F.type_list_index mt_index (pv 2) (pa_cons pe_bl pa_nil)) (fun _ _ => rfl)))
      (pss_cons (ps_if (pt_cmpR op_eq (pv 4) pe_str (nomark _)) (pss_one (ps_ret (pe_tup (pa_cons (pv 4) (pa_cons (pe_tup (pa_cons (pe_xf EK'.x8 EK'.nP hz hf (pv 1)) (pa_cons (pe_xf EK'.x8 EK'.nI hz hf (pv 1)) pa_nil))) pa_nil))))) pss_nil)
      (pss_cons (ps_if (pt_cmpR op_eq (pv 4) pe_str (nomark _)) (pss_one (ps_ret (pe_tup (pa_cons (pv 4) (pa_cons (pe_xf EK'.x9 EK'.nL hz hf (pv 1)) pa_nil))))) pss_nil)
      (pss_one (ps_ret (pe_tup (pa_cons (pv 4) (pa_cons (pe_ifExp (pt_cmpR op_in_seq (pv 4) (pe_lst (pa_cons pe_str (pa_cons pe_str pa_nil))) (by rfl)) (pe_xf2 hz hf (pv 1)) pe_int) pa_nil)))))))))))))), fun D σ H' h => ?_⟩
    obtain ⟨⟨v0, v2, v3, v4, rfl⟩, h⟩ := h
    obtain ⟨j, hjJ, ecls, fin⟩ := h
    have j12 := EK'.lt j hjJ
    have EK := EK'.kit j hjJ
    have edd : DOk d H' := by
      rcases fin with ⟨_, e, _⟩ | ⟨_, _, _, dd, e, e2, _⟩ | ⟨_, _, dd, e, e2, _⟩ | ⟨_, _, dd, e, e2, _⟩
      · exact .inl e
      · exact .inr ⟨dd, _, e, e2⟩
      · exact .inr ⟨dd, _, e, e2⟩
      · exact .inr ⟨dd, _, e, e2⟩
    subst ecls
    -- the kinds
    refine ⟨_, rfl, is_step EK edd (by decide) ⟨_, rfl, is_step EK edd (by decide) ⟨_, rfl, is_step EK edd (by decide) ⟨by show 3 ≤ sizeLine; decide, fun l1 hl1 => ?_⟩⟩⟩⟩
    have s1 := same_upd (o := .lst [.bl (decide (0 = j)), .bl (decide (1 = j)), .bl (decide (2 = j))]) hl1
    have e1 : (upd H' l1 (.lst [.bl (decide (0 = j)), .bl (decide (1 = j)), .bl (decide (2 = j))])) l1 = some (.lst [.bl (decide (0 = j)), .bl (decide (1 = j)), .bl (decide (2 = j))]) := upd_same
    generalize upd H' l1 (.lst [.bl (decide (0 = j)), .bl (decide (1 = j)), .bl (decide (2 = j))]) = H1 at s1 e1
    refine ⟨_, rfl, _, rfl, is_step EK (edd.mono s1) (by decide) ⟨_, rfl, is_step EK (edd.mono s1) (by decide) ⟨_, rfl, is_step EK (edd.mono s1) (by decide) ⟨by show 3 ≤ sizeLine; decide, fun l2 hl2 => ?_⟩⟩⟩⟩
    have s2 := s1.trans (same_upd (o := .lst [.bl (decide (3 = j)), .bl (decide (4 = j)), .bl (decide (5 = j))]) hl2)
    have e1' := same_upd (o := .lst [.bl (decide (3 = j)), .bl (decide (4 = j)), .bl (decide (5 = j))]) hl2 _ _ e1
    have e2 : (upd H1 l2 (.lst [.bl (decide (3 = j)), .bl (decide (4 = j)), .bl (decide (5 = j))])) l2 = some (.lst [.bl (decide (3 = j)), .bl (decide (4 = j)), .bl (decide (5 = j))]) := upd_same
    refine ⟨l1, l2, _, _, rfl, rfl, e1', e2, by show 3 + 3 ≤ sizeLine; decide, fun p1 hp1 => ?_⟩
    have s3 := s2.trans (same_upd (o := .lst ([.bl (decide (0 = j)), .bl (decide (1 = j)), .bl (decide (2 = j))] ++ [.bl (decide (3 = j)), .bl (decide (4 = j)), .bl (decide (5 = j))])) hp1)
    have f1 : (upd (upd H1 l2 (.lst [.bl (decide (3 = j)), .bl (decide (4 = j)), .bl (decide (5 = j))])) p1 (.lst ([.bl (decide (0 = j)), .bl (decide (1 = j)), .bl (decide (2 = j))] ++ [.bl (decide (3 = j)), .bl (decide (4 = j)), .bl (decide (5 = j))]))) p1 = some (.lst (([.bl (decide (0 = j)), .bl (decide (1 = j)), .bl (decide (2 = j))] ++ [.bl (decide (3 = j)), .bl (decide (4 = j)), .bl (decide (5 = j))]))) := upd_same
    generalize upd (upd H1 l2 (.lst [.bl (decide (3 = j)), .bl (decide (4 = j)), .bl (decide (5 = j))])) p1 (.lst ([.bl (decide (0 = j)), .bl (decide (1 = j)), .bl (decide (2 = j))] ++ [.bl (decide (3 = j)), .bl (decide (4 = j)), .bl (decide (5 = j))])) = H2 at s3 f1
    generalize eA : ([.bl (decide (0 = j)), .bl (decide (1 = j)), .bl (decide (2 = j))] ++ [.bl (decide (3 = j)), .bl (decide (4 = j)), .bl (decide (5 = j))] : List V) = A6 at f1
    have lA : A6.length = 6 := by rw [← eA]; rfl
    clear e1' e2 s1 s2 e1 hl1 hl2 hp1
    refine ⟨_, rfl, _, rfl, is_step EK (edd.mono s3) (by decide) ⟨_, rfl, is_step EK (edd.mono s3) (by decide) ⟨_, rfl, is_step EK (edd.mono s3) (by decide) ⟨by show 3 ≤ sizeLine; decide, fun l3 hl3 => ?_⟩⟩⟩⟩
    have s4 := s3.trans (same_upd (o := .lst [.bl (decide (6 = j)), .bl (decide (7 = j)), .bl (decide (8 = j))]) hl3)
    have f1' := same_upd (o := .lst [.bl (decide (6 = j)), .bl (decide (7 = j)), .bl (decide (8 = j))]) hl3 _ _ f1
    have e3 : (upd H2 l3 (.lst [.bl (decide (6 = j)), .bl (decide (7 = j)), .bl (decide (8 = j))])) l3 = some (.lst [.bl (decide (6 = j)), .bl (decide (7 = j)), .bl (decide (8 = j))]) := upd_same
    generalize upd H2 l3 (.lst [.bl (decide (6 = j)), .bl (decide (7 = j)), .bl (decide (8 = j))]) = H3 at s4 f1' e3
    refine ⟨p1, l3, _, _, rfl, rfl, f1', e3, by rw [lA]; show 6 + 3 ≤ sizeLine; decide, fun p2 hp2 => ?_⟩
    have s5 := s4.trans (same_upd (o := .lst (A6 ++ [.bl (decide (6 = j)), .bl (decide (7 = j)), .bl (decide (8 = j))])) hp2)
    have f2 : (upd H3 p2 (.lst (A6 ++ [.bl (decide (6 = j)), .bl (decide (7 = j)), .bl (decide (8 = j))]))) p2 = some (.lst (A6 ++ [.bl (decide (6 = j)), .bl (decide (7 = j)), .bl (decide (8 = j))])) := upd_same
    generalize upd H3 p2 (.lst (A6 ++ [.bl (decide (6 = j)), .bl (decide (7 = j)), .bl (decide (8 = j))])) = H4 at s5 f2
    clear f1' e3 s3 s4 f1 hl3 hp2
    refine ⟨_, rfl, _, rfl, is_step EK (edd.mono s5) (by decide) ⟨_, rfl, is_step EK (edd.mono s5) (by decide) ⟨_, rfl, is_step EK (edd.mono s5) (by decide) ⟨by show 3 ≤ sizeLine; decide, fun l4 hl4 => ?_⟩⟩⟩⟩
    have s6 := s5.trans (same_upd (o := .lst [.bl (decide (9 = j)), .bl (decide (10 = j)), .bl (decide (11 = j))]) hl4)
    have f2' := same_upd (o := .lst [.bl (decide (9 = j)), .bl (decide (10 = j)), .bl (decide (11 = j))]) hl4 _ _ f2
    have e4 : (upd H4 l4 (.lst [.bl (decide (9 = j)), .bl (decide (10 = j)), .bl (decide (11 = j))])) l4 = some (.lst [.bl (decide (9 = j)), .bl (decide (10 = j)), .bl (decide (11 = j))]) := upd_same
    generalize upd H4 l4 (.lst [.bl (decide (9 = j)), .bl (decide (10 = j)), .bl (decide (11 = j))]) = H5 at s6 f2' e4
    refine ⟨p2, l4, _, _, rfl, rfl, f2', e4, by rw [List.length_append, lA]; show 9 + 3 ≤ sizeLine; decide, fun p3 hp3 => ?_⟩
    have s7 := s6.trans (same_upd (o := .lst ((A6 ++ [.bl (decide (6 = j)), .bl (decide (7 = j)), .bl (decide (8 = j))]) ++ [.bl (decide (9 = j)), .bl (decide (10 = j)), .bl (decide (11 = j))])) hp3)
    have fk : (upd H5 p3 (.lst ((A6 ++ [.bl (decide (6 = j)), .bl (decide (7 = j)), .bl (decide (8 = j))]) ++ [.bl (decide (9 = j)), .bl (decide (10 = j)), .bl (decide (11 = j))]))) p3 = some (.lst (flags j)) := by rw [upd_same, ← eA]; rfl
    generalize upd H5 p3 (.lst ((A6 ++ [.bl (decide (6 = j)), .bl (decide (7 = j)), .bl (decide (8 = j))]) ++ [.bl (decide (9 = j)), .bl (decide (10 = j)), .bl (decide (11 = j))])) = H6 at s7 fk
    clear f2' e4 s5 s6 f2 eA lA hl4 hp3
    -- one kind
    refine ⟨_, rfl, .inl ⟨rfl, _, SqL.of fk⟩, p3, flags j, .bl true, rfl, rfl, SqL.of fk, rfl, flags_flat j, rfl, _, rfl, ?_⟩
    rw [show (!decide (V.int (((flags j).countP fun z => eqV z (V.bl true) : Nat) : Int) = V.int 1)) = false by rw [flags_one j12]; rfl]
    refine iteF ⟨_, rfl, ve_step EK (edd.mono s7) ⟨_, rfl, iteF ?_⟩⟩
    -- its word
    refine ⟨by show 10 ≤ sizeLine; decide, fun lN hlN => ?_⟩
    generalize eN : ([V.str (Str.ofString "tick"), V.str (Str.ofString "person"), V.str (Str.ofString "limit"), V.str (Str.ofString "different"), V.str (Str.ofString "waiting"), V.str (Str.ofString "contradiction"), V.str (Str.ofString "name"), V.str (Str.ofString "unknown"), V.str (Str.ofString "house"), V.str (Str.ofString "text")] : List V) = N10 at hlN ⊢
    have s8 := s7.trans (same_upd (o := .lst N10) hlN)
    have fk2 := same_upd (o := .lst N10) hlN _ _ fk
    have fN : (upd H6 lN (.lst N10)) lN = some (.lst N10) := upd_same
    generalize upd H6 lN (.lst N10) = H7 at s8 fk2 fN
    refine ⟨_, rfl, by show 2 ≤ sizeLine; decide, fun l5 hl5 => ?_⟩
    have s9 := s8.trans (same_upd (o := .lst [V.str (Str.ofString "code"), V.str (Str.ofString "operation")]) hl5)
    have fk3 := same_upd (o := .lst [V.str (Str.ofString "code"), V.str (Str.ofString "operation")]) hl5 _ _ fk2
    have fN2 := same_upd (o := .lst [V.str (Str.ofString "code"), V.str (Str.ofString "operation")]) hl5 _ _ fN
    have f5 : (upd H7 l5 (.lst [V.str (Str.ofString "code"), V.str (Str.ofString "operation")])) l5 = some (.lst [V.str (Str.ofString "code"), V.str (Str.ofString "operation")]) := upd_same
    generalize upd H7 l5 (.lst [V.str (Str.ofString "code"), V.str (Str.ofString "operation")]) = H8 at s9 fk3 fN2 f5
    have lN10 : N10.length = 10 := by rw [← eN]; rfl
    refine ⟨lN, l5, _, _, rfl, rfl, fN2, f5, by rw [lN10]; show 10 + 2 ≤ sizeLine; decide, fun p5 hp5 => ?_⟩
    have s10 := s9.trans (same_upd (o := .lst (N10 ++ [V.str (Str.ofString "code"), V.str (Str.ofString "operation")])) hp5)
    have fk4 := same_upd (o := .lst (N10 ++ [V.str (Str.ofString "code"), V.str (Str.ofString "operation")])) hp5 _ _ fk3
    have f6 : (upd H8 p5 (.lst (N10 ++ [V.str (Str.ofString "code"), V.str (Str.ofString "operation")]))) p5 = some (.lst (N10 ++ [V.str (Str.ofString "code"), V.str (Str.ofString "operation")])) := upd_same
    generalize upd H8 p5 (.lst (N10 ++ [V.str (Str.ofString "code"), V.str (Str.ofString "operation")])) = H9 at s10 fk4 f6
    clear s7 s8 s9 fk fk2 fk3 fN fN2 f5 hlN hl5 hp5
    refine ⟨_, rfl, .inl ⟨rfl, _, SqL.of fk4⟩, p3, flags j, .bl true, j, .bl true, rfl, rfl, SqL.of fk4, rfl, flags_flat j, flags_yes j12, rfl, fun m z' hm hz' => flags_no hm hz', ?_⟩
    have hL : N10 ++ [V.str (Str.ofString "code"), V.str (Str.ofString "operation")] = errNames.map V.str := by rw [← eN]; rfl
    rw [hL] at f6
    have hat : atI (errNames.map V.str) ((j : Nat) : Int) = some (.str (errAt j)) := by
      have : j = 0 ∨ j = 1 ∨ j = 2 ∨ j = 3 ∨ j = 4 ∨ j = 5 ∨ j = 6 ∨ j = 7 ∨ j = 8 ∨ j = 9 ∨ j = 10 ∨ j = 11 := by omega
      rcases this with rfl | rfl | rfl | rfl | rfl | rfl | rfl | rfl | rfl | rfl | rfl | rfl <;> exact atI_nat rfl
    refine ⟨p5, _, ((j : Nat) : Int), .str (errAt j), rfl, rfl, SqL.of f6, hat, ?_⟩
    rcases fin with ⟨j8, rfl, k⟩ | ⟨rfl, part, i, dd, rfl, edd2, k⟩ | ⟨rfl, i, dd, rfl, edd2, k⟩ | ⟨j10, i, dd, rfl, edd2, k⟩
    · refine ⟨_, rfl, rfl, _, rfl, ?_⟩
      rw [show decide (V.str (errAt j) = V.str (Str.ofString "house")) = false by
        have : j = 0 ∨ j = 1 ∨ j = 2 ∨ j = 3 ∨ j = 4 ∨ j = 5 ∨ j = 6 ∨ j = 7 := by omega
        rcases this with rfl | rfl | rfl | rfl | rfl | rfl | rfl | rfl <;> decide +kernel]
      refine iteF ⟨_, rfl, rfl, _, rfl, ?_⟩
      rw [show decide (V.str (errAt j) = V.str (Str.ofString "text")) = false by
        have : j = 0 ∨ j = 1 ∨ j = 2 ∨ j = 3 ∨ j = 4 ∨ j = 5 ∨ j = 6 ∨ j = 7 := by omega
        rcases this with rfl | rfl | rfl | rfl | rfl | rfl | rfl | rfl <;> decide +kernel]
      refine iteF ⟨_, rfl, _, rfl, by show 2 ≤ sizeLine; decide, fun lq hlq => ⟨lq, _, rfl, .inl (SqL.of upd_same), rfl, rfl, _, rfl, ?_⟩⟩
      have s11 := s10.trans (same_upd (o := .lst [V.str (Str.ofString "code"), V.str (Str.ofString "operation")]) hlq)
      rw [show inV (V.str (errAt j)) [V.str (Str.ofString "code"), V.str (Str.ofString "operation")] = false by
        have : j = 0 ∨ j = 1 ∨ j = 2 ∨ j = 3 ∨ j = 4 ∨ j = 5 ∨ j = 6 ∨ j = 7 := by omega
        rcases this with rfl | rfl | rfl | rfl | rfl | rfl | rfl | rfl <;> decide +kernel]
      refine iteF ⟨by show 2 ≤ sizeLine; decide, fun p hp => ?_⟩
      exact k _ p (s11.trans (same_upd hp)) upd_same
    · have edd2 := s10 _ _ edd2
      refine ⟨_, rfl, rfl, _, rfl, ?_⟩
      rw [show decide (V.str (errAt 8) = V.str (Str.ofString "house")) = true by decide +kernel]
      refine iteT ⟨_, rfl, _, rfl, rfl, rfl, dd, _, .str part, rfl, edd2, rfl, _, rfl, rfl, rfl, dd, _, .int i, rfl, edd2, rfl, by show 2 ≤ sizeLine; decide, fun t ht => ⟨by show 2 ≤ sizeLine; decide, fun p hp => ?_⟩⟩
      exact k _ p t ((s10.trans (same_upd ht)).trans (same_upd hp)) (same_upd hp _ _ upd_same) upd_same
    · have edd2 := s10 _ _ edd2
      refine ⟨_, rfl, rfl, _, rfl, ?_⟩
      rw [show decide (V.str (errAt 9) = V.str (Str.ofString "house")) = false by decide +kernel]
      refine iteF ⟨_, rfl, rfl, _, rfl, ?_⟩
      rw [show decide (V.str (errAt 9) = V.str (Str.ofString "text")) = true by decide +kernel]
      refine iteT ⟨_, rfl, _, rfl, rfl, rfl, dd, _, .int i, rfl, edd2, rfl, by show 2 ≤ sizeLine; decide, fun p hp => ?_⟩
      exact k _ p (s10.trans (same_upd hp)) upd_same
    · have edd2 := s10 _ _ edd2
      have hj : j = 10 ∨ j = 11 := by omega
      have hx := EK'.x10 j hjJ j10
      refine ⟨_, rfl, rfl, _, rfl, ?_⟩
      rw [show decide (V.str (errAt j) = V.str (Str.ofString "house")) = false by rcases hj with rfl | rfl <;> decide +kernel]
      refine iteF ⟨_, rfl, rfl, _, rfl, ?_⟩
      rw [show decide (V.str (errAt j) = V.str (Str.ofString "text")) = false by rcases hj with rfl | rfl <;> decide +kernel]
      refine iteF ⟨_, rfl, _, rfl, by show 2 ≤ sizeLine; decide, fun lq hlq => ⟨lq, _, rfl, .inl (SqL.of upd_same), rfl, rfl, _, rfl, ?_⟩⟩
      have s11 := same_upd (o := .lst [V.str (Str.ofString "code"), V.str (Str.ofString "operation")]) hlq
      rw [show inV (V.str (errAt j)) [V.str (Str.ofString "code"), V.str (Str.ofString "operation")] = true by rcases hj with rfl | rfl <;> decide +kernel]
      refine iteT ⟨rfl, cs j, hx.1, hx.2, rfl, dd, _, .int i, rfl, s11 _ _ edd2, rfl, by show 2 ≤ sizeLine; decide, fun p hp => ?_⟩
      exact k _ p ((s10.trans s11).trans (same_upd hp)) upd_same
  obtain ⟨t, ht, hi⟩ := hh
  refine ⟨fun pins s' σ H' D I h => ?_⟩
  obtain ⟨⟨σ0, rfl⟩, h⟩ := h
  exact ht.run pins s' _ H' D I (hi D _ H' ⟨five I.len, h⟩)
theorem err_gives {X : Cx} {q : Str} {g : Addr} {cdg : Value} (N : TxtN X.mg cs CE) (EK' : ErK X.K cs CE J) (hu : X.A.units + 100 < cLine) :
    LamX.GivesTo X nErr "_law_error_of" (defScope sErrOf) g cdg (defBody sErrOf) "_law_call" q (TErr cs J) := by
  intro f c' s H Q tl act hc h
  have hd : (("HouseError" : Str) == ("__debug__" : Str)) = false := by decide
  refine ⟨_, pss_cons (ps_try_as (X := cxE X g cdg s H) (x := "HouseError") (n := "_law_e") (c := .ref CE) (i := 1) (Wout := fun _ _ _ _ => False) (ts := fun a cls d => tsS cs J a cls d)
      (tb := fun W D σ H => ∃ Ech : XK, (∀ cls d σ' H', Ech cls d H' → W cls d σ' H') ∧ (∃ σ0 : L2.St, σ = σ0 ∧ σ[0]? = some (some (.ref f))) ∧ H c' = some (LamX.CodeO c' q) ∧ tl Ech H fun _ H1 => D.nx σ H1)
      rfl rfl scErr.nd rfl rfl ⟨rfl, hd, .inl N.gE⟩ LamX.takes0 (fun W pn xe tk _ => ?_) (fun a oe cls d pn hz hf => suite_ok N EK' hu hz hf)) (pss_one (ps_ret pe_non)), ?_⟩
  · refine ⟨fun pins s' σ H' D I h' => ?_⟩
    obtain ⟨Ech, hW, ⟨σ0, _, h1⟩, h2, h3⟩ := h'
    exact (show PSs ((cxE X g cdg s H).tr pn xe) bodyE (tDrop _) from pss_one (ps_expr (act W pn xe Ech _ _ tk hW))).run pins s' σ H' D I ⟨h1, h2, h3⟩
  · refine ⟨EErr cs J Q, fun cls d σ' H' hE => ?_, ⟨_, rfl, rfl⟩, hc, ?_⟩
    · refine ⟨true, ?_, fun _ a ha => ⟨⟨σ', rfl⟩, hE⟩, fun z => nomatch z⟩
      obtain ⟨j, hjJ, e, _⟩ := hE
      rw [e]; exact (EK'.kit j hjJ).ex
    · exact h
end
end Dk

set_option Elab.async false
set_option linter.all false
set_option maxRecDepth 100000
set_option maxHeartbeats 1000000
namespace Dk
open PySem PySem.Spec PyProof.Rows L2 TL
def dStrs (ts : List Str) : PyData := .tuple (ts.map PyData.str)
def dInts (ns : List Int) : PyData := .tuple (ns.map PyData.int)
def dPrs (rs : List Pr) : PyData := .tuple (rs.map prR)
structure HouseAt (K : PySem.W.Frag) (C : Addr) (H : Hp) (p : Addr) (ts : List Str) (k : Int) (cs : List Int) (rs : List Pr) : Prop where
  ex : ∃ dx aT aC aR xs, H p = some (.ins C dx (hFields (.ref aT) (.int k) (.ref aC) (.ref aR))) ∧ SqT K H aT (ts.map V.str) ∧ SqT K H aC (cs.map V.int) ∧ SqT K H aR xs ∧ Prs H xs rs
theorem hf_tables (a b c d : V) : (hFields a b c d).lookup ("tables" : Str) = some a := by
  unfold hFields
  rw [lookup_putF, if_neg (by decide +kernel), lookup_putF, if_neg (by decide +kernel), lookup_putF, if_neg (by decide +kernel), lookup_putF, if_pos rfl]
theorem hf_keys (a b c d : V) : (hFields a b c d).lookup ("key_count" : Str) = some b := by
  unfold hFields
  rw [lookup_putF, if_neg (by decide +kernel), lookup_putF, if_neg (by decide +kernel), lookup_putF, if_pos rfl]
theorem hf_careful (a b c d : V) : (hFields a b c d).lookup ("careful" : Str) = some c := by
  unfold hFields
  rw [lookup_putF, if_neg (by decide +kernel), lookup_putF, if_pos rfl]
theorem hf_rem (a b c d : V) : (hFields a b c d).lookup ("reminders" : Str) = some d := by
  unfold hFields
  rw [lookup_putF, if_pos rfl]
theorem dpAll_ints {K : PySem.W.Frag} {H : Hp} : ∀ ns : List Int, DpAll K H (ns.map V.int) (ns.map PyData.int)
  | [] => .nil
  | n :: ns => .cons (.int n) (dpAll_ints ns)
end Dk

set_option Elab.async false
set_option linter.all false
set_option maxRecDepth 100000
set_option maxHeartbeats 1000000
namespace Dk
open PySem PySem.Spec PyProof.Rows L2 TL
/-! ### valid parts are accepted -/
theorem getD_map {α : Type} (f : α → PyData) {l : List α} {i : Nat} {x : α} (h : l[i]? = some x) : (l.map f).getD i .none = f x := getD_of (by rw [List.getElem?_map, h]; rfl)
theorem pair_lt {α : Type} {R : α → α → Prop} : ∀ {l : List α} {j : Nat} {x y : α}, l.Pairwise R → l[j]? = some x → l[j + 1]? = some y → R x y
  | [], _, _, _, _, h, _ => by simp at h
  | a :: l, 0, x, y, hp, h1, h2 => by
    simp at h1; subst h1
    have h2' : l[0]? = some y := by simpa using h2
    exact (List.pairwise_cons.mp hp).1 y (List.mem_of_getElem? h2')
  | a :: l, j + 1, x, y, hp, h1, h2 => pair_lt (j := j) (List.pairwise_cons.mp hp).2 (by simpa using h1) (by simpa using h2)
theorem below_is {i n : Int} (h0 : 0 ≤ i) (h1 : i < n) : below (.int i) n = true := by
  show (decide ((0 : Int) ≤ i) && decide (i < n)) = true
  rw [decide_eq_true h0, decide_eq_true h1]; rfl
theorem careful_is {cs : List Int} {n : Int} (hp : cs.Pairwise (· < ·)) (hm : ∀ c ∈ cs, (0 : Int) ≤ c ∧ c < n) : chkCareful (dInts cs) n = none := by
  show bad1 _ 0 _ = none
  refine bad1_none.mpr fun j d hd => ?_
  rw [List.getElem?_map] at hd
  cases e : cs[j]? with
  | none => rw [e] at hd; cases hd
  | some c =>
    rw [e] at hd
    have ed : PyData.int c = d := Option.some.inj hd
    subst ed
    have hc := hm c (List.mem_of_getElem? e)
    rw [below_is hc.1 hc.2, Nat.zero_add]
    have : ascI (cs.map PyData.int) j = true := by
      cases j with
      | zero => rfl
      | succ i =>
        have hi : i < cs.length := by have := (List.getElem?_eq_some_iff.mp e).1; omega
        have e0 : cs[i]? = some cs[i] := List.getElem?_eq_getElem hi
        show decide (intOf _ < intOf _) = true
        rw [getD_map _ e0, getD_map _ e]
        exact decide_eq_true (pair_lt hp e0 e)
    rw [this]; rfl
theorem rem_is {rs : List Pr} {per n : Int} (hp : rs.Pairwise plt) (hm : ∀ r ∈ rs, (0 : Int) ≤ r.1 ∧ r.1 < per ∧ (0 : Int) ≤ r.2 ∧ r.2 < n) (h10 : rs.length ≤ 10) : chkRem (dPrs rs) per n = none := by
  show bad1 _ 0 _ = none
  refine bad1_none.mpr fun j d hd => ?_
  rw [List.getElem?_map] at hd
  cases e : rs[j]? with
  | none => rw [e] at hd; cases hd
  | some r =>
    rw [e] at hd
    have ed : prR r = d := Option.some.inj hd
    subst ed
    have hr := hm r (List.mem_of_getElem? e)
    have hj : j < rs.length := (List.getElem?_eq_some_iff.mp e).1
    have h1 : isRemD (prR r) per n = true := by
      show (below (.int r.1) per && below (.int r.2) n) = true
      rw [below_is hr.1 hr.2.1, below_is hr.2.2.1 hr.2.2.2]; rfl
    have h2 : (j == 10) = false := by simp; omega
    rw [h1, Nat.zero_add, h2]
    have : ascP (rs.map prR) j = true := by
      cases j with
      | zero => rfl
      | succ i =>
        have hi : i < rs.length := by omega
        have e0 : rs[i]? = some rs[i] := List.getElem?_eq_getElem hi
        have hlt := pair_lt hp e0 e
        show HT.lexLt _ _ = true
        rw [getD_map _ e0, getD_map _ e]
        generalize rs[i] = q at hlt
        obtain ⟨q1, q2⟩ := q
        obtain ⟨r1, r2⟩ := r
        show (if q1 = r1 then (if q2 = r2 then false else decide (q2 < r2)) else decide (q1 < r1)) = true
        rcases hlt with h | ⟨h, h'⟩
        · have h : q1 < r1 := h
          rw [if_neg (by omega)]; exact decide_eq_true h
        · have h : q1 = r1 := h
          have h' : q2 < r2 := h'
          rw [if_pos h, if_neg (by omega)]; exact decide_eq_true h'
    rw [this]; rfl
theorem parts_is {ts : List Str} {k : Int} {cs : List Int} {rs : List Pr} (h : Parts ts k cs rs) : chkHouse (dStrs ts) (.int k) (dInts cs) (dPrs rs) = none := by
  have h1 : chkTabs (dStrs ts) = none := tabs_is h.tabs h.n1 h.n6
  have h2 : chkKeys (.int k) = none := by unfold chkKeys; rw [if_pos (below_is h.k0 (by have := h.k9; omega))]
  have hl : (lenD (dStrs ts) : Int) = (ts.length : Int) := by show (((ts.map PyData.str).length : Nat) : Int) = _; rw [List.length_map]
  have hp : (perD (dStrs ts) : Int) = (per ts : Int) := by show (per ((ts.map PyData.str).map strOf) : Int) = _; rw [strs_back]
  have h3 : chkCareful (dInts cs) (lenD (dStrs ts) : Int) = none := by rw [hl]; exact careful_is h.cp h.cm
  have h4 : chkRem (dPrs rs) (perD (dStrs ts) : Int) (lenD (dStrs ts) : Int) = none := by rw [hl, hp]; exact rem_is h.rp h.rm h.r10
  unfold chkHouse
  rw [h1]; dsimp only
  rw [h2]; dsimp only
  rw [h3]; dsimp only
  rw [h4]
def spHouseF (K : PySem.W.Frag) (CH : Addr) : Sp := fun vs H Q _ => ∃ (a : Addr) (ts : List Str) (keys : Int) (cs : List Int) (rs : List Pr), vs = [.ref a] ∧ PartsAt H a ts keys cs rs ∧ Parts ts keys cs rs ∧
  ∀ (H' : Hp) (p : Addr), Same H H' → H p = none → HouseAt K CH H' p ts keys cs rs → Q (.ref p) H'
section
variable {P : Program} {w : World} {K : PySem.W.Frag} {mg : Str → Option Value} {base : Heap} {C fI : Addr} {fdI : FuncData} {fII fIB fHO : Addr} {fdII fdIB fdHO : FuncData} {fIT fIR fAs : Addr} {fdIT fdIR fdAs : FuncData}
  {CH fP fT fK fC fR : Addr} {fdP fdT fdK fdC fdR : FuncData} {fH : Addr} {fdH : FuncData} {dvs : List V}
theorem scHouseF : FnScope ["_law_parts_here"] ["_law_parts_here"] (defScope sHouseF) := ⟨rfl, rfl, rfl, by decide +kernel, rfl, by decide +kernel, by decide +kernel⟩
theorem ok_housef {f : Addr} {fd : FuncData} (F : Fun K "_law_house" "_law_house" sHouseF f fd) (T : TxtA mg) (TC : TxtC mg) (TF : TxtF K mg fII fIB fHO fdII fdIB fdHO) (TI : TxtI K mg fIT fIR fAs fdIT fdIR fdAs) (TH : TxtIH K mg C fI fdI)
    (TL' : TxtL K mg CH fP fT fK fC fR fdP fdT fdK fdC fdR)
    (FH : FunD K "__init__" "House.__init__" (defArgs sInit) (defBody sInit) (defScope sInit) dvs [] fH fdH) (bH : Binds K fdH ["self", "tables", "keys", "careful", "reminders"] []) (M : Mk K CH fH) (gH : mg "House" = some (.ref CH)) :
    FnOk P w K mg base CX0 7 f fd ["_law_parts_here"] (spHouseF K CH) := by
  have GH : FnOk P w K mg base (L2.CX P w) 5 fH fdH ["self", "tables", "keys", "careful", "reminders"] (spInit K CH C) := ok_init FH T TC TF TI TH TL'
  refine F.ok scHouseF (fun vs H Q E h => ?_) (fun cdv A outer s H vs Q E hr h => ?_)
  · obtain ⟨a, ts, kk, cs, rs, rfl, _⟩ := h
    rfl
  · obtain ⟨a, ts, kk, cs, rs, rfl, ⟨aT, aC, aR, xs, e1, e2, e3, e4, e5⟩, hp, k⟩ := h
    refine ⟨_, pss_one (ps_ret (pe_make M GH hr rfl gH bH .nil passL (pa_cons (pe_ix ix_tup (pv 0) pe_int (fun _ _ => rfl)) (pa_cons (pe_ix ix_tup (pv 0) pe_int (fun _ _ => rfl)) (pa_cons (pe_ix ix_tup (pv 0) pe_int (fun _ _ => rfl)) (pa_cons (pe_ix ix_tup (pv 0) pe_int (fun _ _ => rfl)) pa_nil)))))), ?_⟩
    refine ⟨_, rfl, a, _, 0, _, rfl, rfl, SqT.of e1, at0, _, rfl, a, _, 1, _, rfl, rfl, SqT.of e1, at1, _, rfl, a, _, 2, _, rfl, rfl, SqT.of e1, at2, _, rfl, a, _, 3, _, rfl, rfl, SqT.of e1, at3, ?_⟩
    intro p dx hpn hdx npd
    have sN : Same H (upd (upd H dx (.own p)) p (.ins CH dx [])) := fun b o e => by
      rw [upd_ne (ne_of_none e hpn), upd_ne (ne_of_none e hdx)]; exact e
    refine ⟨p, dx, .ref aT, .int kk, .ref aC, .ref aR, dStrs ts, .int kk, dInts cs, dPrs rs, rfl,
      dpSame sN _ _ (.tup (SqT.of e2) (dpAll_strs ts)), .int _, dpSame sN _ _ (.tup (SqT.of e3) (dpAll_ints _)), dpSame sN _ _ (.tup (SqT.of e4) (dpAll_prs e5)), ?_, upd_same, fun hc H7 k7 e7 => ⟨rfl, ?_⟩, fun part i hc => ?_⟩
    · intro ds hds y hy
      cases hds
      obtain ⟨t, ht, rfl⟩ := List.mem_map.mp hy
      show t.length ≤ 100000
      have := (hp.tabs t ht).pos.2
      rw [len_tl t]; omega
    · have s7 : Same H H7 := fun b o e => k7 b o (ne_of_none e hpn) (sN _ _ e)
      exact k H7 p s7 hpn ⟨⟨dx, aT, aC, aR, xs, e7, SqT.of (s7 _ _ e2), SqT.of (s7 _ _ e3), SqT.of (s7 _ _ e4), e5.mono fun t ys h => s7 _ _ h⟩⟩
    · rw [parts_is hp] at hc; cases hc
end
end Dk

set_option Elab.async false
set_option linter.all false
set_option maxRecDepth 100000
set_option maxHeartbeats 1000000
namespace Dk
open PySem PySem.Spec PyProof.Rows L2 TL
/-! ### equal data are found equal -/
def Flat : Nat → PyData → Prop
  | _, .none => True
  | _, .bool _ => True
  | _, .int _ => True
  | _, .str _ => True
  | 0, .list _ => False
  | 0, .tuple _ => False
  | n + 1, .list ds => ds.length ≤ 1000 ∧ ∀ d ∈ ds, Flat n d
  | n + 1, .tuple ds => ds.length ≤ 1000 ∧ ∀ d ∈ ds, Flat n d
  | _, .dict _ => False
def spE (K : PySem.W.Frag) : Nat → Sp
  | 0 => fun _ _ _ _ => False
  | n + 1 => fun vs H Q _ => ∃ (a b : V) (d : PyData), vs = [a, b] ∧ Dp K H a d ∧ Dp K H b d ∧ Flat n d ∧ ∀ H', Same H H' → Q (.bl true) H'
abbrev nEq : List Str := ["_law_actual", "_law_expected", "_law_k"]
theorem all_true {n : Nat} : ((List.replicate n true).map V.bl) = List.replicate n (V.bl true) := List.map_replicate ..
section
variable {P : Program} {w : World} {K : PySem.W.Frag} {mg : Str → Option Value} {base : Heap} {fII fIB fHO : Addr} {fdII fdIB fdHO : FuncData}
end
end Dk

set_option Elab.async false
set_option linter.all false
set_option maxRecDepth 100000
set_option maxHeartbeats 1000000
/-! dicts whose keys are tuples of ints, truth values and tuples of ints -/
namespace Dn
open PySem PyProof.Rows L2
abbrev NXs := List (NestedKey × Addr × Value)
def DnO (P : Program) (w : World) (a : Addr) (xs : NXs) : HO := .ext fun h => (a == sysModules) = false ∧ xs.length ≤ sizeLine ∧ ∃ o es ep, h.get? a = some o ∧ o.ExactDict ∧ o.data = .dict es ep ∧ es.toList = xs.map (entryOfKey (nestedKind P w)) ∧ (xs.map (·.1)).Nodup
/-- a part of a key -/
inductive KAt0 (H : Hp) : NestedKey → V → Prop
  | int (i : Int) : KAt0 H (.num i) (.int i)
  | bl (b : Bool) : KAt0 H (.num (if b = true then 1 else 0)) (.bl b)
  | tup {a : Addr} {ns : List Int} : H a = some (.tup (ns.map V.int)) → KAt0 H (.tup (ns.map .num)) (.ref a)
def KAt (H : Hp) (k : NestedKey) (a : Addr) : Prop := ∃ ks vs, k = .tup ks ∧ H a = some (.tup vs) ∧ Paired (KAt0 H) ks vs
theorem KAt0.mono {H H' : Hp} {k : NestedKey} {v : V} (h : KAt0 H k v) (s : ∀ t ys, H t = some (.tup ys) → H' t = some (.tup ys)) : KAt0 H' k v := by
  cases h with
  | int i => exact .int i
  | bl b => exact .bl b
  | tup e => exact .tup (s _ _ e)
theorem KAt.mono {H H' : Hp} {k : NestedKey} {a : Addr} (h : KAt H k a) (s : ∀ t ys, H t = some (.tup ys) → H' t = some (.tup ys)) : KAt H' k a := by
  obtain ⟨ks, vs, e1, e2, e3⟩ := h
  exact ⟨ks, vs, e1, s _ _ e2, Paired.mapP e3 fun _ _ z => z.mono s⟩
section
variable {P : Program} {w : World} {H : Hp} {h : Heap}
theorem nums_is : ∀ {ns : List Int} {its : List Value}, Vals (ns.map V.int) its → NestedAll h (ns.map .num) its
  | [], [], .nil => .nil
  | n :: ns, _ :: _, .cons r t => by
    obtain ⟨tk, e⟩ := (show ∃ t, _ = Value.int n t from r)
    subst e
    exact .cons (.int n tk) (nums_is t)
theorem nums_depth : ∀ ns : List Int, NestedKey.depthAll (ns.map .num) = 0
  | [] => rfl
  | n :: ns => by show max 0 (NestedKey.depthAll (ns.map .num)) = 0; rw [nums_depth ns]; rfl
theorem kat0_is (ok : HOk P w H h) {k : NestedKey} {v : V} {u : Value} (r : KAt0 H k v) (rv : RelV v u) : NestedIs h k u ∧ k.depth ≤ 1 := by
  cases r with
  | int i =>
    obtain ⟨t, e⟩ := (show ∃ t, u = Value.int i t from rv)
    subst e
    exact ⟨.int i t, by show 0 ≤ 1; decide⟩
  | bl b =>
    obtain rfl : u = Value.bool b := rv
    exact ⟨.bool rfl, by show 0 ≤ 1; decide⟩
  | @tup a ns e =>
    obtain rfl : u = Value.ref a := rv
    obtain ⟨_, its, r, o, h1, h2, n, h3⟩ := (show ObjOk P w H h a (.tup (ns.map V.int)) from ok a _ e)
    exact ⟨.tup h1 h2 h3 (by simpa using nums_is r), by show NestedKey.depthAll _ + 1 ≤ 1; rw [nums_depth]; decide⟩
theorem kats_is (ok : HOk P w H h) : ∀ {ks : List NestedKey} {vs : List V} {us : List Value}, Paired (KAt0 H) ks vs → Vals vs us → NestedAll h ks us ∧ NestedKey.depthAll ks ≤ 1
  | [], [], [], .nil, .nil => ⟨.nil, by show 0 ≤ 1; decide⟩
  | k :: ks, _ :: _, _ :: _, .cons r t, .cons rv tv => by
    obtain ⟨i1, i2⟩ := kats_is ok t tv
    obtain ⟨j1, j2⟩ := kat0_is ok r rv
    exact ⟨.cons j1 i1, by show max k.depth (NestedKey.depthAll ks) ≤ 1; omega⟩
theorem kat_is (ok : HOk P w H h) {k : NestedKey} {a : Addr} (r : KAt H k a) : (nestedKind P w).is h k a := by
  obtain ⟨ks, vs, rfl, e, hp⟩ := r
  obtain ⟨_, its, rv, o, h1, h2, n, h3⟩ := (show ObjOk P w H h a (.tup vs) from ok a _ e)
  obtain ⟨i1, i2⟩ := kats_is ok hp rv
  exact ⟨.tup h1 h2 h3 (by simpa using i1), by show NestedKey.depthAll ks + 1 ≤ 8; omega⟩
end
theorem dn_empty {P : Program} {w : World} {H : Hp} (h : Heap) (hb : sysModules < h.objs.size) : ObjOk P w H (h.push { cls := .type "dict", data := .dict #[] }) h.objs.size (DnO P w h.objs.size []) := by
  refine ⟨⟨beq_eq_false_iff_ne.mpr (Ne.symm (Nat.ne_of_lt hb)), Nat.zero_le _, _, #[], 0, Heap.get?_push_size _ rfl, ⟨rfl, rfl, rfl⟩, rfl, rfl, List.nodup_nil⟩, ⟨_, Heap.get?_push_size _ rfl⟩, ?_⟩
  rintro h1 h2 ⟨e1, e2, o, es, ep, g1, g2⟩ k
  exact ⟨e1, e2, o, es, ep, k _ g1, g2⟩
section
variable {X : Cx} {pins : List (Addr × Obj)} {σ : L2.St} {H : Hp} {s : Shared} {a b : Addr} {xs : NXs} {k : NestedKey} {r : Value} {A : Around} {E : Value → Shared → Prop}
theorem dn_of (I : Inv X pins σ H s) (e : H a = some (DnO X.prog X.w a xs)) (hx : ∀ p ∈ xs, KAt H p.1 p.2.1) : (a == sysModules) = false ∧ xs.length ≤ sizeLine ∧ s.heap.DictOfH (nestedKind X.prog X.w) a xs := by
  obtain ⟨⟨e1, e2, o, es, ep, g1, g2, g3, g4, g5⟩, _⟩ := (show ObjOk X.prog X.w H s.heap a (DnO X.prog X.w a xs) from I.hok a _ e)
  exact ⟨e1, e2, o, es, ep, g1, g2, g3, g4, fun x hxm => kat_is I.hok (hx x hxm), g5⟩
theorem dn_room (hu : A.units + 16 < cLine) : (nestedKind X.prog X.w).room A.in1 := by
  show A.in1.units + 8 < cLine
  rw [Around.in1_units]; omega
theorem dn_notIn {Q : Value → Shared → Prop} (hu : A.units + 16 < cLine) (I : Inv X pins σ H s) (e : H a = some (DnO X.prog X.w a xs)) (hx : ∀ p ∈ xs, KAt H p.1 p.2.1) (hk : KAt H k b)
    (h : ∀ s', Inv X pins σ H s' → Q (.bool (!(atKey xs k).isSome)) s') : wpAny (model X.prog X.w) A (compareOp .NotIn (.ref b) (.ref a)) Q E s := by
  obtain ⟨e1, e2, dd⟩ := dn_of I e hx
  exact wpAny_notIn_heap (dn_room hu) (kat_is I.hok hk) e1 dd (h _ (I.tok _))
theorem dn_set {Q : Unit → Shared → Prop} (hu : A.units + 16 < cLine) (I : Inv X pins σ H s) (e : H a = some (DnO X.prog X.w a xs)) (hx : ∀ p ∈ xs, KAt H p.1 p.2.1) (hk : KAt H k b) (hn : atKey xs k = none) (hl : xs.length < sizeLine)
    (h : ∀ s', Inv X pins σ (upd H a (DnO X.prog X.w a (xs ++ [(k, b, r)]))) s' → Q () s') : wpAny (model X.prog X.w) A (setItem (.ref a) (.ref b) r) Q E s := by
  obtain ⟨e1, e2, dd⟩ := dn_of I e hx
  refine wpAny_setItem_heap (hsz := e2) (dn_room hu) (kat_is I.hok hk) dd fun h' dd' hs => h _ ?_
  rw [storedH_new hn] at dd'
  obtain ⟨q, es, ep, hq, h2, h3, h4, _, h5⟩ := dd'
  refine d_write I (by rw [e]; exact True.intro) hs ⟨q, hq⟩ ⟨⟨e1, ?_, q, es, ep, hq, h2, h3, h4, h5⟩, ⟨q, hq⟩, ?_⟩
  · rw [List.length_append]; exact hl
  · rintro h1 h2 ⟨e1, e2, o, es, ep, g1, g2⟩ k
    exact ⟨e1, e2, o, es, ep, k _ g1, g2⟩
end
/-- {} for such keys -/
def tNew (P : Program) (w : World) : TE := fun _ H Q => ∀ p, H p = none → Q (.ref p) (upd H p (DnO P w p []))
/-- y not in d -/
def tNotIn (P : Program) (w : World) (ty td : TE) : TE := fun σ H Q => ty σ H fun y H1 => td σ H1 fun x H2 => ∃ a b xs k, x = .ref a ∧ y = .ref b ∧ H2 a = some (DnO P w a xs) ∧ (∀ p ∈ xs, KAt H2 p.1 p.2.1) ∧ KAt H2 k b ∧ Q (.bl (!(atKey xs k).isSome)) H2
/-- d[y] = True, not there before -/
def sPut (P : Program) (w : World) (td ty : TE) : TS := fun D σ H => td σ H fun x H2 => ty σ H2 fun y H3 => ∃ a b xs k, x = .ref a ∧ y = .ref b ∧ H3 a = some (DnO P w a xs) ∧ (∀ p ∈ xs, KAt H3 p.1 p.2.1) ∧ KAt H3 k b ∧ atKey xs k = none ∧ xs.length < sizeLine ∧ D.nx σ (upd H3 a (DnO P w a (xs ++ [(k, b, .bool true)])))
section
variable {X : Cx} {o i e value : Expr} {pos pos' p2 : Pos} {td ty tv : TE} {j : Nat}
theorem pe_new : PE X (.Dict [] [] pos) (tNew X.prog X.w) := ⟨fun pins s σ H Q I h =>
  wpAny_Dict_empty ⟨.ref s.heap.objs.size, _, I.laid (a := s.heap.objs.size) (o := DnO X.prog X.w s.heap.objs.size []) (t' := s.toks) (fun _ _ q => Heap.get?_push_of_some _ q) (Nat.le_refl _) (dn_empty s.heap I.big), rfl, h _ (I.hok.fresh (Nat.le_refl _))⟩⟩
theorem pc_notIn (hu : X.A.units + 16 < cLine) (hi : PE X i ty) (ho : PE X o td) : PC X .NotIn i o (tNotIn X.prog X.w ty td) := by
  refine ⟨fun pins s σ H Q I h => ?_⟩
  refine thn (hi.run pins s σ H _ I h) fun iv s1 ⟨y, H1, I1, ry, q1⟩ => thn (ho.run pins s1 σ H1 _ I1 q1) fun u s2 ⟨x, H2, I2, rx, a, b, xs, k, ex, ey, g, hx, hk, q2⟩ => ?_
  subst ex ey
  obtain rfl : u = Value.ref a := rx
  obtain rfl : iv = Value.ref b := ry
  exact dn_notIn hu I2 g hx hk fun s3 I3 => ⟨.bl (!(atKey xs k).isSome), H2, I3, rfl, q2⟩
theorem ps_put (hu : X.A.units + 16 < cLine) (ho : PE X o td) (hi : PE X i ty) (hs : swapsWith (.Constant (.bool true) j p2) (some (.Subscript o i pos')) pos.line X.env = pure false := by rfl) :
    PS X (.Assign [.Subscript o i pos'] (.Constant (.bool true) j p2) pos) (sPut X.prog X.w td ty) := by
  refine ⟨fun pins s σ H D I h => ?_⟩
  refine wpAny_Assign_Subscript (thn ((pe_bl (b := true) (X := X) (pos := p2) (j := j)).run pins s σ H (fun v H1 => v = .bl true ∧ H1 = H) I ⟨rfl, rfl⟩) fun r s1 ⟨v, H1, I1, rv, ev, eH⟩ => ?_) hs
  subst ev eH
  obtain rfl : r = Value.bool true := rv
  refine thn (ho.run pins s1 σ H1 _ I1 h) fun u s2 ⟨x, H2, I2, rx, q2⟩ => thn (hi.run pins s2 σ H2 _ I2 q2) fun iv s3 ⟨y, H3, I3, ry, a, b, xs, k, ex, ey, g, hx, hk, hn, hl, q3⟩ => ?_
  subst ex ey
  obtain rfl : u = Value.ref a := rx
  obtain rfl : iv = Value.ref b := ry
  exact dn_set hu I3 g hx hk hn hl fun s4 I4 => ⟨σ, _, I4, q3⟩
end
end Dn

set_option Elab.async false
set_option linter.all false
set_option maxRecDepth 100000
set_option maxHeartbeats 1000000
namespace Dk
open PySem PySem.Spec PyProof.Rows L2 TL
/-! ### numbers in order -/
def rg (n : Nat) : List Int := (List.range n).map fun k : Nat => (k : Int)
theorem rg_succ (n : Nat) : rg (n + 1) = rg n ++ [(n : Int)] := by unfold rg; rw [List.range_succ, List.map_append]; rfl
theorem rg_len (n : Nat) : (rg n).length = n := by unfold rg; rw [List.length_map, List.length_range]
theorem rg_mem {n : Nat} {p : Int} : p ∈ rg n ↔ 0 ≤ p ∧ p < (n : Int) := by
  unfold rg
  rw [List.mem_map]
  constructor
  · rintro ⟨k, hk, rfl⟩
    have := List.mem_range.mp hk
    omega
  · rintro ⟨h0, h1⟩
    obtain ⟨k, rfl⟩ := Int.eq_ofNat_of_zero_le h0
    exact ⟨k, List.mem_range.mpr (by omega), rfl⟩
def insI (a : Int) : List Int → List Int
  | [] => [a]
  | b :: l => if a ≤ b then a :: b :: l else b :: insI a l
def srt : List Int → List Int
  | [] => []
  | a :: l => insI a (srt l)
theorem insI_perm (a : Int) : ∀ l : List Int, (insI a l).Perm (a :: l)
  | [] => List.Perm.refl _
  | b :: l => by
    unfold insI
    split
    · exact List.Perm.refl _
    · exact ((insI_perm a l).cons b).trans (List.Perm.swap a b l)
theorem srt_perm : ∀ l : List Int, (srt l).Perm l
  | [] => List.Perm.refl _
  | a :: l => (insI_perm a (srt l)).trans ((srt_perm l).cons a)
theorem insI_sorted (a : Int) : ∀ l : List Int, l.Pairwise (· ≤ ·) → (insI a l).Pairwise (· ≤ ·)
  | [], _ => List.pairwise_singleton _ _
  | b :: l, h => by
    unfold insI
    split
    · rename_i hab
      refine List.pairwise_cons.mpr ⟨fun x hx => ?_, h⟩
      rcases List.mem_cons.mp hx with rfl | hx
      · exact hab
      · exact Int.le_trans hab ((List.pairwise_cons.mp h).1 x hx)
    · rename_i hab
      refine List.pairwise_cons.mpr ⟨fun x hx => ?_, insI_sorted a l (List.pairwise_cons.mp h).2⟩
      rcases List.mem_cons.mp ((insI_perm a l).mem_iff.mp hx) with rfl | hx
      · omega
      · exact (List.pairwise_cons.mp h).1 x hx
theorem srt_sorted : ∀ l : List Int, (srt l).Pairwise (· ≤ ·)
  | [] => .nil
  | a :: l => insI_sorted a _ (srt_sorted l)
theorem srt_uniq {l ys : List Int} (p : ys.Perm l) (s : ys.Pairwise (· ≤ ·)) : ys = srt l :=
  List.Perm.eq_of_pairwise (fun a b _ _ h1 h2 => Int.le_antisymm h1 h2) s (srt_sorted l) (p.trans (srt_perm l).symm)
theorem srt_len (l : List Int) : (srt l).length = l.length := (srt_perm l).length_eq
/-! ### what happens in a tick -/
structure Cs where
  home : List Int
  wait : List Int
  carr : List Int
  opn : Bool
abbrev Ev := Str × V
structure Hd where
  ts : List Str
  ks : Int
  cs : List Int
  rs : List Pr
def homeL (x : Str) (t : Int) : Bool := decide ((tl x)[(t % ((tl x).length : Int)).toNat]? = some 104)
def wishes (ts : List Str) (t : Int) : List Bool := ts.map fun x => homeL x t
def wants (ws : List Bool) (p : Int) : Bool := ws.getD p.toNat false
def comersOf (ws : List Bool) (home : List Int) : List Int := (rg ws.length).filter fun p => wants ws p && !decide (p ∈ home)
def canEnter (c : Cs) (cm : List Int) : Bool := if (!c.home.isEmpty || c.opn) = true then true else cm.any fun p => decide (p ∈ c.carr)
def wEnter : Str := Str.ofString "enter"
def wWait : Str := Str.ofString "wait"
def wLeave : Str := Str.ofString "leave"
def wTake : Str := Str.ofString "take"
def wOpen : Str := Str.ofString "open"
def arrive (ws : List Bool) (c : Cs) : Cs × List Ev :=
  let cm := comersOf ws c.home
  if cm.isEmpty = true then ({ c with wait := [] }, [])
  else if canEnter c cm = true then (⟨srt (c.home ++ cm), [], c.carr.filter fun p => !decide (p ∈ cm), false⟩, cm.map fun p => (wEnter, .int p))
  else ({ c with wait := cm }, cm.map fun p => (wWait, .int p))
def takeKey (ks : Int) (c : Cs) (p : Int) : Cs × Bool := if (c.carr.length : Int) = ks then (c, false) else ({ c with carr := srt (c.carr ++ [p]) }, true)
def thinks (h : Hd) (t p : Int) : Bool := decide (p ∈ h.cs) || decide ((t % ((per h.ts : Nat) : Int), p) ∈ h.rs)
def leaveStep (h : Hd) (t : Int) (a : Cs × Bool × List Ev) (p : Int) : Cs × Bool × List Ev :=
  if thinks h t p = true then
    (if (takeKey h.ks a.1 p).2 = true then ((takeKey h.ks a.1 p).1, true, a.2.2 ++ [(wLeave, .int p)] ++ [(wTake, .int p)]) else ((takeKey h.ks a.1 p).1, a.2.1, a.2.2 ++ [(wLeave, .int p)]))
  else (a.1, a.2.1, a.2.2 ++ [(wLeave, .int p)])
def closeC (ks : Int) (c : Cs) (p : Int) : Cs × Ev := if (takeKey ks c p).2 = true then ((takeKey ks c p).1, (wTake, .int p)) else ({ c with opn := true }, (wOpen, .non))
def leaversOf (ws : List Bool) (c : Cs) : List Int := c.home.filter fun p => !wants ws p
def stay (ws : List Bool) (c : Cs) : Cs := { c with home := c.home.filter fun p => wants ws p }
def leaveAll (h : Hd) (t : Int) (ws : List Bool) (c : Cs) : Cs × Bool × List Ev := (leaversOf ws c).foldl (leaveStep h t) (stay ws c, false, [])
def depart (h : Hd) (t : Int) (ws : List Bool) (c : Cs) : Cs × List Ev :=
  match (leaversOf ws c).getLast? with
  | some q => if ((stay ws c).home.isEmpty && !(leaveAll h t ws c).2.1) = true then ((closeC h.ks (leaveAll h t ws c).1 q).1, (leaveAll h t ws c).2.2 ++ [(closeC h.ks (leaveAll h t ws c).1 q).2]) else ((leaveAll h t ws c).1, (leaveAll h t ws c).2.2)
  | none => ((leaveAll h t ws c).1, (leaveAll h t ws c).2.2)
def adv (h : Hd) (t : Int) (c : Cs) : Cs × List Ev :=
  ((depart h t (wishes h.ts t) (arrive (wishes h.ts t) c).1).1, (arrive (wishes h.ts t) c).2 ++ (depart h t (wishes h.ts t) (arrive (wishes h.ts t) c).1).2)
/-! ### in the heap -/
def cFields (vh vs vt vm vw vc vu : V) : List (Str × V) := [("house", vh), ("span", vs), ("tick", vt), ("home", vm), ("waiters", vw), ("carriers", vc), ("unlocked", vu)]
/-- the course at p -/
structure CoAt (CC : Addr) (H : Hp) (p hp : Addr) (sp t : Int) (c : Cs) : Prop where
  ex : ∃ dx aH aW aC, H p = some (.ins CC dx (cFields (.ref hp) (.int sp) (.int t) (.ref aH) (.ref aW) (.ref aC) (.bl c.opn))) ∧ H aH = some (.lst (c.home.map V.int)) ∧ H aW = some (.lst (c.wait.map V.int)) ∧ H aC = some (.lst (c.carr.map V.int))
theorem CoAt.mono {CC : Addr} {H H' : Hp} {p hp : Addr} {sp t : Int} {c : Cs} (h : CoAt CC H p hp sp t c) (s : Same H H') : CoAt CC H' p hp sp t c := by
  obtain ⟨dx, aH, aW, aC, e1, e2, e3, e4⟩ := h
  exact ⟨dx, aH, aW, aC, s _ _ e1, s _ _ e2, s _ _ e3, s _ _ e4⟩
/-- where the list of those at home stands -/
def HomeAt (H : Hp) (p a : Addr) : Prop := ∃ C dx fs, H p = some (.ins C dx fs) ∧ fs.lookup ("home" : Str) = some (.ref a)
theorem HomeAt.mono {H H' : Hp} {p a : Addr} (h : HomeAt H p a) (s : Same H H') : HomeAt H' p a := by
  obtain ⟨C, dx, fs, e1, e2⟩ := h
  exact ⟨C, dx, fs, s _ _ e1, e2⟩
theorem HomeAt.kpl {H H' : Hp} {p a ev : Addr} {xs : List V} (h : HomeAt H p a) (k : Kp ev H H') (e : H ev = some (.lst xs)) : HomeAt H' p a := by
  obtain ⟨C, dx, fs, e1, e2⟩ := h
  exact ⟨C, dx, fs, k _ _ (fun z => by rw [z, e] at e1; cases e1) e1, e2⟩
theorem HomeAt.put {H G : Hp} {p a C dx : Addr} {fs gs : List (Str × V)} {C' dx' : Addr} (h : HomeAt H p a) (e : H p = some (.ins C dx fs)) (g : G p = some (.ins C' dx' gs)) (q : gs.lookup ("home" : Str) = fs.lookup ("home" : Str)) : HomeAt G p a := by
  obtain ⟨C2, dx2, fs2, e1, e2⟩ := h
  have := Option.some.inj (e.symm.trans e1)
  injection this with _ _ e3
  subst e3
  exact ⟨C', dx', gs, g, q.trans e2⟩
/-- a list of events of the tick t -/
def Evs (H : Hp) (t : Int) (xs : List V) (evs : List Ev) : Prop := Paired (fun v (e : Ev) => ∃ a, v = .ref a ∧ H a = some (.tup [.int t, .str e.1, e.2])) xs evs
theorem Evs.mono {H H' : Hp} {t : Int} : ∀ {xs : List V} {evs : List Ev}, Evs H t xs evs → (∀ a ys, H a = some (.tup ys) → H' a = some (.tup ys)) → Evs H' t xs evs
  | [], [], .nil, _ => .nil
  | _ :: _, _ :: _, .cons ⟨a, e, h⟩ q, s => .cons ⟨a, e, s _ _ h⟩ (Evs.mono q s)
theorem Evs.app {H : Hp} {t : Int} : ∀ {xs : List V} {evs : List Ev} {ys : List V} {fs : List Ev}, Evs H t xs evs → Evs H t ys fs → Evs H t (xs ++ ys) (evs ++ fs)
  | [], [], _, _, .nil, h => h
  | _ :: _, _ :: _, _, _, .cons a q, h => .cons a (Evs.app q h)
theorem Evs.len {H : Hp} {t : Int} {xs : List V} {evs : List Ev} (h : Evs H t xs evs) : xs.length = evs.length := Paired.length h
def EvAt (H : Hp) (a : Addr) (t : Int) (evs : List Ev) : Prop := ∃ xs, H a = some (.lst xs) ∧ Evs H t xs evs
/-- the house at hp, seen by the course -/
structure HoAt (K : PySem.W.Frag) (CH : Addr) (H : Hp) (hp : Addr) (h : Hd) : Prop where
  ex : HouseAt K CH H hp h.ts h.ks h.cs h.rs
theorem kp_tup2 {p : Addr} {H H' : Hp} {C dx : Addr} {fs : List (Str × V)} (k : Kp p H H') (e : H p = some (.ins C dx fs)) : ∀ a ys, H a = some (.tup ys) → H' a = some (.tup ys) := fun a ys h => k _ _ (fun q => by rw [q, e] at h; cases h) h
theorem kp_sqt {K : PySem.W.Frag} {p : Addr} {H H' : Hp} {C dx : Addr} {fs : List (Str × V)} {a : Addr} {xs : List V} (k : Kp p H H') (e : H p = some (.ins C dx fs)) (h : SqT K H a xs) : SqT K H' a xs := by
  rcases h with (h | ⟨o, h⟩) | h
  · exact .inl (.inl (k _ _ (fun q => by rw [q, e] at h; cases h) h))
  · exact .inl (.inr ⟨o, k _ _ (fun q => by rw [q, e] at h; cases h) h⟩)
  · exact .inr h
theorem HoAt.kp {K : PySem.W.Frag} {CH CC : Addr} {p hp dx : Addr} {H H' : Hp} {fs : List (Str × V)} {h : Hd} (x : HoAt K CH H hp h) (k : Kp p H H') (e : H p = some (.ins CC dx fs)) (n : hp ≠ p) : HoAt K CH H' hp h := by
  obtain ⟨⟨d, aT, aC, aR, xs, e1, e2, e3, e4, e5⟩⟩ := x
  exact ⟨⟨d, aT, aC, aR, xs, k _ _ n e1, kp_sqt k e e2, kp_sqt k e e3, kp_sqt k e e4, e5.mono fun t ys h => kp_tup2 k e _ _ h⟩⟩
theorem HoAt.mono {K : PySem.W.Frag} {CH : Addr} {hp : Addr} {H H' : Hp} {h : Hd} (x : HoAt K CH H hp h) (s : Same H H') : HoAt K CH H' hp h := by
  obtain ⟨⟨d, aT, aC, aR, xs, e1, e2, e3, e4, e5⟩⟩ := x
  exact ⟨⟨d, aT, aC, aR, xs, s _ _ e1, sSqT s e2, sSqT s e3, sSqT s e4, e5.mono fun t ys h => s _ _ h⟩⟩
theorem any_mem (p : Int) (l : List Int) : inV (V.int p) (l.map V.int) = decide (p ∈ l) := any_eqI l p
end Dk

set_option Elab.async false
set_option linter.all false
set_option maxRecDepth 100000
set_option maxHeartbeats 1000000
namespace Dk
open PySem PySem.Spec PyProof.Rows L2 TL
def rInDT (K : PySem.W.Frag) : R2 := fun x y H Q => ∃ d ds, Dp K H x d ∧ Dp K H y (.tuple ds) ∧ SeqAt.shaped d = true ∧ SeqAt.shaped (.list ds) = true ∧ Q (.bl (ds.any fun z => PyData.eqv z d)) H
theorem op_inDT {X : Cx} (hu : X.A.units + 65 < cLine) : OpR X (compareOp .In) (rInDT X.K) := by
  intro pins s σ H x y v u Q I rx ry h
  obtain ⟨d, ds, hd, he, sd, se, q⟩ := h
  obtain ⟨as, r1⟩ := Dp.reads I d x v hd rx
  obtain ⟨bs, r2⟩ := Dp.reads I (.tuple ds) y u he ry
  exact SeqAt.in_tuple_reads r2 r1 (SeqAt.canLay_of_shaped se) (SeqAt.canLay_of_shaped sd) (room_in_shaped sd hu) ⟨.bl _, H, I, rfl, q⟩
structure TxtCo (K : PySem.W.Frag) (mg : Str → Option Value) (CC CH fHL : Addr) (fdHL : FuncData) : Prop where
  cl : Cls K CC
  nHo : NoAttr K CC "house"
  nSp : NoAttr K CC "span"
  nTk : NoAttr K CC "tick"
  nHm : NoAttr K CC "home"
  nWt : NoAttr K CC "waiters"
  nCr : NoAttr K CC "carriers"
  nUn : NoAttr K CC "unlocked"
  clH : Cls K CH
  nT : NoAttr K CH "tables"
  nK : NoAttr K CH "key_count"
  nC : NoAttr K CH "careful"
  nR : NoAttr K CH "reminders"
  gHL : mg "is_home_letter" = some (.ref fHL)
  FHL : Fun K "is_home_letter" "is_home_letter" sHomeL fHL fdHL
  bHL : Binds K fdHL ["table", "tick"] []
  any : mg "any" = none
  sorted : mg "sorted" = none
  enumerate : mg "enumerate" = none
  list : mg "list" = none
  tuple : mg "tuple" = none
def spHome : Sp := fun vs H Q _ => ∃ (x : Str) (t : Int), vs = [.str x, .int t] ∧ IsTab x ∧ ∀ H', Same H H' → Q (.bl (homeL x t)) H'
theorem homeL_eq {x : Str} {t : Int} {c : Nat} (h : x.cps[(t % (x.length : Int)).toNat]? = some c) : decide (V.str (⟨#[c]⟩ : Str) = V.str (Str.ofString "h")) = homeL x t := by
  have e1 : (tl x)[(t % ((tl x).length : Int)).toNat]? = some c := by rw [← len_tl, ← h]; exact Array.getElem?_toList
  have e2 : tl (Str.ofString "h") = [104] := by decide +kernel
  unfold homeL
  rw [e1]
  by_cases q : c = 104
  · subst q
    rw [decide_eq_true (congrArg V.str (ext_tl (by rw [e2])))]
    simp
  · rw [decide_eq_false fun e => q ?_, decide_eq_false fun e => q (Option.some.inj e)]
    have h1 : tl (⟨#[c]⟩ : Str) = tl (Str.ofString "h") := congrArg tl (V.str.inj e)
    rw [e2] at h1
    exact (List.cons.inj h1).1
section
variable {P : Program} {w : World} {K : PySem.W.Frag} {mg : Str → Option Value} {base : Heap} {CC CH fHL : Addr} {fdHL : FuncData}
theorem scHome : FnScope ["table", "tick"] ["table", "tick"] (defScope sHomeL) := ⟨rfl, rfl, rfl, by decide +kernel, rfl, by decide +kernel, by decide +kernel⟩
theorem ok_home (C' : TxtCo K mg CC CH fHL fdHL) (T : TxtA mg) : FnOk P w K mg base CX0 1 fHL fdHL ["table", "tick"] spHome := by
  refine C'.FHL.ok scHome (fun vs H Q E h => ?_) (fun cdv A outer s H vs Q E hr h => ?_)
  · obtain ⟨x, t, rfl, _⟩ := h
    rfl
  · obtain ⟨x, t, rfl, hx, k⟩ := h
    refine ⟨_, pss_one (ps_ret (pe_cmpR op_eq (pe_item_str (pv 0) (pe_op op_mod (pv 1) (pe_callB call_len_str (by rfl) T.len PySem.boot_len (pa_cons (pv 0) pa_nil))) (fun _ _ => rfl)) pe_str (nomark _))), ?_⟩
    have hp := hx.pos
    rw [← len_tl] at hp
    have h0 : 0 ≤ t % (x.length : Int) := Int.emod_nonneg _ (by omega)
    have h1 : t % (x.length : Int) < (x.length : Int) := Int.emod_lt_of_pos _ (by omega)
    have hj : (t % (x.length : Int)).toNat < x.cps.size := by
      show _ < x.length
      omega
    refine ⟨_, rfl, _, rfl, _, rfl, _, rfl, hx.size, _, _, rfl, rfl, by show (0 : Int) < _; omega, x, _, x.cps[(t % (x.length : Int)).toNat], rfl, rfl, h0, by omega, h1, Array.getElem?_eq_getElem hj, rfl, ?_⟩
    rw [homeL_eq (Array.getElem?_eq_getElem hj)]
    exact k H (Same.refl H)
/-- [f(p) for p in l], l a list of numbers -/
theorem comp_ints {l : Addr} {ns : List Int} {H1 : Hp} {D : Addr} {g : Int → V} {σ : L2.St} {i : Nat} {vs : List Nat} {te : TE} {Qd : Hp → Prop} (hD : H1 D = none) (hl : SqL K H1 l (ns.map V.int)) (hz : ns.length ≤ 1000)
    (hte : ∀ (p : Int) (H2 : Hp) (Q : VK), p ∈ ns → Same H1 H2 → (∀ H3, Same H2 H3 → Q (g p) H3) → te ((wipe σ vs).set i (some (.int p))) H2 Q) (hw : ∀ x : V, wipe ((wipe σ vs).set i (some x)) vs = wipe σ vs)
    (hd : ∀ H2, Same H1 H2 → H2 D = some (.lst (ns.map g)) → Qd H2) :
    ∃ W : Nat → Nat → Hp → Prop, (∃ m, W 0 m (upd H1 D (.lst []))) ∧ ∀ i' m H, W i' m H →
      ((Itl K l).stop i' H ∧ Qd H) ∨ ((Itl K l).go i' H ∧ ∃ Nx : Hp → Prop, (∀ H', Nx H' → ∃ m', m' < m ∧ W (i' + 1) m' H') ∧ ∀ x H', (Itl K l).yld i' H x H' → gName i x (wipe σ vs) H' fun σ2 H2 => wipe σ2 vs = wipe σ vs ∧ tYes σ2 H2 fun b H3 =>
        if b = true then te σ2 H3 fun y H4 => ∃ acc, H4 D = some (.lst acc) ∧ acc.length < sizeLine ∧ Nx (upd H4 D (.lst (acc ++ [y]))) else Nx H3) := by
  refine lc_list (K := K) (a := l) (xs := ns.map V.int) (g := gName i) (tt := tYes) (te := te) (vs := vs) (σ := σ) (Qd := Qd)
    (fun i H3 => Same H1 H3 ∧ H3 D = some (.lst ((ns.take i).map g)))
    ⟨same_upd hD, upd_same⟩ (fun i H3 _ ⟨e, _⟩ => e.seq hl) ?_ ?_
  · rintro j y H3 hi ⟨s3, eD⟩
    obtain ⟨t, ht, rfl⟩ := map_at hi
    have hj : j < ns.length := (List.getElem?_eq_some_iff.mp ht).1
    refine ⟨hw _, hte t H3 _ (List.mem_of_getElem? ht) s3 fun H4 s4 => ⟨_, s4 _ _ eD, ?_, fun b o eb => ?_, ?_⟩⟩
    · rw [List.length_map, List.length_take]
      exact Nat.lt_of_le_of_lt (Nat.le_trans (Nat.min_le_left _ _) (by omega : j ≤ 1000)) (by decide)
    · rw [upd_ne (ne_of_none eb hD)]; exact s4 _ _ (s3 _ _ eb)
    · rw [upd_same, take_more ht, List.map_append]; rfl
  · rintro H3 ⟨s3, eD⟩
    rw [List.length_map, List.take_length] at eD
    exact hd H3 s3 eD
/-- [p for p in l if ..], l a list of numbers -/
theorem comp_filt {l : Addr} {ns : List Int} {H1 : Hp} {D : Addr} {g : Int → Bool} {σ : L2.St} {i : Nat} {vs : List Nat} {tt : TT} {Qd : Hp → Prop} (hD : H1 D = none) (hl : SqL K H1 l (ns.map V.int)) (hz : ns.length ≤ 1000)
    (htt : ∀ (p : Int) (H2 : Hp) (Qb : Bool → Hp → Prop), p ∈ ns → Same H1 H2 → (∀ H3, Same H2 H3 → Qb (g p) H3) → tt ((wipe σ vs).set i (some (.int p))) H2 Qb)
    (hv : ∀ x : V, ((wipe σ vs).set i (some x))[i]? = some (some x)) (hw : ∀ x : V, wipe ((wipe σ vs).set i (some x)) vs = wipe σ vs)
    (hd : ∀ H2, Same H1 H2 → H2 D = some (.lst ((ns.filter g).map V.int)) → Qd H2) :
    ∃ W : Nat → Nat → Hp → Prop, (∃ m, W 0 m (upd H1 D (.lst []))) ∧ ∀ i' m H, W i' m H →
      ((Itl K l).stop i' H ∧ Qd H) ∨ ((Itl K l).go i' H ∧ ∃ Nx : Hp → Prop, (∀ H', Nx H' → ∃ m', m' < m ∧ W (i' + 1) m' H') ∧ ∀ x H', (Itl K l).yld i' H x H' → gName i x (wipe σ vs) H' fun σ2 H2 => wipe σ2 vs = wipe σ vs ∧ tt σ2 H2 fun b H3 =>
        if b = true then tVar i σ2 H3 fun y H4 => ∃ acc, H4 D = some (.lst acc) ∧ acc.length < sizeLine ∧ Nx (upd H4 D (.lst (acc ++ [y]))) else Nx H3) := by
  refine lc_list (K := K) (a := l) (xs := ns.map V.int) (g := gName i) (tt := tt) (te := tVar i) (vs := vs) (σ := σ) (Qd := Qd)
    (fun i H3 => Same H1 H3 ∧ H3 D = some (.lst (((ns.take i).filter g).map V.int)))
    ⟨same_upd hD, upd_same⟩ (fun i H3 _ ⟨e, _⟩ => e.seq hl) ?_ ?_
  · rintro j y H3 hi ⟨s3, eD⟩
    obtain ⟨t, ht, rfl⟩ := map_at hi
    have hj : j < ns.length := (List.getElem?_eq_some_iff.mp ht).1
    refine ⟨hw _, htt t H3 _ (List.mem_of_getElem? ht) s3 fun H4 s4 => ?_⟩
    cases q : g t with
    | false =>
      refine iteF ⟨s3.trans s4, ?_⟩
      rw [take_more ht, List.filter_append, filt0 q, List.append_nil]; exact s4 _ _ eD
    | true =>
      refine iteT ⟨_, hv _, _, s4 _ _ eD, ?_, fun b o eb => ?_, ?_⟩
      · rw [List.length_map]
        have := List.length_filter_le g (ns.take j)
        rw [List.length_take] at this
        exact Nat.lt_of_le_of_lt (by omega : _ ≤ 1000) (by decide)
      · rw [upd_ne (ne_of_none eb hD)]; exact s4 _ _ (s3 _ _ eb)
      · rw [upd_same, take_more ht, List.filter_append, filt1 q, List.map_append]; rfl
  · rintro H3 ⟨s3, eD⟩
    rw [List.length_map, List.take_length] at eD
    exact hd H3 s3 eD
/-! ### _can_enter -/
def spCanE (CC : Addr) : Sp := fun vs H Q _ => ∃ (p hp l : Addr) (sp t : Int) (c : Cs) (cm : List Int), vs = [.ref p, .ref l] ∧ CoAt CC H p hp sp t c ∧ H l = some (.lst (cm.map V.int)) ∧ cm.length ≤ 1000 ∧ ∀ H', Same H H' → Q (.bl (canEnter c cm)) H'
theorem any_map (ns : List Int) (g : Int → Bool) : (ns.map g).any id = ns.any g := by rw [List.any_map]; rfl
theorem empty_map (ns : List Int) : (ns.map V.int).isEmpty = ns.isEmpty := by cases ns <;> rfl
theorem scCanE : FnScope ["self", "comers", "person"] ["self", "comers"] (defScope sCanE) := ⟨rfl, rfl, rfl, by decide +kernel, rfl, by decide +kernel, by decide +kernel⟩
theorem ok_cane {f : Addr} {fd : FuncData} (F : Fun K "_can_enter" "Course._can_enter" sCanE f fd) (C' : TxtCo K mg CC CH fHL fdHL) : FnOk P w K mg base CX0 1 f fd ["self", "comers"] (spCanE CC) := by
  refine F.ok scCanE (fun vs H Q E h => ?_) (fun cdv A outer s H vs Q E hr h => ?_)
  · obtain ⟨p, hp, l, sp, t, c, cm, rfl, _⟩ := h
    rfl
  · obtain ⟨p, hp, l, sp, t, c, cm, rfl, ⟨dx, aH, aW, aC, e1, e2, e3, e4⟩, el, hz, k⟩ := h
    refine ⟨_, pss_cons (ps_if (PW.pt (pw_or (pt_truth (pe_fld (pv 0) rfl) (by intro _; rfl)) (pw_or1 (pt_val (pe_fld (pv 0) rfl))))) (pss_one (ps_ret pe_bl)) pss_nil)
      (pss_one (ps_ret (pe_callB (cr_any rfl) (by rfl) C'.any (by decide +kernel) (pa_cons (pe_lc (own := [("person", 2)]) (g := gName 2) (te := tOp (rIn K false) (tVar 2) (tFld K (tVar 0) "carriers")) (by rfl) scCanE.nd (pi_list (pv 1)) (blkOk_by (N := ["self", "comers", "person"]) (sc := defScope sCanE) (by decide +kernel))
        (fun _ _ _ _ _ => pg_name (i := 2) scCanE.nd rfl (Or.inl rfl)) (fun _ _ _ _ _ => pts_nil)
        (fun _ _ _ _ _ => by exact pe_cmpR op_in_seq (pv 2) (pe_fld (pv 0) rfl) (by rfl))) pa_nil)))), ?_⟩
    have lk : ∀ x, ((cFields (.ref hp) (.int sp) (.int t) (.ref aH) (.ref aW) (.ref aC) (.bl c.opn)).lookup x) = ((cFields (.ref hp) (.int sp) (.int t) (.ref aH) (.ref aW) (.ref aC) (.bl c.opn)).lookup x) := fun _ => rfl
    refine ⟨_, rfl, p, CC, dx, _, .ref aH, rfl, e1, C'.cl, C'.nHm, by rfl, _, .inl ⟨_, SqL.of e2, rfl⟩, ?_⟩
    rw [empty_map]
    cases q1 : c.home.isEmpty with
    | false =>
      have := k H (Same.refl H)
      have e : canEnter c cm = true := by unfold canEnter; rw [q1]; rfl
      rw [e] at this
      exact iteT (iteT this)
    | true =>
      refine iteF ⟨_, rfl, p, CC, dx, _, .bl c.opn, rfl, e1, C'.cl, C'.nUn, by rfl, _, rfl, ?_⟩
      cases q2 : c.opn with
      | true =>
        have := k H (Same.refl H)
        have e : canEnter c cm = true := by unfold canEnter; rw [q1, q2]; rfl
        rw [e] at this
        exact iteT this
      | false =>
        have e : canEnter c cm = cm.any fun p => decide (p ∈ c.carr) := by unfold canEnter; rw [q1, q2]; rfl
        rw [e] at k
        refine iteF ⟨_, rfl, l, rfl, ⟨_, SqL.of el⟩, fun D hD => ?_⟩
        refine comp_ints (i := 2) (vs := [2]) (g := fun p => V.bl (decide (p ∈ c.carr))) hD (SqL.of el) hz (fun y H2 Q2 hm s2 hq => ?_) (fun _ => rfl) (fun H2 s2 eD => ?_)
        · refine ⟨_, rfl, _, rfl, p, CC, dx, _, .ref aC, rfl, s2 _ _ e1, C'.cl, C'.nCr, by rfl, aC, _, rfl, .inl (SqL.of (s2 _ _ e4)), rfl, by simp [flatV], ?_⟩
          rw [any_mem]
          exact hq H2 (Same.refl H2)
        · refine ⟨D, cm.map fun p => decide (p ∈ c.carr), rfl, ?_, ?_⟩
          · rw [List.map_map]; exact SqL.of eD
          · rw [any_map]; exact k _ s2
end
end Dk

set_option Elab.async false
set_option linter.all false
set_option maxRecDepth 100000
set_option maxHeartbeats 1000000
namespace Dk
open PySem PySem.Spec PyProof.Rows L2 TL
theorem putF_carr (vh vs vt vm vw vc vu x : V) : putF "carriers" x (cFields vh vs vt vm vw vc vu) = cFields vh vs vt vm vw x vu := by rfl
theorem putF_home (vh vs vt vm vw vc vu x : V) : putF "home" x (cFields vh vs vt vm vw vc vu) = cFields vh vs vt x vw vc vu := by rfl
theorem putF_wait (vh vs vt vm vw vc vu x : V) : putF "waiters" x (cFields vh vs vt vm vw vc vu) = cFields vh vs vt vm x vc vu := by rfl
theorem putF_opn (vh vs vt vm vw vc vu x : V) : putF "unlocked" x (cFields vh vs vt vm vw vc vu) = cFields vh vs vt vm vw vc x := by rfl
theorem putF_tick (vh vs vt vm vw vc vu x : V) : putF "tick" x (cFields vh vs vt vm vw vc vu) = cFields vh vs x vm vw vc vu := by rfl
def spTake (K : PySem.W.Frag) (CC CH : Addr) : Sp := fun vs H Q _ => ∃ (p hp : Addr) (sp t : Int) (c : Cs) (h : Hd) (q : Int), vs = [.ref p, .int q] ∧ CoAt CC H p hp sp t c ∧ HoAt K CH H hp h ∧ hp ≠ p ∧ c.carr.length ≤ 1000 ∧
  ∀ H', Kp p H H' → CoAt CC H' p hp sp t (takeKey h.ks c q).1 → (∀ a, HomeAt H p a → HomeAt H' p a) → Q (.bl (takeKey h.ks c q).2) H'
def spThink (K : PySem.W.Frag) (CC CH : Addr) : Sp := fun vs H Q _ => ∃ (p hp : Addr) (t : Int) (c : Cs) (h : Hd) (q : Int), vs = [.ref p, .int q] ∧ CoAt CC H p hp ((per h.ts : Nat) : Int) t c ∧ HoAt K CH H hp h ∧ 1 ≤ per h.ts ∧ ∀ H', Same H H' → Q (.bl (thinks h t q)) H'
def spClose (K : PySem.W.Frag) (CC CH : Addr) : Sp := fun vs H Q _ => ∃ (p hp : Addr) (sp t : Int) (c : Cs) (h : Hd) (q : Int), vs = [.ref p, .int q] ∧ CoAt CC H p hp sp t c ∧ HoAt K CH H hp h ∧ hp ≠ p ∧ c.carr.length ≤ 1000 ∧
  ∀ (H' : Hp) (e : Addr), Kp p H H' → CoAt CC H' p hp sp t (closeC h.ks c q).1 → (∀ a, HomeAt H p a → HomeAt H' p a) → H' e = some (.tup [.int t, .str (closeC h.ks c q).2.1, (closeC h.ks c q).2.2]) → Q (.ref e) H'
structure TxtTk (K : PySem.W.Frag) (CC fTk : Addr) (fdTk : FuncData) : Prop where
  m : Meth K CC "_take_key" fTk
  F : Fun K "_take_key" "Course._take_key" sTake fTk fdTk
  b : Binds K fdTk ["self", "person"] []
section
variable {P : Program} {w : World} {K : PySem.W.Frag} {mg : Str → Option Value} {base : Heap} {CC CH fHL : Addr} {fdHL : FuncData} {fTk : Addr} {fdTk : FuncData}
theorem scTake : FnScope ["self", "person"] ["self", "person"] (defScope sTake) := ⟨rfl, rfl, rfl, by decide +kernel, rfl, by decide +kernel, by decide +kernel⟩
theorem ok_take {f : Addr} {fd : FuncData} (F : Fun K "_take_key" "Course._take_key" sTake f fd) (C' : TxtCo K mg CC CH fHL fdHL) (T : TxtA mg) : FnOk P w K mg base CX0 1 f fd ["self", "person"] (spTake K CC CH) := by
  refine F.ok scTake (fun vs H Q E h => ?_) (fun cdv A outer s H vs Q E hr h => ?_)
  · obtain ⟨p, hp, sp, t, c, h, q, rfl, _⟩ := h
    rfl
  · obtain ⟨p, hp, sp, t, c, h, q, rfl, ⟨dx, aH, aW, aC, e1, e2, e3, e4⟩, ⟨⟨d, bT, bC, bR, xs, g1, g2, g3, g4, g5⟩⟩, npq, hz, k⟩ := h
    refine ⟨_, pss_cons (ps_if (pt_cmpR op_eq (pe_callB call_len_seq (by rfl) T.len PySem.boot_len (pa_cons (pe_fld (pv 0) rfl) pa_nil)) (pe_fld (pe_fld (pv 0) rfl) rfl) (nomark _)) (pss_one (ps_ret pe_bl)) pss_nil)
      (pss_cons (ps_fld (pv 0) (pe_callB cr_sortedI (by rfl) C'.sorted (by decide +kernel) (pa_cons (pe_lst (StX.pa_star (pe_fld (pv 0) rfl) (pa_cons (pv 1) pa_nil))) pa_nil)) rfl) (pss_one (ps_ret pe_bl))), ?_⟩
    refine ⟨_, rfl, p, CC, dx, _, .ref aC, rfl, e1, C'.cl, C'.nCr, by rfl, aC, _, rfl, .inl (SqL.of e4), _, rfl, p, CC, dx, _, .ref hp, rfl, e1, C'.cl, C'.nHo, by rfl, hp, CH, d, _, .int h.ks, rfl, g1, C'.clH, C'.nK, hf_keys _ _ _ _, rfl, _, rfl, ?_⟩
    rw [List.length_map]
    by_cases cc : (c.carr.length : Int) = h.ks
    · rw [show decide (V.int ((c.carr.length : Nat) : Int) = V.int h.ks) = true from decide_eq_true (by rw [cc])]
      have e : takeKey h.ks c q = (c, false) := by unfold takeKey; rw [if_pos cc]
      have := k H Kp.refl (by rw [e]; exact ⟨dx, aH, aW, aC, e1, e2, e3, e4⟩) (fun _ z => z)
      rw [e] at this
      exact iteT this
    · rw [show decide (V.int ((c.carr.length : Nat) : Int) = V.int h.ks) = false from decide_eq_false fun z => cc (V.int.inj z)]
      have e : takeKey h.ks c q = ({ c with carr := srt (c.carr ++ [q]) }, true) := by unfold takeKey; rw [if_neg cc]
      refine iteF ⟨_, rfl, p, CC, dx, _, .ref aC, rfl, e1, C'.cl, C'.nCr, by rfl, aC, _, rfl, .inr (SqL.of e4), _, rfl, ?_, fun l hl => ?_⟩
      · show (c.carr.map V.int ++ [V.int q]).length ≤ sizeLine
        rw [List.length_append, List.length_map]; exact Nat.le_trans (by show _ + 1 ≤ 1001; omega) (by decide)
      have s1 := same_upd (o := .lst (c.carr.map V.int ++ [V.int q])) hl
      refine ⟨l, c.carr ++ [q], rfl, SqL.of (by rw [upd_same, List.map_append]; rfl), fun ns' m hp' hs' hm => ?_⟩
      rw [srt_uniq hp' hs']
      have s2 := same_upd (o := .lst ((srt (c.carr ++ [q])).map V.int)) hm
      have s12 := s1.trans s2
      have em : (upd (upd H l (.lst (c.carr.map V.int ++ [V.int q]))) m (.lst ((srt (c.carr ++ [q])).map V.int))) m = some (.lst ((srt (c.carr ++ [q])).map V.int)) := upd_same
      change (upd H l (.lst (c.carr.map V.int ++ [V.int q]))) m = none at hm
      generalize upd (upd H l (.lst (c.carr.map V.int ++ [V.int q]))) m (.lst ((srt (c.carr ++ [q])).map V.int)) = H2 at s12 em s2
      refine ⟨_, rfl, p, CC, dx, _, rfl, s12 _ _ e1, C'.cl, C'.nCr, by show 7 < 1000; decide, ?_⟩
      rw [putF_carr]
      have kk : Kp p H (upd H2 p (.ins CC dx (cFields (.ref hp) (.int sp) (.int t) (.ref aH) (.ref aW) (.ref m) (.bl c.opn)))) := (sKp s12).trans kp_upd
      have np : ∀ a xs, H a = some (.lst xs) → a ≠ p := fun a xs ha z => by rw [z, e1] at ha; cases ha
      have nm : m ≠ p := fun z => by
        have := s12 _ _ e1
        rw [z] at em
        rw [em] at this; cases this
      have := k _ kk (by
        rw [e]
        exact ⟨dx, aH, aW, m, upd_same, kk _ _ (np _ _ e2) e2, kk _ _ (np _ _ e3) e3, by rw [upd_ne nm]; exact em⟩) (fun a z => z.put e1 upd_same (by rfl))
      rw [e] at this
      exact this
theorem scThink : FnScope ["self", "person"] ["self", "person"] (defScope sThinks) := ⟨rfl, rfl, rfl, by decide +kernel, rfl, by decide +kernel, by decide +kernel⟩
theorem ok_think {f : Addr} {fd : FuncData} (F : Fun K "_thinks_of_key" "Course._thinks_of_key" sThinks f fd) (C' : TxtCo K mg CC CH fHL fdHL) : FnOk P w K mg base CX0 1 f fd ["self", "person"] (spThink K CC CH) := by
  refine F.ok scThink (fun vs H Q E h => ?_) (fun cdv A outer s H vs Q E hr h => ?_)
  · obtain ⟨p, hp, t, c, h, q, rfl, _⟩ := h
    rfl
  · obtain ⟨p, hp, t, c, h, q, rfl, ⟨dx, aH, aW, aC, e1, e2, e3, e4⟩, ⟨⟨d, bT, bC, bR, xs, g1, g2, g3, g4, g5⟩⟩, h1, k⟩ := h
    have hu : (A.deeper (envOfC (Str.ofString "Course._thinks_of_key") (defScope sThinks) s.heap.objs.size f cdv)).units + 65 < cLine := by have := hr.un; omega
    refine ⟨_, pss_cons (ps_if (pt_cmpR op_in_seq (pv 1) (pe_fld (pe_fld (pv 0) rfl) rfl) (by rfl)) (pss_one (ps_ret pe_bl)) pss_nil)
      (pss_one (ps_ret (pe_cmpR (op_inDT hu) (pe_tup (pa_cons (pe_op op_mod (pe_fld (pv 0) rfl) (pe_fld (pv 0) rfl)) (pa_cons (pv 1) pa_nil))) (pe_fld (pe_fld (pv 0) rfl) rfl) (by rfl)))), ?_⟩
    refine ⟨_, rfl, _, rfl, p, CC, dx, _, .ref hp, rfl, e1, C'.cl, C'.nHo, by rfl, hp, CH, d, _, .ref bC, rfl, g1, C'.clH, C'.nC, hf_careful _ _ _ _, bC, _, rfl, .inr g3, rfl, by simp [flatV], _, rfl, ?_⟩
    show (if inV (V.int q) (h.cs.map V.int) = true then _ else _)
    rw [any_mem]
    by_cases cc : q ∈ h.cs
    · rw [decide_eq_true cc]
      have := k H (Same.refl H)
      have e : thinks h t q = true := by unfold thinks; rw [decide_eq_true cc]; rfl
      rw [e] at this
      exact iteT this
    · rw [decide_eq_false cc]
      have e : thinks h t q = decide ((t % ((per h.ts : Nat) : Int), q) ∈ h.rs) := by unfold thinks; rw [decide_eq_false cc]; rfl
      rw [e] at k
      refine iteF ⟨_, rfl, p, CC, dx, _, .int t, rfl, e1, C'.cl, C'.nTk, by rfl, _, rfl, p, CC, dx, _, .int ((per h.ts : Nat) : Int), rfl, e1, C'.cl, C'.nSp, by rfl, _, _, rfl, rfl, by show (0 : Int) < _; omega, _, rfl, by show 2 ≤ sizeLine; decide, fun u hu' => ?_⟩
      have s1 := same_upd (o := .tup [.int (t % ((per h.ts : Nat) : Int)), .int q]) hu'
      refine ⟨_, rfl, p, CC, dx, _, .ref hp, rfl, s1 _ _ e1, C'.cl, C'.nHo, by rfl, hp, CH, d, _, .ref bR, rfl, s1 _ _ g1, C'.clH, C'.nR, hf_rem _ _ _ _, ?_⟩
      refine ⟨prR (t % ((per h.ts : Nat) : Int), q), h.rs.map prR, .tup (SqT.of upd_same) (.cons (.int _) (.cons (.int _) .nil)), .tup (sSqT s1 g4) (dpAll_prs (g5.mono fun t' ys z => s1 _ _ z)), prR_shaped _, prRs_shaped _, ?_⟩
      rw [any_eqv]
      exact k _ s1
theorem scClose : FnScope ["self", "person"] ["self", "person"] (defScope sClose) := ⟨rfl, rfl, rfl, by decide +kernel, rfl, by decide +kernel, by decide +kernel⟩
theorem ok_close {f : Addr} {fd : FuncData} (F : Fun K "_close" "Course._close" sClose f fd) (C' : TxtCo K mg CC CH fHL fdHL) (T : TxtA mg) (TK : TxtTk K CC fTk fdTk) : FnOk P w K mg base CX0 2 f fd ["self", "person"] (spClose K CC CH) := by
  have GT : FnOk P w K mg base CX0 1 fTk fdTk ["self", "person"] (spTake K CC CH) := ok_take TK.F C' T
  refine F.ok scClose (fun vs H Q E h => ?_) (fun cdv A outer s H vs Q E hr h => ?_)
  · obtain ⟨p, hp, sp, t, c, h, q, rfl, _⟩ := h
    rfl
  · obtain ⟨p, hp, sp, t, c, h, q, rfl, hc, hh, npq, hz, k⟩ := h
    refine ⟨_, pss_cons (ps_if (pt_val (pe_meth (pv 0) C'.cl TK.m GT hr TK.b .nil pass0 (pa_cons (pv 1) pa_nil))) (pss_one (ps_ret (pe_tup (pa_cons (pe_fld (pv 0) rfl) (pa_cons pe_str (pa_cons (pv 1) pa_nil)))))) pss_nil)
      (pss_cons (ps_fld (pv 0) pe_bl rfl) (pss_one (ps_ret (pe_tup (pa_cons (pe_fld (pv 0) rfl) (pa_cons pe_str (pa_cons pe_non pa_nil))))))), ?_⟩
    obtain ⟨dx, aH, aW, aC, e1, e2, e3, e4⟩ := id hc
    refine ⟨_, rfl, p, dx, _, rfl, e1, by rfl, _, rfl, p, hp, sp, t, c, h, q, rfl, hc, hh, npq, hz, fun H2 k2 c2 m2 => ⟨_, rfl, ?_⟩⟩
    obtain ⟨dx2, bH, bW, bC, f1, f2, f3, f4⟩ := id c2
    cases hb : (takeKey h.ks c q).2 with
    | true =>
      have e : closeC h.ks c q = ((takeKey h.ks c q).1, (wTake, .int q)) := by unfold closeC; rw [if_pos hb]
      refine iteT ⟨_, rfl, p, CC, dx2, _, .int t, rfl, f1, C'.cl, C'.nTk, by rfl, _, rfl, by show 3 ≤ sizeLine; decide, fun u hu => ?_⟩
      have s3 := same_upd (o := .tup [.int t, .str (Str.ofString "take"), .int q]) hu
      exact k _ u (k2.trans (sKp s3)) (by rw [e]; exact c2.mono s3) (fun a z => (m2 a z).mono s3) (by rw [e]; exact upd_same)
    | false =>
      have e : closeC h.ks c q = ({ c with opn := true }, (wOpen, .non)) := by unfold closeC; rw [if_neg (by rw [hb]; decide)]
      have e0 : (takeKey h.ks c q).1 = c := by
        unfold takeKey at hb ⊢
        by_cases cc : (c.carr.length : Int) = h.ks
        · rw [if_pos cc]
        · rw [if_neg cc] at hb; cases hb
      rw [e0] at f1 f2 f3 f4
      refine iteF ⟨_, rfl, p, CC, dx2, _, rfl, f1, C'.cl, C'.nUn, by show 7 < 1000; decide, ?_⟩
      rw [putF_opn]
      have kk : Kp p H2 (upd H2 p (.ins CC dx2 (cFields (.ref hp) (.int sp) (.int t) (.ref bH) (.ref bW) (.ref bC) (.bl true)))) := kp_upd
      have np : ∀ a xs, H2 a = some (.lst xs) → a ≠ p := fun a xs ha z => by rw [z, f1] at ha; cases ha
      refine ⟨_, rfl, p, CC, dx2, _, .int t, rfl, upd_same, C'.cl, C'.nTk, by rfl, by show 3 ≤ sizeLine; decide, fun u hu => ?_⟩
      have c3 : CoAt CC (upd H2 p (.ins CC dx2 (cFields (.ref hp) (.int sp) (.int t) (.ref bH) (.ref bW) (.ref bC) (.bl true)))) p hp sp t { c with opn := true } :=
        ⟨dx2, bH, bW, bC, upd_same, kk _ _ (np _ _ f2) f2, kk _ _ (np _ _ f3) f3, kk _ _ (np _ _ f4) f4⟩
      have s3 := same_upd (o := .tup [.int t, .str (Str.ofString "open"), .non]) hu
      exact k _ u ((k2.trans kk).trans (sKp s3)) (by rw [e]; exact c3.mono s3) (fun a z => ((m2 a z).put f1 upd_same (by rfl)).mono s3) (by rw [e]; exact upd_same)
end
end Dk

set_option Elab.async false
set_option linter.all false
set_option maxRecDepth 100000
set_option maxHeartbeats 2000000
namespace Dk
open PySem PySem.Spec PyProof.Rows L2 TL
section
variable {X : Cx} {K : PySem.W.Frag}
theorem pe_fldK {e : Expr} {f : Str} {pos : Pos} {ta : TE} (h : X.K = K) (he : PE X e ta) (hb : attributeBase e f X.env (eval e X.env) = eval e X.env) : PE X (.Attribute e f pos) (tFld K ta f) := by
  subst h; exact pe_fld he hb
theorem op_in_seqK (h : X.K = K) : OpR X (compareOp .In) (rIn K false) := by subst h; exact op_in_seq
theorem op_notIn_seqK (h : X.K = K) : OpR X (compareOp .NotIn) (rIn K true) := by subst h; exact op_notIn_seq
end
/-- [(t, word, ..) for p in l] -/
theorem comp_evs {K : PySem.W.Frag} {l : Addr} {ns : List Int} {H1 : Hp} {D : Addr} {t : Int} {g : Int → Ev} {σ : L2.St} {i : Nat} {vs : List Nat} {te : TE} {Qd : Hp → Prop} (hD : H1 D = none) (hl : SqL K H1 l (ns.map V.int)) (hz : ns.length ≤ 1000)
    (hte : ∀ (p : Int) (H2 : Hp) (Q : VK), p ∈ ns → Same H1 H2 → (∀ H3 a, Same H2 H3 → H3 a = some (.tup [.int t, .str (g p).1, (g p).2]) → Q (.ref a) H3) → te ((wipe σ vs).set i (some (.int p))) H2 Q) (hw : ∀ x : V, wipe ((wipe σ vs).set i (some x)) vs = wipe σ vs)
    (hd : ∀ H2, Same H1 H2 → EvAt H2 D t (ns.map g) → Qd H2) :
    ∃ W : Nat → Nat → Hp → Prop, (∃ m, W 0 m (upd H1 D (.lst []))) ∧ ∀ i' m H, W i' m H →
      ((Itl K l).stop i' H ∧ Qd H) ∨ ((Itl K l).go i' H ∧ ∃ Nx : Hp → Prop, (∀ H', Nx H' → ∃ m', m' < m ∧ W (i' + 1) m' H') ∧ ∀ x H', (Itl K l).yld i' H x H' → gName i x (wipe σ vs) H' fun σ2 H2 => wipe σ2 vs = wipe σ vs ∧ tYes σ2 H2 fun b H3 =>
        if b = true then te σ2 H3 fun y H4 => ∃ acc, H4 D = some (.lst acc) ∧ acc.length < sizeLine ∧ Nx (upd H4 D (.lst (acc ++ [y]))) else Nx H3) := by
  refine lc_list (K := K) (a := l) (xs := ns.map V.int) (g := gName i) (tt := tYes) (te := te) (vs := vs) (σ := σ) (Qd := Qd)
    (fun i H3 => Same H1 H3 ∧ ∃ xs, H3 D = some (.lst xs) ∧ Evs H3 t xs ((ns.take i).map g))
    ⟨same_upd hD, [], upd_same, .nil⟩ (fun i H3 _ ⟨e, _⟩ => e.seq hl) ?_ ?_
  · rintro j y H3 hi ⟨s3, xs, eD, hE⟩
    obtain ⟨q, ht, rfl⟩ := map_at hi
    have hj : j < ns.length := (List.getElem?_eq_some_iff.mp ht).1
    refine ⟨hw _, hte q H3 _ (List.mem_of_getElem? ht) s3 fun H4 a s4 ea => ⟨_, s4 _ _ eD, ?_, fun b o eb => ?_, xs ++ [.ref a], upd_same, ?_⟩⟩
    · rw [hE.len, List.length_map, List.length_take]
      exact Nat.lt_of_le_of_lt (Nat.le_trans (Nat.min_le_left _ _) (by omega : j ≤ 1000)) (by decide)
    · rw [upd_ne (ne_of_none eb hD)]; exact s4 _ _ (s3 _ _ eb)
    · have tK : ∀ t' ys, H4 t' = some (.tup ys) → (upd H4 D (.lst (xs ++ [V.ref a]))) t' = some (.tup ys) := fun t' ys h => by
        rw [upd_ne (fun e => by rw [e, s4 _ _ eD] at h; cases h)]; exact h
      rw [take_more ht, List.map_append]
      exact (hE.mono fun t' ys h => tK _ _ (s4 _ _ h)).app (.cons ⟨a, rfl, tK _ _ ea⟩ .nil)
  · rintro H3 ⟨s3, xs, eD, hE⟩
    rw [List.length_map, List.take_length] at hE
    exact hd H3 s3 ⟨xs, eD, hE⟩
theorem wants_at {ws : List Bool} {i : Nat} {b : Bool} (h : ws[i]? = some b) : wants ws (i : Int) = b := by
  unfold wants
  rw [Int.toNat_natCast, List.getD_eq_getElem?_getD, h]; rfl
def spArrive (CC : Addr) : Sp := fun vs H Q _ => ∃ (p hp l : Addr) (sp t : Int) (c : Cs) (ws : List Bool), vs = [.ref p, .ref l] ∧ CoAt CC H p hp sp t c ∧ H l = some (.lst (ws.map V.bl)) ∧ ws.length ≤ 100 ∧ c.home.length ≤ 100 ∧ c.carr.length ≤ 100 ∧
  ∀ (H' : Hp) (e : Addr), Kp p H H' → CoAt CC H' p hp sp t (arrive ws c).1 → EvAt H' e t (arrive ws c).2 → Q (.ref e) H'
structure TxtCE (K : PySem.W.Frag) (CC fCE : Addr) (fdCE : FuncData) : Prop where
  m : Meth K CC "_can_enter" fCE
  F : Fun K "_can_enter" "Course._can_enter" sCanE fCE fdCE
  b : Binds K fdCE ["self", "comers"] []
abbrev nArr : List Str := ["self", "wishes", "comers", "person", "wish"]
section
variable {P : Program} {w : World} {K : PySem.W.Frag} {mg : Str → Option Value} {base : Heap} {CC CH fHL : Addr} {fdHL : FuncData} {fCE : Addr} {fdCE : FuncData}
theorem scArr : FnScope nArr ["self", "wishes"] (defScope sArrive) := ⟨rfl, rfl, rfl, by decide +kernel, rfl, by decide +kernel, by decide +kernel⟩
theorem ok_arrive {f : Addr} {fd : FuncData} (F : Fun K "_arrive" "Course._arrive" sArrive f fd) (C' : TxtCo K mg CC CH fHL fdHL) (CE' : TxtCE K CC fCE fdCE) : FnOk P w K mg base CX0 2 f fd ["self", "wishes"] (spArrive CC) := by
  have GC : FnOk P w K mg base CX0 1 fCE fdCE ["self", "comers"] (spCanE CC) := ok_cane CE'.F C'
  refine F.ok scArr (fun vs H Q E h => ?_) (fun cdv A outer s H vs Q E hr h => ?_)
  · obtain ⟨p, hp, l, sp, t, c, ws, rfl, _⟩ := h
    rfl
  · obtain ⟨p, hp, l, sp, t, c, ws, rfl, ⟨dx, aH, aW, aC, e1, e2, e3, e4⟩, el, hzw, hzh, hzc, k⟩ := h
    refine ⟨_, pss_cons (ps_set (i := 2) scArr.nd rfl (.inr rfl) (pe_lc (own := [("person", 3), ("wish", 4)]) (g := gTup K 2 (gCons (gName 3) (gCons (gName 4) gNil))) (by rfl) scArr.nd (pi_enum (by rfl) C'.enumerate (pa_cons (pv 1) pa_nil)) (blkOk_by (N := nArr) (sc := defScope sArrive) (by decide +kernel))
        (fun _ _ _ _ _ => by exact pg_tup rfl (pgs_cons (pg_name (i := 3) scArr.nd rfl (Or.inl rfl)) (pgs_cons (pg_name (i := 4) scArr.nd rfl (Or.inl rfl)) pgs_nil)))
        (fun _ _ _ _ _ => pts_one (PW.pt (pw_and (pt_val (pv 4)) (pw_and1 (pt_cmpR (op_notIn_seqK (K := K) rfl) (pv 3) (pe_fldK (K := K) rfl (pv 0) rfl) (by rfl)))))) (fun _ _ _ _ _ => pv 3)))
      (pss_cons (ps_fld (pv 0) (pe_lst pa_nil) rfl)
      (pss_cons (ps_if (pt_not (pt_truth (pv 2) (by intro _; rfl))) (pss_one (ps_ret (pe_lst pa_nil))) pss_nil)
      (pss_cons (ps_if (pt_not (pt_val (pe_meth (pv 0) C'.cl CE'.m GC hr CE'.b .nil pass0 (pa_cons (pv 2) pa_nil))))
        (pss_cons (ps_fld (pv 0) (pv 2) rfl) (pss_one (ps_ret (pe_lc (own := [("person", 3)]) (g := gName 3) (by rfl) scArr.nd (pi_list (pv 2)) (blkOk_by (N := nArr) (sc := defScope sArrive) (by decide +kernel))
          (fun _ _ _ _ _ => pg_name (i := 3) scArr.nd rfl (Or.inl rfl)) (fun _ _ _ _ _ => pts_nil) (fun _ _ _ _ _ => pe_tup (pa_cons (pe_fldK (K := K) rfl (pv 0) rfl) (pa_cons pe_str (pa_cons (pv 3) pa_nil)))))))) pss_nil)
      (pss_cons (ps_fld (pv 0) (pe_callB cr_sortedI (by rfl) C'.sorted (by decide +kernel) (pa_cons (pe_op op_cat (pe_fld (pv 0) rfl) (pv 2)) pa_nil)) rfl)
      (pss_cons (ps_fld (pv 0) (pe_lc (own := [("person", 3)]) (g := gName 3) (by rfl) scArr.nd (pi_list (pe_fld (pv 0) rfl)) (blkOk_by (N := nArr) (sc := defScope sArrive) (by decide +kernel))
          (fun _ _ _ _ _ => pg_name (i := 3) scArr.nd rfl (Or.inl rfl)) (fun _ _ _ _ _ => pts_one (pt_cmpR (op_notIn_seqK (K := K) rfl) (pv 3) (pv 2) (by rfl))) (fun _ _ _ _ _ => pv 3)) rfl)
      (pss_cons (ps_fld (pv 0) pe_bl rfl)
      (pss_one (ps_ret (pe_lc (own := [("person", 3)]) (g := gName 3) (by rfl) scArr.nd (pi_list (pv 2)) (blkOk_by (N := nArr) (sc := defScope sArrive) (by decide +kernel))
          (fun _ _ _ _ _ => pg_name (i := 3) scArr.nd rfl (Or.inl rfl)) (fun _ _ _ _ _ => pts_nil) (fun _ _ _ _ _ => pe_tup (pa_cons (pe_fldK (K := K) rfl (pv 0) rfl) (pa_cons pe_str (pa_cons (pv 3) pa_nil))))))))))))), ?_⟩
    -- who comes
    refine ⟨_, rfl, l, _, rfl, SqL.of el, fun D hD => lc_it walk_enum
      (fun i H3 => Same H H3 ∧ H3 D = some (.lst (((rg i).filter fun q => wants ws q && !decide (q ∈ c.home)).map V.int)))
      ⟨same_upd hD, upd_same⟩ (fun i H3 _ ⟨e, _⟩ => e.seq (SqL.of el)) ?_ ?_⟩
    · rintro i y H3 H4 hi ⟨s3, eD⟩ ⟨Tp, y1, y2, rfl, hTp, rfl, q1, q2⟩
      cases q1
      obtain ⟨b, eb, rfl⟩ := map_at q2
      rw [List.length_map] at hi
      have sT := same_upd (o := .tup [.int (i : Nat), .bl b]) hTp
      refine ⟨Tp, _, rfl, SqT.of upd_same, rfl, _, _, rfl, _, _, rfl, rfl, rfl, ?_⟩
      have s4 := s3.trans sT
      have eD2 := sT _ _ eD
      generalize upd H3 Tp (.tup [.int (i : Nat), .bl b]) = H4 at s4 eD2
      have hw := wants_at eb
      have no : (wants ws (i : Int) && !decide ((i : Int) ∈ c.home)) = false → Same H H4 ∧ H4 D = some (.lst (((rg (i + 1)).filter fun q => wants ws q && !decide (q ∈ c.home)).map V.int)) := fun hn => by
        rw [rg_succ, List.filter_append, filt0 (p := fun q => wants ws q && !decide (q ∈ c.home)) hn, List.append_nil]
        exact ⟨s4, eD2⟩
      refine ⟨_, rfl, _, rfl, ?_⟩
      cases hb : b with
      | false => exact iteF (iteF (no (by rw [hw, hb]; rfl)))
      | true =>
        refine iteT ⟨_, rfl, _, rfl, p, CC, dx, _, .ref aH, rfl, s4 _ _ e1, C'.cl, C'.nHm, by rfl, aH, _, rfl, .inl (SqL.of (s4 _ _ e2)), rfl, by simp [flatV], _, rfl, ?_⟩
        show (if (!inV (V.int (i : Nat)) (c.home.map V.int)) = true then _ else _)
        rw [any_mem]
        by_cases hm : (i : Int) ∈ c.home
        · rw [decide_eq_true hm]
          exact iteF (no (by rw [hw, hb, decide_eq_true hm]; rfl))
        · rw [decide_eq_false hm]
          refine iteT ⟨_, rfl, _, eD2, ?_, fun b' o eb' => ?_, ?_⟩
          · rw [List.length_map]
            have := List.length_filter_le (fun q => wants ws q && !decide (q ∈ c.home)) (rg i)
            rw [rg_len] at this
            exact Nat.lt_of_le_of_lt (by omega : _ ≤ 100) (by decide)
          · rw [upd_ne (ne_of_none eb' hD)]; exact s4 _ _ eb'
          · rw [upd_same, rg_succ, List.filter_append, filt1 (p := fun q => wants ws q && !decide (q ∈ c.home)) (by show (wants ws (i : Int) && !decide ((i : Int) ∈ c.home)) = true; rw [hw, hb, decide_eq_false hm]; rfl), List.map_append]; rfl
    rintro H1 ⟨s1, eD⟩
    rw [List.length_map] at eD
    have ecm : (rg ws.length).filter (fun q => wants ws q && !decide (q ∈ c.home)) = comersOf ws c.home := rfl
    rw [ecm] at eD
    have hcz : (comersOf ws c.home).length ≤ 100 := by
      have := List.length_filter_le (fun q => wants ws q && !decide (q ∈ c.home)) (rg ws.length)
      rw [rg_len, ecm] at this
      omega
    have nDp : D ≠ p := (ne_of_none e1 hD).symm
    have earr : arrive ws c = (if (comersOf ws c.home).isEmpty = true then ({ c with wait := [] }, []) else if canEnter c (comersOf ws c.home) = true then (⟨srt (c.home ++ comersOf ws c.home), [], c.carr.filter fun p => !decide (p ∈ comersOf ws c.home), false⟩, (comersOf ws c.home).map fun p => (wEnter, .int p)) else ({ c with wait := comersOf ws c.home }, (comersOf ws c.home).map fun p => (wWait, .int p))) := rfl
    generalize comersOf ws c.home = cm at eD hcz earr
    -- nobody waits yet
    refine ⟨Nat.zero_le _, fun l0 hl0 => ⟨_, rfl, p, CC, dx, _, rfl, same_upd hl0 _ _ (s1 _ _ e1), C'.cl, C'.nWt, by show 7 < 1000; decide, ?_⟩⟩
    rw [putF_wait]
    have s2 := s1.trans (same_upd (o := .lst []) hl0)
    have np : ∀ a xs, H a = some (.lst xs) → a ≠ p := fun a xs ha z => by rw [z, e1] at ha; cases ha
    have nl0 : l0 ≠ p := (ne_of_none (s1 _ _ e1) hl0).symm
    have k2 : Kp p H (upd (upd H1 l0 (.lst [])) p (.ins CC dx (cFields (.ref hp) (.int sp) (.int t) (.ref aH) (.ref l0) (.ref aC) (.bl c.opn)))) := (sKp s2).trans kp_upd
    have f1 : (upd (upd H1 l0 (.lst [])) p (.ins CC dx (cFields (.ref hp) (.int sp) (.int t) (.ref aH) (.ref l0) (.ref aC) (.bl c.opn)))) p = some (.ins CC dx (cFields (.ref hp) (.int sp) (.int t) (.ref aH) (.ref l0) (.ref aC) (.bl c.opn))) := upd_same
    have f2 := k2 _ _ (np _ _ e2) e2
    have f4 := k2 _ _ (np _ _ e4) e4
    have f3 : (upd (upd H1 l0 (.lst [])) p (.ins CC dx (cFields (.ref hp) (.int sp) (.int t) (.ref aH) (.ref l0) (.ref aC) (.bl c.opn)))) l0 = some (.lst []) := by rw [upd_ne nl0]; exact upd_same
    have fD : (upd (upd H1 l0 (.lst [])) p (.ins CC dx (cFields (.ref hp) (.int sp) (.int t) (.ref aH) (.ref l0) (.ref aC) (.bl c.opn)))) D = some (.lst (cm.map V.int)) := by rw [upd_ne nDp]; exact same_upd hl0 _ _ eD
    generalize upd (upd H1 l0 (.lst [])) p (.ins CC dx (cFields (.ref hp) (.int sp) (.int t) (.ref aH) (.ref l0) (.ref aC) (.bl c.opn))) = H2 at k2 f1 f2 f3 f4 fD
    have co2 : CoAt CC H2 p hp sp t { c with wait := [] } := ⟨dx, aH, l0, aC, f1, f2, f3, f4⟩
    clear hl0 hD eD s1 s2
    refine ⟨_, rfl, _, .inl ⟨_, SqL.of fD, rfl⟩, ?_⟩
    rw [empty_map]
    cases hem : cm.isEmpty with
    | true =>
      rw [if_pos hem] at earr
      refine iteT ⟨Nat.zero_le _, fun e he => ?_⟩
      have s3 := same_upd (o := .lst []) he
      exact k _ e (k2.trans (sKp s3)) (by rw [earr]; exact co2.mono s3) (by rw [earr]; exact ⟨[], upd_same, .nil⟩)
    | false =>
      rw [if_neg (by rw [hem]; decide)] at earr
      refine iteF ⟨_, rfl, p, dx, _, rfl, f1, by rfl, _, rfl, p, hp, D, sp, t, { c with wait := [] }, cm, rfl, co2, fD, by omega, fun H3 s3 => ⟨_, rfl, ?_⟩⟩
      have ece : canEnter { c with wait := [] } cm = canEnter c cm := rfl
      rw [ece]
      have k3 := k2.trans (sKp s3)
      have g1 := s3 _ _ f1
      have g2 := s3 _ _ f2
      have g3 := s3 _ _ f3
      have g4 := s3 _ _ f4
      have gD := s3 _ _ fD
      clear s3 co2 f1 f2 f3 f4 fD k2
      have npl : ∀ a xs, H3 a = some (.lst xs) → a ≠ p := fun a xs ha z => by rw [z, g1] at ha; cases ha
      cases hce : canEnter c cm with
      | false =>
        rw [if_neg (by rw [hce]; decide)] at earr
        refine iteT ⟨_, rfl, _, rfl, p, CC, dx, _, rfl, g1, C'.cl, C'.nWt, by show 7 < 1000; decide, ?_⟩
        rw [putF_wait]
        have kk : Kp p H3 (upd H3 p (.ins CC dx (cFields (.ref hp) (.int sp) (.int t) (.ref aH) (.ref D) (.ref aC) (.bl c.opn)))) := kp_upd
        have h1 : (upd H3 p (.ins CC dx (cFields (.ref hp) (.int sp) (.int t) (.ref aH) (.ref D) (.ref aC) (.bl c.opn)))) p = some (.ins CC dx (cFields (.ref hp) (.int sp) (.int t) (.ref aH) (.ref D) (.ref aC) (.bl c.opn))) := upd_same
        have hD := kk _ _ (npl _ _ gD) gD
        have co4 : CoAt CC (upd H3 p (.ins CC dx (cFields (.ref hp) (.int sp) (.int t) (.ref aH) (.ref D) (.ref aC) (.bl c.opn)))) p hp sp t { c with wait := cm } := ⟨dx, aH, D, aC, upd_same, kk _ _ (npl _ _ g2) g2, hD, kk _ _ (npl _ _ g4) g4⟩
        have k4 := k3.trans kk
        generalize upd H3 p (.ins CC dx (cFields (.ref hp) (.int sp) (.int t) (.ref aH) (.ref D) (.ref aC) (.bl c.opn))) = H4 at k4 h1 hD co4
        refine ⟨_, rfl, D, rfl, ⟨_, SqL.of hD⟩, fun B hB => ?_⟩
        refine comp_evs (i := 3) (vs := [3]) (t := t) (g := fun q => (wWait, .int q)) hB (SqL.of hD) (by omega) (fun q H5 Q5 hm s5 hq => ?_) (fun _ => rfl) (fun H5 s5 hE => ?_)
        · refine ⟨_, rfl, p, CC, dx, _, .int t, rfl, s5 _ _ h1, C'.cl, C'.nTk, by rfl, _, rfl, by show 3 ≤ sizeLine; decide, fun u hu => ?_⟩
          exact hq _ u (same_upd hu) upd_same
        · exact k _ B (k4.trans (sKp s5)) (by rw [earr]; exact co4.mono s5) (by rw [earr]; exact hE)
      | true =>
        rw [if_pos hce] at earr
        refine iteF ⟨_, rfl, p, CC, dx, _, .ref aH, rfl, g1, C'.cl, C'.nHm, by rfl, _, rfl, aH, D, _, _, rfl, rfl, g2, gD, ?_, fun m hm => ?_⟩
        · rw [List.length_map, List.length_map]; exact Nat.le_trans (by omega : _ ≤ 200) (by decide)
        have s4 := same_upd (o := .lst (c.home.map V.int ++ cm.map V.int)) hm
        refine ⟨m, c.home ++ cm, rfl, SqL.of (by rw [upd_same, List.map_append]), fun ns' m2 hp' hs' hm2 => ?_⟩
        rw [srt_uniq hp' hs']
        have s5 := s4.trans (same_upd (o := .lst ((srt (c.home ++ cm)).map V.int)) hm2)
        have em2 : (upd (upd H3 m (.lst (c.home.map V.int ++ cm.map V.int))) m2 (.lst ((srt (c.home ++ cm)).map V.int))) m2 = some (.lst ((srt (c.home ++ cm)).map V.int)) := upd_same
        have nm2 : m2 ≠ p := (ne_of_none (s4 _ _ g1) hm2).symm
        generalize upd (upd H3 m (.lst (c.home.map V.int ++ cm.map V.int))) m2 (.lst ((srt (c.home ++ cm)).map V.int)) = H4 at s5 em2
        refine ⟨_, rfl, p, CC, dx, _, rfl, s5 _ _ g1, C'.cl, C'.nHm, by show 7 < 1000; decide, ?_⟩
        rw [putF_home]
        have k5 : Kp p H (upd H4 p (.ins CC dx (cFields (.ref hp) (.int sp) (.int t) (.ref m2) (.ref l0) (.ref aC) (.bl c.opn)))) := (k3.trans (sKp s5)).trans kp_upd
        have h1 : (upd H4 p (.ins CC dx (cFields (.ref hp) (.int sp) (.int t) (.ref m2) (.ref l0) (.ref aC) (.bl c.opn)))) p = some (.ins CC dx (cFields (.ref hp) (.int sp) (.int t) (.ref m2) (.ref l0) (.ref aC) (.bl c.opn))) := upd_same
        have h2 : (upd H4 p (.ins CC dx (cFields (.ref hp) (.int sp) (.int t) (.ref m2) (.ref l0) (.ref aC) (.bl c.opn)))) m2 = some (.lst ((srt (c.home ++ cm)).map V.int)) := by rw [upd_ne nm2]; exact em2
        have h3 : (upd H4 p (.ins CC dx (cFields (.ref hp) (.int sp) (.int t) (.ref m2) (.ref l0) (.ref aC) (.bl c.opn)))) l0 = some (.lst []) := by rw [upd_ne (npl _ _ g3)]; exact s5 _ _ g3
        have h4 : (upd H4 p (.ins CC dx (cFields (.ref hp) (.int sp) (.int t) (.ref m2) (.ref l0) (.ref aC) (.bl c.opn)))) aC = some (.lst (c.carr.map V.int)) := by rw [upd_ne (npl _ _ g4)]; exact s5 _ _ g4
        have hD : (upd H4 p (.ins CC dx (cFields (.ref hp) (.int sp) (.int t) (.ref m2) (.ref l0) (.ref aC) (.bl c.opn)))) D = some (.lst (cm.map V.int)) := by rw [upd_ne nDp]; exact s5 _ _ gD
        generalize upd H4 p (.ins CC dx (cFields (.ref hp) (.int sp) (.int t) (.ref m2) (.ref l0) (.ref aC) (.bl c.opn))) = H5 at k5 h1 h2 h3 h4 hD
        clear s4 s5 em2 hm hm2 npl g1 g2 g3 g4 gD k3
        -- the keys of the comers are hung up
        refine ⟨_, rfl, p, CC, dx, _, .ref aC, rfl, h1, C'.cl, C'.nCr, by rfl, aC, rfl, ⟨_, SqL.of h4⟩, fun B hB => ?_⟩
        refine comp_filt (i := 3) (vs := [3]) (g := fun q => !decide (q ∈ cm)) hB (SqL.of h4) (by omega) (fun q H6 Qb hm s6 hq => ?_) (fun _ => rfl) (fun _ => rfl) (fun H6 s6 eB => ?_)
        · refine ⟨_, rfl, _, rfl, D, _, rfl, .inl (SqL.of (s6 _ _ hD)), rfl, by simp [flatV], _, rfl, ?_⟩
          show Qb (!inV (V.int q) (cm.map V.int)) H6
          rw [any_mem]
          exact hq H6 (Same.refl H6)
        have nB : B ≠ p := (ne_of_none h1 hB).symm
        refine ⟨_, rfl, p, CC, dx, _, rfl, s6 _ _ h1, C'.cl, C'.nCr, by show 7 < 1000; decide, ?_⟩
        rw [putF_carr]
        refine ⟨_, rfl, p, CC, dx, _, rfl, upd_same, C'.cl, C'.nUn, by show 7 < 1000; decide, ?_⟩
        rw [putF_opn, upd_upd]
        have npl : ∀ a xs, H6 a = some (.lst xs) → a ≠ p := fun a xs ha z => by rw [z, s6 _ _ h1] at ha; cases ha
        have k7 : Kp p H (upd H6 p (.ins CC dx (cFields (.ref hp) (.int sp) (.int t) (.ref m2) (.ref l0) (.ref B) (.bl false)))) := (k5.trans (sKp s6)).trans kp_upd
        have co7 : CoAt CC (upd H6 p (.ins CC dx (cFields (.ref hp) (.int sp) (.int t) (.ref m2) (.ref l0) (.ref B) (.bl false)))) p hp sp t ⟨srt (c.home ++ cm), [], c.carr.filter fun p => !decide (p ∈ cm), false⟩ :=
          ⟨dx, m2, l0, B, upd_same, by rw [upd_ne (npl _ _ (s6 _ _ h2))]; exact s6 _ _ h2, by rw [upd_ne (npl _ _ (s6 _ _ h3))]; exact s6 _ _ h3, by rw [upd_ne nB]; exact eB⟩
        have i1 : (upd H6 p (.ins CC dx (cFields (.ref hp) (.int sp) (.int t) (.ref m2) (.ref l0) (.ref B) (.bl false)))) p = some (.ins CC dx (cFields (.ref hp) (.int sp) (.int t) (.ref m2) (.ref l0) (.ref B) (.bl false))) := upd_same
        have iD : (upd H6 p (.ins CC dx (cFields (.ref hp) (.int sp) (.int t) (.ref m2) (.ref l0) (.ref B) (.bl false)))) D = some (.lst (cm.map V.int)) := by rw [upd_ne nDp]; exact s6 _ _ hD
        generalize upd H6 p (.ins CC dx (cFields (.ref hp) (.int sp) (.int t) (.ref m2) (.ref l0) (.ref B) (.bl false))) = H7 at k7 co7 i1 iD
        refine ⟨_, rfl, D, rfl, ⟨_, SqL.of iD⟩, fun B2 hB2 => ?_⟩
        refine comp_evs (i := 3) (vs := [3]) (t := t) (g := fun q => (wEnter, .int q)) hB2 (SqL.of iD) (by omega) (fun q H8 Q8 hm s8 hq => ?_) (fun _ => rfl) (fun H8 s8 hE => ?_)
        · refine ⟨_, rfl, p, CC, dx, _, .int t, rfl, s8 _ _ i1, C'.cl, C'.nTk, by rfl, _, rfl, by show 3 ≤ sizeLine; decide, fun u hu => ?_⟩
          exact hq _ u (same_upd hu) upd_same
        · exact k _ B2 (k7.trans (sKp s8)) (by rw [earr]; exact co7.mono s8) (by rw [earr]; exact hE)
end
end Dk

set_option Elab.async false
set_option linter.all false
set_option maxRecDepth 100000
set_option maxHeartbeats 2000000
namespace Dk
open PySem PySem.Spec PyProof.Rows L2 TL
theorem ix_listK {X : Cx} {K : PySem.W.Frag} (h : X.K = K) : IxR X (rIxL K) := by
  subst h; exact ix_list
/-- the course at p, its lists apart from ev -/
structure CoAp (CC : Addr) (H : Hp) (p hp : Addr) (sp t : Int) (c : Cs) (ev : Addr) : Prop where
  ex : ∃ dx aH aW aC, H p = some (.ins CC dx (cFields (.ref hp) (.int sp) (.int t) (.ref aH) (.ref aW) (.ref aC) (.bl c.opn))) ∧ H aH = some (.lst (c.home.map V.int)) ∧ H aW = some (.lst (c.wait.map V.int)) ∧ H aC = some (.lst (c.carr.map V.int)) ∧ aH ≠ ev ∧ aW ≠ ev ∧ aC ≠ ev
theorem CoAp.at {CC : Addr} {H : Hp} {p hp : Addr} {sp t : Int} {c : Cs} {ev : Addr} (h : CoAp CC H p hp sp t c ev) : CoAt CC H p hp sp t c := by
  obtain ⟨dx, aH, aW, aC, e1, e2, e3, e4, _⟩ := h
  exact ⟨dx, aH, aW, aC, e1, e2, e3, e4⟩
theorem lst_apart {H : Hp} {a ev x : Addr} {ns : List Int} {xs : List V} (h : H a = some (.lst (ns.map V.int))) (he : H ev = some (.lst (.ref x :: xs))) : a ≠ ev := fun e => by
  rw [e, he] at h
  cases ns with
  | nil => cases h
  | cons n ns => cases h
theorem CoAt.ap {CC : Addr} {H : Hp} {p hp : Addr} {sp t : Int} {c : Cs} {ev x : Addr} {xs : List V} (h : CoAt CC H p hp sp t c) (he : H ev = some (.lst (.ref x :: xs))) : CoAp CC H p hp sp t c ev := by
  obtain ⟨dx, aH, aW, aC, e1, e2, e3, e4⟩ := h
  exact ⟨dx, aH, aW, aC, e1, e2, e3, e4, lst_apart e2 he, lst_apart e3 he, lst_apart e4 he⟩
theorem CoAp.kp {CC : Addr} {H H' : Hp} {p hp : Addr} {sp t : Int} {c : Cs} {ev : Addr} {xs : List V} (h : CoAp CC H p hp sp t c ev) (k : Kp ev H H') (he : H ev = some (.lst xs)) : CoAp CC H' p hp sp t c ev := by
  obtain ⟨dx, aH, aW, aC, e1, e2, e3, e4, n1, n2, n3⟩ := h
  exact ⟨dx, aH, aW, aC, k _ _ (fun z => by rw [z, he] at e1; cases e1) e1, k _ _ n1 e2, k _ _ n2 e3, k _ _ n3 e4, n1, n2, n3⟩
theorem CoAp.mono {CC : Addr} {H H' : Hp} {p hp : Addr} {sp t : Int} {c : Cs} {ev : Addr} (h : CoAp CC H p hp sp t c ev) (k : Same H H') : CoAp CC H' p hp sp t c ev := by
  obtain ⟨dx, aH, aW, aC, e1, e2, e3, e4, n1, n2, n3⟩ := h
  exact ⟨dx, aH, aW, aC, k _ _ e1, k _ _ e2, k _ _ e3, k _ _ e4, n1, n2, n3⟩
theorem HoAt.kpl {K : PySem.W.Frag} {CH : Addr} {ev hp : Addr} {H H' : Hp} {xs : List V} {h : Hd} (x : HoAt K CH H hp h) (k : Kp ev H H') (e : H ev = some (.lst xs)) : HoAt K CH H' hp h := by
  obtain ⟨⟨d, aT, aC, aR, ys, e1, e2, e3, e4, e5⟩⟩ := x
  exact ⟨⟨d, aT, aC, aR, ys, k _ _ (fun z => by rw [z, e] at e1; cases e1) e1, k.sqT e e2, k.sqT e e3, k.sqT e e4, e5.mono fun t ys h => k _ _ (fun z => by rw [z, e] at h; cases h) h⟩⟩
def Kp2 (p ev : Addr) (H H' : Hp) : Prop := ∀ b o, b ≠ p → b ≠ ev → H b = some o → H' b = some o
theorem Kp2.trans {p ev : Addr} {H H1 H2 : Hp} (a : Kp2 p ev H H1) (b : Kp2 p ev H1 H2) : Kp2 p ev H H2 := fun x o n1 n2 e => b x o n1 n2 (a x o n1 n2 e)
theorem Kp2.same {p ev : Addr} {H H' : Hp} (s : Same H H') : Kp2 p ev H H' := fun x o _ _ e => s x o e
theorem Kp2.p {p ev : Addr} {H H' : Hp} (k : Kp p H H') : Kp2 p ev H H' := fun x o n _ e => k x o n e
theorem Kp2.e {p ev : Addr} {H H' : Hp} (k : Kp ev H H') : Kp2 p ev H H' := fun x o _ n e => k x o n e
theorem Evs.snoc {H : Hp} {t : Int} {xs : List V} {evs : List Ev} {a : Addr} {e : Ev} (h : Evs H t xs evs) (ha : H a = some (.tup [.int t, .str e.1, e.2])) : Evs H t (xs ++ [.ref a]) (evs ++ [e]) := h.app (.cons ⟨a, rfl, ha⟩ .nil)
theorem at_last {l : List Int} {q : Int} (h : l.getLast? = some q) : atI (l.map V.int) (-1) = some (.int q) := by
  have hn : l ≠ [] := fun e => by rw [e] at h; cases h
  have hl : 0 < l.length := List.length_pos_iff.mpr hn
  have e1 : ixN (l.map V.int).length (-1) = some (l.length - 1) := by
    unfold ixN
    rw [List.length_map, if_neg (by decide), if_pos (by omega)]
    congr 1
    omega
  unfold atI
  rw [e1]
  show (l.map V.int)[l.length - 1]? = _
  rw [List.getElem?_map, ← List.getLast?_eq_getElem?, h]; rfl
def lvAcc (h : Hd) (t : Int) (ws : List Bool) (c : Cs) (i : Nat) : Cs × Bool × List Ev := ((leaversOf ws c).take i).foldl (leaveStep h t) (stay ws c, false, [])
theorem lvAcc_succ {h : Hd} {t : Int} {ws : List Bool} {c : Cs} {i : Nat} {q : Int} (e : (leaversOf ws c)[i]? = some q) : lvAcc h t ws c (i + 1) = leaveStep h t (lvAcc h t ws c i) q := by
  unfold lvAcc
  rw [take_more e, List.foldl_append]; rfl
theorem take_len (ks : Int) (c : Cs) (q : Int) : (takeKey ks c q).1.carr.length ≤ c.carr.length + 1 := by
  unfold takeKey
  split
  · exact Nat.le_succ _
  · show (srt (c.carr ++ [q])).length ≤ _
    rw [srt_len, List.length_append]; exact Nat.le_refl _
theorem step_len (h : Hd) (t : Int) (a : Cs × Bool × List Ev) (q : Int) : (leaveStep h t a q).1.carr.length ≤ a.1.carr.length + 1 ∧ (leaveStep h t a q).2.2.length ≤ a.2.2.length + 2 := by
  have := take_len h.ks a.1 q
  unfold leaveStep
  split
  · split
    · refine ⟨this, ?_⟩; show (a.2.2 ++ [_] ++ [_]).length ≤ _; rw [List.length_append, List.length_append]; exact Nat.le_refl _
    · refine ⟨this, ?_⟩; show (a.2.2 ++ [_]).length ≤ _; rw [List.length_append]; exact Nat.le_succ _
  · refine ⟨Nat.le_succ _, ?_⟩; show (a.2.2 ++ [_]).length ≤ _; rw [List.length_append]; exact Nat.le_succ _
end Dk

set_option Elab.async false
set_option linter.all false
set_option maxRecDepth 100000
set_option maxHeartbeats 4000000
namespace Dk
open PySem PySem.Spec PyProof.Rows L2 TL
structure TxtDp (K : PySem.W.Frag) (CC fTh fTk fCl : Addr) (fdTh fdTk fdCl : FuncData) : Prop where
  mTh : Meth K CC "_thinks_of_key" fTh
  FTh : Fun K "_thinks_of_key" "Course._thinks_of_key" sThinks fTh fdTh
  bTh : Binds K fdTh ["self", "person"] []
  tk : TxtTk K CC fTk fdTk
  mCl : Meth K CC "_close" fCl
  FCl : Fun K "_close" "Course._close" sClose fCl fdCl
  bCl : Binds K fdCl ["self", "person"] []
def spDepart (K : PySem.W.Frag) (CC CH : Addr) : Sp := fun vs H Q _ => ∃ (p hp l : Addr) (t : Int) (c : Cs) (h : Hd) (ws : List Bool), vs = [.ref p, .ref l] ∧ CoAt CC H p hp ((per h.ts : Nat) : Int) t c ∧ HoAt K CH H hp h ∧ hp ≠ p ∧ 1 ≤ per h.ts ∧ H l = some (.lst (ws.map V.bl)) ∧
  (∀ q ∈ c.home, 0 ≤ q ∧ q < (ws.length : Int)) ∧ c.home.length ≤ 100 ∧ c.carr.length ≤ 100 ∧
  ∀ (H' : Hp) (e : Addr), Kp p H H' → CoAt CC H' p hp ((per h.ts : Nat) : Int) t (depart h t ws c).1 → EvAt H' e t (depart h t ws c).2 → (depart h t ws c).2.length ≤ 201 → (∃ a, HomeAt H' p a ∧ H a = none) → Q (.ref e) H'
abbrev nDep : List Str := ["self", "wishes", "leavers", "events", "taken", "person"]
theorem Evs.head {H : Hp} {t : Int} {xs : List V} {evs : List Ev} (h : Evs H t xs evs) (n : 1 ≤ xs.length) : ∃ y ys, xs = V.ref y :: ys := by
  cases h with
  | nil => simp at n
  | cons r _ =>
    obtain ⟨a, e, _⟩ := r
    exact ⟨a, _, by rw [e]⟩
section
variable {P : Program} {w : World} {K : PySem.W.Frag} {mg : Str → Option Value} {base : Heap} {CC CH fHL : Addr} {fdHL : FuncData} {fTh fTk fCl : Addr} {fdTh fdTk fdCl : FuncData}
theorem scDep : FnScope nDep ["self", "wishes"] (defScope sDepart) := ⟨rfl, rfl, rfl, by decide +kernel, rfl, by decide +kernel, by decide +kernel⟩
theorem wants_ix {ws : List Bool} {q : Int} (h0 : 0 ≤ q) (h1 : q < (ws.length : Int)) : atI (ws.map V.bl) q = some (.bl (wants ws q)) := by
  obtain ⟨n, rfl⟩ := Int.eq_ofNat_of_zero_le h0
  have hn : n < ws.length := by omega
  have e : ws[n]? = some ws[n] := List.getElem?_eq_getElem hn
  rw [wants_at e]
  exact atI_nat (by rw [List.getElem?_map, e]; rfl)
theorem ok_depart {f : Addr} {fd : FuncData} (F : Fun K "_depart" "Course._depart" sDepart f fd) (C' : TxtCo K mg CC CH fHL fdHL) (T : TxtA mg) (D' : TxtDp K CC fTh fTk fCl fdTh fdTk fdCl) : FnOk P w K mg base CX0 3 f fd ["self", "wishes"] (spDepart K CC CH) := by
  have GTh : FnOk P w K mg base CX0 1 fTh fdTh ["self", "person"] (spThink K CC CH) := ok_think D'.FTh C'
  have GTk : FnOk P w K mg base CX0 1 fTk fdTk ["self", "person"] (spTake K CC CH) := ok_take D'.tk.F C' T
  have GCl : FnOk P w K mg base CX0 2 fCl fdCl ["self", "person"] (spClose K CC CH) := ok_close D'.FCl C' T D'.tk
  refine F.ok scDep (fun vs H Q E h => ?_) (fun cdv A outer s H vs Q E hr h => ?_)
  · obtain ⟨p, hp, l, t, c, h, ws, rfl, _⟩ := h
    rfl
  · obtain ⟨p, hp, l, t, c, h, ws, rfl, ⟨dx, aH, aW, aC, e1, e2, e3, e4⟩, hho, npq, hper, el, hrg, hzh, hzc, k⟩ := h
    have hr1 : Room 1 (A.deeper (envOfC (Str.ofString "Course._depart") (defScope sDepart) s.heap.objs.size f cdv)) := hr.mono (by decide)
    refine ⟨_, pss_cons (ps_setLc (own := [("person", 5)]) (i := 2) (g := gName 5) (by rfl) scDep.nd rfl rfl (sw_true rfl rfl (by rfl) (by rfl)) (pi_list (pe_fld (pv 0) rfl)) (blkOk_by (N := nDep) (sc := defScope sDepart) (by decide +kernel))
        (fun _ _ _ _ _ => pg_name (i := 5) scDep.nd rfl (Or.inl rfl)) (fun _ _ _ _ _ => pts_one (pt_not (pt_val (pe_ix (ix_listK (K := K) rfl) (pv 1) (pv 5) (fun _ _ => rfl))))) (fun _ _ _ _ _ => pv 5))
      (pss_cons (ps_fld (pv 0) (pe_lc (own := [("person", 5)]) (g := gName 5) (by rfl) scDep.nd (pi_list (pe_fld (pv 0) rfl)) (blkOk_by (N := nDep) (sc := defScope sDepart) (by decide +kernel))
        (fun _ _ _ _ _ => pg_name (i := 5) scDep.nd rfl (Or.inl rfl)) (fun _ _ _ _ _ => pts_one (pt_val (pe_ix (ix_listK (K := K) rfl) (pv 1) (pv 5) (fun _ _ => rfl)))) (fun _ _ _ _ _ => pv 5)) rfl)
      (pss_cons (ps_set (i := 3) scDep.nd rfl (.inl rfl) (pe_lst pa_nil))
      (pss_cons (ps_set (i := 4) scDep.nd rfl (.inl rfl) pe_bl)
      (pss_cons (ps_for PassesOwn.never rfl (pi_list (pv 2)) (pg_name (i := 5) scDep.nd rfl (.inl rfl))
        (pss_cons (ps_expr (pe_bm PySem.F.plainAttrs_list PySem.F.slot_list_append PySem.F.type_list_append mt_append (pv 3) (pa_cons (pe_tup (pa_cons (pe_fld (pv 0) rfl) (pa_cons pe_str (pa_cons (pv 5) pa_nil)))) pa_nil)))
        (pss_one (ps_if (PW.pt (pw_and (pt_val (pe_meth (pv 0) C'.cl D'.mTh GTh hr1 D'.bTh .nil pass0 (pa_cons (pv 5) pa_nil))) (pw_and1 (pt_val (pe_meth (pv 0) C'.cl D'.tk.m GTk hr1 D'.tk.b .nil pass0 (pa_cons (pv 5) pa_nil))))))
          (pss_cons (ps_expr (pe_bm PySem.F.plainAttrs_list PySem.F.slot_list_append PySem.F.type_list_append mt_append (pv 3) (pa_cons (pe_tup (pa_cons (pe_fld (pv 0) rfl) (pa_cons pe_str (pa_cons (pv 5) pa_nil)))) pa_nil)))
            (pss_one (ps_set (i := 4) scDep.nd rfl (.inl rfl) pe_bl))) pss_nil))))
      (pss_cons (ps_if (PW.pt (pw_and (pt_truth (pv 2) (by intro _; rfl)) (pw_and (pt_not (pt_truth (pe_fld (pv 0) rfl) (by intro _; rfl))) (pw_and1 (pt_not (pt_val (pv 4)))))))
          (pss_one (ps_expr (pe_bm PySem.F.plainAttrs_list PySem.F.slot_list_append PySem.F.type_list_append mt_append (pv 3) (pa_cons (pe_meth (pv 0) C'.cl D'.mCl GCl hr D'.bCl .nil pass0 (pa_cons (pe_ix ix_list (pv 2) (pe_un un_neg pe_int) (fun _ _ => rfl)) pa_nil)) pa_nil)))) pss_nil)
      (pss_one (ps_ret (pv 3)))))))), ?_⟩
    -- who leaves
    refine ⟨_, rfl, p, CC, dx, _, .ref aH, rfl, e1, C'.cl, C'.nHm, by rfl, aH, rfl, ⟨_, SqL.of e2⟩, fun D hD => ?_⟩
    refine comp_filt (i := 5) (vs := [5]) (g := fun q => !wants ws q) hD (SqL.of e2) (by omega) (fun q H2 Qb hm s2 hq => ?_) (fun _ => rfl) (fun _ => rfl) (fun H1 s1 eD => ?_)
    · obtain ⟨q0, q1⟩ := hrg q hm
      exact ⟨_, rfl, _, rfl, l, _, _, _, rfl, rfl, SqL.of (s2 _ _ el), wants_ix q0 q1, _, rfl, hq H2 (Same.refl H2)⟩
    have elv : c.home.filter (fun q => !wants ws q) = leaversOf ws c := rfl
    rw [elv] at eD
    have hlz : (leaversOf ws c).length ≤ 100 := by
      have := List.length_filter_le (fun q => !wants ws q) c.home
      rw [elv] at this; omega
    -- who stays
    refine ⟨_, rfl, p, CC, dx, _, .ref aH, rfl, s1 _ _ e1, C'.cl, C'.nHm, by rfl, aH, rfl, ⟨_, SqL.of (s1 _ _ e2)⟩, fun B hB => ?_⟩
    refine comp_filt (i := 5) (vs := [5]) (g := fun q => wants ws q) hB (SqL.of (s1 _ _ e2)) (by omega) (fun q H2 Qb hm s2 hq => ?_) (fun _ => rfl) (fun _ => rfl) (fun H2 s2 eB => ?_)
    · obtain ⟨q0, q1⟩ := hrg q hm
      exact ⟨_, rfl, _, rfl, l, _, _, _, rfl, rfl, SqL.of (s2 _ _ (s1 _ _ el)), wants_ix q0 q1, _, rfl, hq H2 (Same.refl H2)⟩
    have est : c.home.filter (fun q => wants ws q) = (stay ws c).home := rfl
    rw [est] at eB
    have s12 := s1.trans s2
    have nB : B ≠ p := (ne_of_none (s1 _ _ e1) hB).symm
    have nD : D ≠ p := (ne_of_none e1 hD).symm
    refine ⟨_, rfl, p, CC, dx, _, rfl, s12 _ _ e1, C'.cl, C'.nHm, by show 7 < 1000; decide, ?_⟩
    rw [putF_home]
    have np : ∀ a xs, H a = some (.lst xs) → a ≠ p := fun a xs ha z => by rw [z, e1] at ha; cases ha
    have k3 : Kp p H (upd H2 p (.ins CC dx (cFields (.ref hp) (.int ((per h.ts : Nat) : Int)) (.int t) (.ref B) (.ref aW) (.ref aC) (.bl c.opn)))) := (sKp s12).trans kp_upd
    have co3 : CoAt CC (upd H2 p (.ins CC dx (cFields (.ref hp) (.int ((per h.ts : Nat) : Int)) (.int t) (.ref B) (.ref aW) (.ref aC) (.bl c.opn)))) p hp ((per h.ts : Nat) : Int) t (stay ws c) :=
      ⟨dx, B, aW, aC, upd_same, by rw [upd_ne nB]; exact eB, k3 _ _ (np _ _ e3) e3, k3 _ _ (np _ _ e4) e4⟩
    have ho3 := hho.kp k3 e1 npq
    have eD3 : (upd H2 p (.ins CC dx (cFields (.ref hp) (.int ((per h.ts : Nat) : Int)) (.int t) (.ref B) (.ref aW) (.ref aC) (.bl c.opn)))) D = some (.lst ((leaversOf ws c).map V.int)) := by rw [upd_ne nD]; exact s2 _ _ eD
    have nHD : H D = none := hD
    have hm3 : HomeAt (upd H2 p (.ins CC dx (cFields (.ref hp) (.int ((per h.ts : Nat) : Int)) (.int t) (.ref B) (.ref aW) (.ref aC) (.bl c.opn)))) p B := ⟨_, _, _, upd_same, by rfl⟩
    have nHB : H B = none := s1.free hB
    generalize upd H2 p (.ins CC dx (cFields (.ref hp) (.int ((per h.ts : Nat) : Int)) (.int t) (.ref B) (.ref aW) (.ref aC) (.bl c.opn))) = H3 at k3 co3 ho3 eD3 hm3
    clear s2 s12 eD eB hD
    -- nothing has happened yet
    refine ⟨Nat.zero_le _, fun ev hev => ?_⟩
    have s4 := same_upd (o := .lst []) hev
    have nEp : ev ≠ p := fun z => by
      obtain ⟨_, _, _, _, g, _⟩ := co3
      rw [z] at hev; rw [hev] at g; cases g
    have nED : ev ≠ D := (ne_of_none eD3 hev).symm
    have nHe : H ev = none := by
      cases z : H ev with
      | none => rfl
      | some o => have := k3 _ _ nEp z; rw [hev] at this; cases this
    have co4 : CoAp CC (upd H3 ev (.lst [])) p hp ((per h.ts : Nat) : Int) t (stay ws c) ev := by
      obtain ⟨d, b1, b2, b3, g1, g2, g3, g4⟩ := co3
      exact ⟨d, b1, b2, b3, s4 _ _ g1, s4 _ _ g2, s4 _ _ g3, s4 _ _ g4, ne_of_none g2 hev, ne_of_none g3 hev, ne_of_none g4 hev⟩
    have ho4 := ho3.mono s4
    have hm4 := hm3.mono s4
    have k4 : Kp2 p ev H (upd H3 ev (.lst [])) := (Kp2.p k3).trans (Kp2.same s4)
    have eD4 := s4 _ _ eD3
    have eE4 : (upd H3 ev (.lst [])) ev = some (.lst []) := upd_same
    generalize upd H3 ev (.lst []) = H4 at k4 co4 ho4 eD4 eE4 hm4
    clear s4 co3 ho3 eD3 hev k3 hm3
    refine ⟨_, rfl, D, rfl, ⟨_, SqL.of eD4⟩, for_list (K := K) (a := D) (xs := (leaversOf ws c).map V.int)
      (fun i σ H' => ∃ (v5 : Option V) (xs : List V), σ = [some (.ref p), some (.ref l), some (.ref D), some (.ref ev), some (.bl (lvAcc h t ws c i).2.1), v5] ∧ Kp2 p ev H H' ∧ CoAp CC H' p hp ((per h.ts : Nat) : Int) t (lvAcc h t ws c i).1 ev ∧ HoAt K CH H' hp h ∧ H' D = some (.lst ((leaversOf ws c).map V.int)) ∧
        H' ev = some (.lst xs) ∧ Evs H' t xs (lvAcc h t ws c i).2.2 ∧ (lvAcc h t ws c i).1.carr.length ≤ 100 + i ∧ (lvAcc h t ws c i).2.2.length ≤ 2 * i ∧ i ≤ (lvAcc h t ws c i).2.2.length ∧ (lvAcc h t ws c i).1.home = (stay ws c).home ∧ HomeAt H' p B)
      ⟨_, [], rfl, k4, co4, ho4, eD4, eE4, .nil, hzc, Nat.le_refl _, Nat.le_refl _, rfl, hm4⟩ (fun i σ H' _ ⟨_, _, _, _, _, _, eD', _⟩ => SqL.of eD') ?_ ?_⟩
    · rintro i y σ H5 hi ⟨v5, xs, rfl, k5, co5, ho5, eD5, eE5, hE5, hz5, hy5, hx5, hh5, hm5⟩
      obtain ⟨q, eq, rfl⟩ := map_at hi
      have hi100 : i < 100 := by have := (List.getElem?_eq_some_iff.mp eq).1; omega
      have hq : 0 ≤ q ∧ q < (ws.length : Int) := hrg q ((List.mem_filter.mp (List.mem_of_getElem? eq)).1)
      have esu := lvAcc_succ (h := h) (t := t) eq
      have hlen5 := hE5.len
      obtain ⟨d5, b1, b2, b3, g1, g2, g3, g4, m1, m2, m3⟩ := id co5
      generalize lvAcc h t ws c i = acc at co5 hE5 hz5 hy5 hx5 hh5 esu g1 g2 g3 g4 hlen5
      refine ⟨_, rfl, .inl ⟨rfl, _, SqL.of eE5⟩, _, rfl, p, CC, d5, _, .int t, rfl, g1, C'.cl, C'.nTk, by rfl, _, rfl, by show 3 ≤ sizeLine; decide, fun u hu => ?_⟩
      have sU := same_upd (o := .tup [.int t, .str (Str.ofString "leave"), .int q]) hu
      have eu : (upd H5 u (.tup [.int t, .str (Str.ofString "leave"), .int q])) u = some (.tup [.int t, .str (Str.ofString "leave"), .int q]) := upd_same
      have co6 := co5.mono sU
      have hm6 := hm5.mono sU
      have ho6 := ho5.mono sU
      have eD6 := sU _ _ eD5
      have eE6 := sU _ _ eE5
      have hE6 := hE5.mono fun a ys z => sU _ _ z
      have k6 := k5.trans (Kp2.same sU)
      have nDe : D ≠ ev := nED.symm
      generalize upd H5 u (.tup [.int t, .str (Str.ofString "leave"), .int q]) = H6 at eu co6 ho6 eD6 eE6 hE6 k6 hm6
      clear co5 ho5 eD5 eE5 hE5 k5 sU hu g1 g2 g3 g4 m1 m2 m3 d5 b1 b2 b3
      refine ⟨ev, _, _, rfl, rfl, eE6, ?_, ?_⟩
      · rw [hlen5]; exact Nat.lt_of_le_of_lt (by omega : acc.2.2.length ≤ 200) (by decide)
      have kE : Kp ev H6 (upd H6 ev (.lst (xs ++ [.ref u]))) := kp_upd
      have tK : ∀ a ys, H6 a = some (.tup ys) → (upd H6 ev (.lst (xs ++ [.ref u]))) a = some (.tup ys) := fun a ys z => kE _ _ (fun z' => by rw [z', eE6] at z; cases z) z
      have co7 := co6.kp kE eE6
      have hm7 := hm6.kpl kE eE6
      have ho7 := ho6.kpl kE eE6
      have eD7 := kE _ _ nDe eD6
      have eE7 : (upd H6 ev (.lst (xs ++ [.ref u]))) ev = some (.lst (xs ++ [.ref u])) := upd_same
      have hE7 := (hE6.mono tK).snoc (e := (wLeave, .int q)) (tK _ _ eu)
      have k7 := k6.trans (Kp2.e kE)
      generalize upd H6 ev (.lst (xs ++ [.ref u])) = H7 at co7 ho7 eD7 eE7 hE7 k7 hm7
      clear co6 ho6 eD6 eE6 hE6 k6 kE tK eu
      obtain ⟨y0, ys, exs⟩ := hE7.head (by rw [List.length_append]; exact Nat.le_add_left ..)
      rw [exs] at eE7
      have hlen7 : (V.ref y0 :: ys).length = acc.2.2.length + 1 := by rw [← exs, List.length_append, hlen5]; rfl
      rw [exs] at hE7
      generalize exs7 : V.ref y0 :: ys = xs7 at eE7 hE7 hlen7
      obtain ⟨d7, b1, b2, b3, g1, g2, g3, g4, m1, m2, m3⟩ := id co7
      -- does this person think of a key?
      refine ⟨_, rfl, p, d7, _, rfl, g1, by rfl, _, rfl, p, hp, t, acc.1, h, q, rfl, co7.at, ho7, hper, fun H8 s8 => ⟨_, rfl, ?_⟩⟩
      have co8 := co7.mono s8
      have hm8 := hm7.mono s8
      have ho8 := ho7.mono s8
      have eD8 := s8 _ _ eD7
      have eE8 := s8 _ _ eE7
      have hE8 := hE7.mono fun a ys z => s8 _ _ z
      have k8 := k7.trans (Kp2.same s8)
      clear co7 ho7 eD7 eE7 hE7 k7 s8 g1 g2 g3 g4 m1 m2 m3 d7 b1 b2 b3
      cases hth : thinks h t q with
      | false =>
        have est' : leaveStep h t acc q = (acc.1, acc.2.1, acc.2.2 ++ [(wLeave, .int q)]) := by unfold leaveStep; rw [if_neg (by rw [hth]; decide)]
        refine iteF (iteF ⟨_, xs7, by rw [esu, est']; rfl, k8, by rw [esu, est']; exact co8, ho8, eD8, eE8, by rw [esu, est']; exact hE8, by rw [esu, est']; show acc.1.carr.length ≤ _; omega, ?_, ?_, by rw [esu, est']; exact hh5, hm8⟩)
        · rw [esu, est']; show (acc.2.2 ++ [_]).length ≤ _; rw [List.length_append]; show _ + 1 ≤ _; omega
        · rw [esu, est']; show _ ≤ (acc.2.2 ++ [_]).length; rw [List.length_append]; show _ ≤ _ + 1; omega
      | true =>
        obtain ⟨d8, b1, b2, b3, g1, g2, g3, g4, m1, m2, m3⟩ := id co8
        refine iteT ⟨_, rfl, p, d8, _, rfl, g1, by rfl, _, rfl, p, hp, _, t, acc.1, h, q, rfl, co8.at, ho8, npq, by omega, fun H9 k9 co9 m9 => ⟨_, rfl, ?_⟩⟩
        have hm9 := m9 _ hm8
        have np9 : ∀ a ys, H8 a = some (.tup ys) → H9 a = some (.tup ys) := fun a ys z => k9 _ _ (fun z' => by rw [z', g1] at z; cases z) z
        have ho9 := ho8.kp k9 g1 npq
        have eD9 := k9 _ _ nD eD8
        have eE9 := k9 _ _ nEp eE8
        have hE9 := hE8.mono np9
        have k79 := k8.trans (Kp2.p k9)
        have co9' : CoAp CC H9 p hp ((per h.ts : Nat) : Int) t (takeKey h.ks acc.1 q).1 ev := co9.ap (x := y0) (xs := ys) (by rw [eE9, ← exs7])
        have htl := take_len h.ks acc.1 q
        have hth' : (takeKey h.ks acc.1 q).1.home = acc.1.home := by unfold takeKey; split <;> rfl
        clear co8 ho8 eD8 eE8 hE8 k8 g1 g2 g3 g4 m1 m2 m3 d8 b1 b2 b3 co9 k9 np9
        cases htk : (takeKey h.ks acc.1 q).2 with
        | false =>
          have est' : leaveStep h t acc q = ((takeKey h.ks acc.1 q).1, acc.2.1, acc.2.2 ++ [(wLeave, .int q)]) := by unfold leaveStep; rw [if_pos hth, if_neg (by rw [htk]; decide)]
          refine iteF ⟨_, xs7, by rw [esu, est']; rfl, k79, by rw [esu, est']; exact co9', ho9, eD9, eE9, by rw [esu, est']; exact hE9, by rw [esu, est']; show (takeKey h.ks acc.1 q).1.carr.length ≤ _; omega, ?_, ?_, by rw [esu, est']; exact hth'.trans hh5, hm9⟩
          · rw [esu, est']; show (acc.2.2 ++ [_]).length ≤ _; rw [List.length_append]; show _ + 1 ≤ _; omega
          · rw [esu, est']; show _ ≤ (acc.2.2 ++ [_]).length; rw [List.length_append]; show _ ≤ _ + 1; omega
        | true =>
          have est' : leaveStep h t acc q = ((takeKey h.ks acc.1 q).1, true, acc.2.2 ++ [(wLeave, .int q)] ++ [(wTake, .int q)]) := by unfold leaveStep; rw [if_pos hth, if_pos htk]
          obtain ⟨d9, b1, b2, b3, g1, g2, g3, g4, m1, m2, m3⟩ := id co9'
          refine iteT ⟨_, rfl, .inl ⟨rfl, _, SqL.of eE9⟩, _, rfl, p, CC, d9, _, .int t, rfl, g1, C'.cl, C'.nTk, by rfl, _, rfl, by show 3 ≤ sizeLine; decide, fun u2 hu2 => ?_⟩
          have sU := same_upd (o := .tup [.int t, .str (Str.ofString "take"), .int q]) hu2
          have eu2 : (upd H9 u2 (.tup [.int t, .str (Str.ofString "take"), .int q])) u2 = some (.tup [.int t, .str (Str.ofString "take"), .int q]) := upd_same
          have coA := co9'.mono sU
          have hmA := hm9.mono sU
          have hoA := ho9.mono sU
          have eDA := sU _ _ eD9
          have eEA := sU _ _ eE9
          have hEA := hE9.mono fun a ys z => sU _ _ z
          have kA := k79.trans (Kp2.same sU)
          generalize upd H9 u2 (.tup [.int t, .str (Str.ofString "take"), .int q]) = HA at eu2 coA hoA eDA eEA hEA kA hmA
          refine ⟨ev, _, _, rfl, rfl, eEA, ?_, ?_⟩
          · rw [hlen7]; exact Nat.lt_of_le_of_lt (by omega : acc.2.2.length + 1 ≤ 201) (by decide)
          have kE : Kp ev HA (upd HA ev (.lst (xs7 ++ [.ref u2]))) := kp_upd
          have tK : ∀ a ys, HA a = some (.tup ys) → (upd HA ev (.lst (xs7 ++ [.ref u2]))) a = some (.tup ys) := fun a ys z => kE _ _ (fun z' => by rw [z', eEA] at z; cases z) z
          refine ⟨_, xs7 ++ [.ref u2], by rw [esu, est']; rfl, kA.trans (Kp2.e kE), by rw [esu, est']; exact coA.kp kE eEA, hoA.kpl kE eEA, kE _ _ nDe eDA, upd_same, by rw [esu, est']; exact (hEA.mono tK).snoc (e := (wTake, .int q)) (tK _ _ eu2), by rw [esu, est']; show (takeKey h.ks acc.1 q).1.carr.length ≤ _; omega, ?_, ?_, by rw [esu, est']; exact hth'.trans hh5, hmA.kpl kE eEA⟩
          · rw [esu, est']; show (acc.2.2 ++ [_] ++ [_]).length ≤ _; rw [List.length_append, List.length_append]; show _ + 1 + 1 ≤ _; omega
          · rw [esu, est']; show _ ≤ (acc.2.2 ++ [_] ++ [_]).length; rw [List.length_append, List.length_append]; show _ ≤ _ + 1 + 1; omega
    · rintro σ H5 ⟨v5, xs, rfl, k5, co5, ho5, eD5, eE5, hE5, hz5, hy5, hx5, hh5, hm5⟩
      rw [List.length_map] at co5 hE5 hz5 hy5 hx5 hh5
      have eall : lvAcc h t ws c (leaversOf ws c).length = leaveAll h t ws c := by unfold lvAcc leaveAll; rw [List.take_length]
      rw [List.length_map, eall]
      rw [eall] at co5 hE5 hz5 hy5 hx5 hh5
      have ed : depart h t ws c = match (leaversOf ws c).getLast? with
        | some q => if ((stay ws c).home.isEmpty && !(leaveAll h t ws c).2.1) = true then ((closeC h.ks (leaveAll h t ws c).1 q).1, (leaveAll h t ws c).2.2 ++ [(closeC h.ks (leaveAll h t ws c).1 q).2]) else ((leaveAll h t ws c).1, (leaveAll h t ws c).2.2)
        | none => ((leaveAll h t ws c).1, (leaveAll h t ws c).2.2) := rfl
      generalize leaveAll h t ws c = acc at co5 hE5 hz5 hy5 hx5 hh5 ed
      have hfin : ∀ H', Kp2 p ev H H' → Kp p H H' := fun H' kk x o n e => kk x o n (fun z => by rw [z, nHe] at e; cases e) e
      obtain ⟨d5, b1, b2, b3, g1, g2, g3, g4, m1, m2, m3⟩ := id co5
      have done : depart h t ws c = (acc.1, acc.2.2) → Q (.ref ev) H5 := fun e => k H5 ev (hfin _ k5) (by rw [e]; exact co5.at) (by rw [e]; exact ⟨xs, eE5, hE5⟩) (by rw [e]; show acc.2.2.length ≤ 201; omega) ⟨B, hm5, nHB⟩
      refine ⟨_, rfl, _, .inl ⟨_, SqL.of eD5, rfl⟩, ?_⟩
      rw [empty_map]
      cases hgl : (leaversOf ws c).getLast? with
      | none =>
        have hnil : leaversOf ws c = [] := List.getLast?_eq_none_iff.mp hgl
        rw [hgl] at ed
        rw [hnil]
        exact iteF (iteF ⟨_, rfl, done ed⟩)
      | some q =>
        have hne : (leaversOf ws c).isEmpty = false := by
          cases z : leaversOf ws c with
          | nil => rw [z] at hgl; cases hgl
          | cons a b => rfl
        rw [hgl] at ed
        dsimp only at ed
        rw [hne]
        refine iteT ⟨_, rfl, p, CC, d5, _, .ref b1, rfl, g1, C'.cl, C'.nHm, by rfl, _, .inl ⟨_, SqL.of g2, rfl⟩, ?_⟩
        rw [empty_map, hh5]
        cases hse : (stay ws c).home.isEmpty with
        | false =>
          rw [hse, Bool.false_and, if_neg (by decide)] at ed
          exact iteF (iteF ⟨_, rfl, done ed⟩)
        | true =>
          refine iteT ⟨_, rfl, _, rfl, ?_⟩
          cases htk : acc.2.1 with
          | true =>
            rw [hse, htk, if_neg (by decide)] at ed
            exact iteF ⟨_, rfl, done ed⟩
          | false =>
            rw [hse, htk, if_pos (by decide)] at ed
            refine iteT ⟨_, rfl, .inl ⟨rfl, _, SqL.of eE5⟩, _, rfl, p, d5, _, rfl, g1, by rfl, _, rfl, _, rfl, D, _, _, _, rfl, rfl, SqL.of eD5, at_last hgl, p, hp, _, t, acc.1, h, q, rfl, co5.at, ho5, npq, by omega, fun H6 e6 k6 co6 m6 he6 => ?_⟩
            have np6 : ∀ a ys, H5 a = some (.tup ys) → H6 a = some (.tup ys) := fun a ys z => k6 _ _ (fun z' => by rw [z', g1] at z; cases z) z
            have eE6 := k6 _ _ nEp eE5
            have hE6 := hE5.mono np6
            refine ⟨ev, _, _, rfl, rfl, eE6, ?_, ?_⟩
            · rw [hE5.len]; exact Nat.lt_of_le_of_lt (by omega : acc.2.2.length ≤ 200) (by decide)
            have kE : Kp ev H6 (upd H6 ev (.lst (xs ++ [.ref e6]))) := kp_upd
            have tK : ∀ a ys, H6 a = some (.tup ys) → (upd H6 ev (.lst (xs ++ [.ref e6]))) a = some (.tup ys) := fun a ys z => kE _ _ (fun z' => by rw [z', eE6] at z; cases z) z
            have hE7 := (hE6.mono tK).snoc (e := (closeC h.ks acc.1 q).2) (tK _ _ he6)
            have hlv : 1 ≤ (leaversOf ws c).length := by
              cases z : leaversOf ws c with
              | nil => rw [z] at hne; cases hne
              | cons a b => simp
            obtain ⟨y0, ys, exs⟩ := hE5.head (by rw [hE5.len]; omega)
            have co7 := ((co6.ap (x := y0) (xs := ys) (by rw [eE6, exs])).kp kE eE6).at
            refine ⟨_, rfl, k _ ev (hfin _ ((k5.trans (Kp2.p k6)).trans (Kp2.e kE))) (by rw [ed]; exact co7) (by rw [ed]; exact ⟨_, upd_same, hE7⟩) (by rw [ed]; show (acc.2.2 ++ [_]).length ≤ 201; rw [List.length_append]; show _ + 1 ≤ _; omega) ⟨B, (m6 _ hm5).kpl kE eE6, nHB⟩⟩
end
end Dk

set_option Elab.async false
set_option linter.all false
set_option maxRecDepth 100000
set_option maxHeartbeats 2000000
namespace Dk
open PySem PySem.Spec PyProof.Rows L2 TL
/-- all of l are persons of a house of n -/
def InN (n : Nat) (l : List Int) : Prop := ∀ q ∈ l, 0 ≤ q ∧ q < (n : Int)
theorem wishes_len (ts : List Str) (t : Int) : (wishes ts t).length = ts.length := by unfold wishes; rw [List.length_map]
theorem comers_in (ws : List Bool) (home : List Int) : InN ws.length (comersOf ws home) := fun q hq => rg_mem.mp (List.mem_filter.mp hq).1
theorem comers_len (ws : List Bool) (home : List Int) : (comersOf ws home).length ≤ ws.length := by
  have := List.length_filter_le (fun p => wants ws p && !decide (p ∈ home)) (rg ws.length)
  rw [rg_len] at this; exact this
theorem arrive_in {n : Nat} {ws : List Bool} {c : Cs} (hn : ws.length = n) (h : InN n c.home) : InN n (arrive ws c).1.home ∧ (arrive ws c).1.home.length ≤ c.home.length + ws.length ∧ (arrive ws c).1.carr.length ≤ c.carr.length := by
  have hc := comers_in ws c.home
  have hl := comers_len ws c.home
  unfold arrive
  dsimp only
  generalize comersOf ws c.home = cm at hc hl
  split
  · exact ⟨h, Nat.le_add_right _ _, Nat.le_refl _⟩
  · split
    · refine ⟨fun q hq => ?_, ?_, List.length_filter_le _ _⟩
      · rcases List.mem_append.mp ((srt_perm _).mem_iff.mp hq) with hq | hq
        · exact h q hq
        · rw [← hn]; exact hc q hq
      · rw [srt_len, List.length_append]; omega
    · exact ⟨h, Nat.le_add_right _ _, Nat.le_refl _⟩
def spPer (K : PySem.W.Frag) (CH : Addr) : Sp := fun vs H Q _ => ∃ (p : Addr) (h : Hd), vs = [.ref p] ∧ HoAt K CH H p h ∧ Tabs h.ts ∧ ∀ H', Same H H' → Q (.int ((per h.ts : Nat) : Int)) H'
def spPersons (K : PySem.W.Frag) (CH : Addr) : Sp := fun vs H Q _ => ∃ (p : Addr) (h : Hd), vs = [.ref p] ∧ HoAt K CH H p h ∧ ∀ H', Same H H' → Q (.int ((h.ts.length : Nat) : Int)) H'
structure TxtHp (K : PySem.W.Frag) (mg : Str → Option Value) (CH fCP pPe gPe pPs gPs : Addr) (fdCP fdPe fdPs : FuncData) : Prop where
  gCP : mg "common_period" = some (.ref fCP)
  FCP : Fun K "common_period" "common_period" sPeriod fCP fdCP
  bCP : Binds K fdCP ["tables"] []
  poPe : PropOf K CH "period" pPe gPe
  FPe : Fun K "period" "House.period" sPeriodP gPe fdPe
  bPe : Binds K fdPe ["self"] []
  poPs : PropOf K CH "persons" pPs gPs
  FPs : Fun K "persons" "House.persons" sPersonsP gPs fdPs
  bPs : Binds K fdPs ["self"] []
def spCInit (K : PySem.W.Frag) (CC CH : Addr) : Sp := fun vs H Q _ => ∃ (p dx hp : Addr) (h : Hd), vs = [.ref p, .ref hp] ∧ H p = some (.ins CC dx []) ∧ HoAt K CH H hp h ∧ hp ≠ p ∧ Tabs h.ts ∧ h.ts.length ≤ 6 ∧
  ∀ H', Kp p H H' → CoAt CC H' p hp ((per h.ts : Nat) : Int) (-1) ⟨rg h.ts.length, [], [], false⟩ → (∃ a, HomeAt H' p a ∧ H a = none) → Q .non H'
/-- a scene -/
abbrev Sc := Int × List Int × List Int × Bool
def scOf (n : Int) (t : Int) (c : Cs) : Sc := (t % n, c.wait, c.carr, c.opn)
def ScAt (H : Hp) (a : Addr) (x : Sc) : Prop := ∃ b d, H a = some (.tup [.int x.1, .ref b, .ref d, .bl x.2.2.2]) ∧ H b = some (.tup (x.2.1.map V.int)) ∧ H d = some (.tup (x.2.2.1.map V.int))
theorem ScAt.mono {H H' : Hp} {a : Addr} {x : Sc} (h : ScAt H a x) (s : ∀ t ys, H t = some (.tup ys) → H' t = some (.tup ys)) : ScAt H' a x := by
  obtain ⟨b, d, e1, e2, e3⟩ := h
  exact ⟨b, d, s _ _ e1, s _ _ e2, s _ _ e3⟩
def spScene (CC : Addr) : Sp := fun vs H Q _ => ∃ (p hp : Addr) (sp t : Int) (c : Cs), vs = [.ref p] ∧ CoAt CC H p hp sp t c ∧ 0 < sp ∧ ∀ H' a, Same H H' → ScAt H' a (scOf sp t c) → Q (.ref a) H'
def spAdv (K : PySem.W.Frag) (CC CH : Addr) : Sp := fun vs H Q _ => ∃ (p hp : Addr) (t : Int) (c : Cs) (h : Hd), vs = [.ref p] ∧ CoAt CC H p hp ((per h.ts : Nat) : Int) t c ∧ HoAt K CH H hp h ∧ hp ≠ p ∧ Tabs h.ts ∧ h.ts.length ≤ 6 ∧ InN h.ts.length c.home ∧ c.home.length ≤ 50 ∧ c.carr.length ≤ 50 ∧
  ∀ (H' : Hp) (e : Addr), Kp p H H' → CoAt CC H' p hp ((per h.ts : Nat) : Int) (t + 1) (adv h (t + 1) c).1 → EvAt H' e (t + 1) (adv h (t + 1) c).2 → (∃ a, HomeAt H' p a ∧ H a = none) → Q (.ref e) H'
structure TxtAd (K : PySem.W.Frag) (CC fAr fDp fCE fTh fTk fCl : Addr) (fdAr fdDp fdCE fdTh fdTk fdCl : FuncData) : Prop where
  mAr : Meth K CC "_arrive" fAr
  FAr : Fun K "_arrive" "Course._arrive" sArrive fAr fdAr
  bAr : Binds K fdAr ["self", "wishes"] []
  mDp : Meth K CC "_depart" fDp
  FDp : Fun K "_depart" "Course._depart" sDepart fDp fdDp
  bDp : Binds K fdDp ["self", "wishes"] []
  ce : TxtCE K CC fCE fdCE
  dp : TxtDp K CC fTh fTk fCl fdTh fdTk fdCl
section
variable {P : Program} {w : World} {K : PySem.W.Frag} {mg : Str → Option Value} {base : Heap} {CC CH fHL : Addr} {fdHL : FuncData} {fAr fDp fCE fTh fTk fCl : Addr} {fdAr fdDp fdCE fdTh fdTk fdCl : FuncData} {fCP pPe gPe pPs gPs : Addr} {fdCP fdPe fdPs : FuncData}
theorem ok_per (HP : TxtHp K mg CH fCP pPe gPe pPs gPs fdCP fdPe fdPs) (C' : TxtCo K mg CC CH fHL fdHL) (T : TxtA mg) (TC : TxtC mg) : FnOk P w K mg base CX0 2 gPe fdPe ["self"] (spPer K CH) := by
  have GP : FnOk P w K mg base CX0 1 fCP fdCP ["tables"] (spPeriod K) := ok_period HP.FCP T TC
  refine HP.FPe.ok (N := ["self"]) ⟨rfl, rfl, rfl, by decide +kernel, rfl, by decide +kernel, by decide +kernel⟩ (fun vs H Q E h => ?_) (fun cdv A outer s H vs Q E hr h => ?_)
  · obtain ⟨p, h, rfl, _⟩ := h
    rfl
  · obtain ⟨p, h, rfl, ⟨⟨d, bT, bC, bR, xs, g1, g2, g3, g4, g5⟩⟩, hT, k⟩ := h
    refine ⟨_, pss_one (ps_ret (pe_call GP hr rfl HP.gCP HP.FCP.kp HP.bCP .nil pass0 (pa_cons (pe_fld (pv 0) rfl) pa_nil))), ?_⟩
    exact ⟨_, rfl, p, CH, d, _, _, rfl, g1, C'.clH, C'.nT, hf_tables _ _ _ _, bT, h.ts, rfl, g2, hT, k H (Same.refl H)⟩
theorem ok_persons (HP : TxtHp K mg CH fCP pPe gPe pPs gPs fdCP fdPe fdPs) (C' : TxtCo K mg CC CH fHL fdHL) (T : TxtA mg) : FnOk P w K mg base CX0 1 gPs fdPs ["self"] (spPersons K CH) := by
  refine HP.FPs.ok (N := ["self"]) ⟨rfl, rfl, rfl, by decide +kernel, rfl, by decide +kernel, by decide +kernel⟩ (fun vs H Q E h => ?_) (fun cdv A outer s H vs Q E hr h => ?_)
  · obtain ⟨p, h, rfl, _⟩ := h
    rfl
  · obtain ⟨p, h, rfl, ⟨⟨d, bT, bC, bR, xs, g1, g2, g3, g4, g5⟩⟩, k⟩ := h
    refine ⟨_, pss_one (ps_ret (pe_callB call_len_seq (by rfl) T.len PySem.boot_len (pa_cons (pe_fld (pv 0) rfl) pa_nil))), ?_⟩
    refine ⟨_, rfl, p, CH, d, _, _, rfl, g1, C'.clH, C'.nT, hf_tables _ _ _ _, bT, _, rfl, .inr g2, ?_⟩
    rw [List.length_map]
    exact k H (Same.refl H)
theorem scScene : FnScope ["self"] ["self"] (defScope sScene) := ⟨rfl, rfl, rfl, by decide +kernel, rfl, by decide +kernel, by decide +kernel⟩
theorem ok_scene {f : Addr} {fd : FuncData} (F : Fun K "scene" "Course.scene" sScene f fd) (C' : TxtCo K mg CC CH fHL fdHL) : FnOk P w K mg base CX0 1 f fd ["self"] (spScene CC) := by
  refine F.ok scScene (fun vs H Q E h => ?_) (fun cdv A outer s H vs Q E hr h => ?_)
  · obtain ⟨p, hp, sp, t, c, rfl, _⟩ := h
    rfl
  · obtain ⟨p, hp, sp, t, c, rfl, ⟨dx, aH, aW, aC, e1, e2, e3, e4⟩, h0, k⟩ := h
    refine ⟨_, pss_one (ps_ret (pe_tup (pa_cons (pe_op op_mod (pe_fld (pv 0) rfl) (pe_fld (pv 0) rfl)) (pa_cons (pe_callTy call_tuple_of (by rfl) C'.tuple (by decide +kernel) (pa_cons (pe_fld (pv 0) rfl) pa_nil)) (pa_cons (pe_callTy call_tuple_of (by rfl) C'.tuple (by decide +kernel) (pa_cons (pe_fld (pv 0) rfl) pa_nil)) (pa_cons (pe_fld (pv 0) rfl) pa_nil)))))), ?_⟩
    refine ⟨_, rfl, p, CC, dx, _, .int t, rfl, e1, C'.cl, C'.nTk, by rfl, _, rfl, p, CC, dx, _, .int sp, rfl, e1, C'.cl, C'.nSp, by rfl, _, _, rfl, rfl, h0, ?_⟩
    refine ⟨_, rfl, p, CC, dx, _, .ref aW, rfl, e1, C'.cl, C'.nWt, by rfl, aW, _, rfl, .inl ⟨SqL.of e3, fun a1 ha1 => ?_⟩⟩
    have s1 := same_upd (o := .tup (c.wait.map V.int)) ha1
    have f1 : (upd H a1 (.tup (c.wait.map V.int))) a1 = some (.tup (c.wait.map V.int)) := upd_same
    generalize upd H a1 (.tup (c.wait.map V.int)) = H1 at s1 f1
    refine ⟨_, rfl, p, CC, dx, _, .ref aC, rfl, s1 _ _ e1, C'.cl, C'.nCr, by rfl, aC, _, rfl, .inl ⟨SqL.of (s1 _ _ e4), fun a2 ha2 => ?_⟩⟩
    have s2 := same_upd (o := .tup (c.carr.map V.int)) ha2
    have f2 : (upd H1 a2 (.tup (c.carr.map V.int))) a2 = some (.tup (c.carr.map V.int)) := upd_same
    generalize upd H1 a2 (.tup (c.carr.map V.int)) = H2 at s2 f2
    refine ⟨_, rfl, p, CC, dx, _, .bl c.opn, rfl, s2 _ _ (s1 _ _ e1), C'.cl, C'.nUn, by rfl, by show 4 ≤ sizeLine; decide, fun u hu => ?_⟩
    have s3 := same_upd (o := .tup [.int (t % sp), .ref a1, .ref a2, .bl c.opn]) hu
    exact k _ u ((s1.trans s2).trans s3) ⟨a1, a2, upd_same, s3 _ _ (s2 _ _ f1), s3 _ _ f2⟩
theorem scCInit : FnScope ["self", "house"] ["self", "house"] (defScope sCInit) := ⟨rfl, rfl, rfl, by decide +kernel, rfl, by decide +kernel, by decide +kernel⟩
theorem rgV_rg (n : Nat) : rgV 0 (n : Int) = (rg n).map V.int := by
  unfold rgV rg
  rw [List.map_map, Int.sub_zero, Int.toNat_natCast]
  exact List.map_congr_left fun k _ => by show V.int (0 + (k : Int)) = V.int (k : Int); rw [Int.zero_add]
theorem ok_cinit {f : Addr} {fd : FuncData} (F : Fun K "__init__" "Course.__init__" sCInit f fd) (C' : TxtCo K mg CC CH fHL fdHL) (HP : TxtHp K mg CH fCP pPe gPe pPs gPs fdCP fdPe fdPs) (T : TxtA mg) (TC : TxtC mg) : FnOk P w K mg base CX0 4 f fd ["self", "house"] (spCInit K CC CH) := by
  have GPe : FnOk P w K mg base CX0 2 gPe fdPe ["self"] (spPer K CH) := ok_per HP C' T TC
  have GPs : FnOk P w K mg base CX0 1 gPs fdPs ["self"] (spPersons K CH) := ok_persons HP C' T
  refine F.ok scCInit (fun vs H Q E h => ?_) (fun cdv A outer s H vs Q E hr h => ?_)
  · obtain ⟨p, dx, hp, h, rfl, _⟩ := h
    rfl
  · obtain ⟨p, dx, hp, h, rfl, e1, hho, npq, hT, h6, k⟩ := h
    have hr2 : Room 2 (A.deeper (envOfC (Str.ofString "Course.__init__") (defScope sCInit) s.heap.objs.size f cdv)) := hr.mono (by decide)
    refine ⟨_, pss_cons (ps_fld (pv 0) (pv 1) rfl) (pss_cons (ps_fld (pv 0) (pe_prop (pv 1) C'.clH HP.poPe GPe hr HP.bPe .nil pass0 rfl) rfl) (pss_cons (ps_fld (pv 0) (pe_un un_neg pe_int) rfl)
      (pss_cons (ps_fld (pv 0) (pe_listRg rfl (by rfl) C'.list (prg_1 (by rfl) T.range (pe_prop (pv 1) C'.clH HP.poPs GPs hr2 HP.bPs .nil pass0 rfl))) rfl)
      (pss_cons (ps_fld (pv 0) (pe_lst pa_nil) rfl) (pss_cons (ps_fld (pv 0) (pe_lst pa_nil) rfl) (pss_one (ps_fld (pv 0) pe_bl rfl))))))), ?_⟩
    have k1 : Kp p H (upd H p (.ins CC dx (putF "house" (.ref hp) []))) := kp_upd
    have ho1 := hho.kp k1 e1 npq
    obtain ⟨d, _, _, _, _, g1, _⟩ := id ho1.ex.ex
    refine ⟨_, rfl, _, rfl, p, CC, dx, _, rfl, e1, C'.cl, C'.nHo, by show 0 < 1000; decide, ?_⟩
    refine ⟨_, rfl, hp, d, _, rfl, g1, hp, h, rfl, ho1, hT, fun H2 s2 => ?_⟩
    have e2 := s2 _ _ (upd_same (H := H) (a := p) (o := .ins CC dx (putF "house" (.ref hp) [])))
    refine ⟨_, rfl, p, CC, dx, _, rfl, e2, C'.cl, C'.nSp, by show 1 < 1000; decide, ?_⟩
    refine ⟨_, rfl, _, rfl, p, CC, dx, _, rfl, upd_same, C'.cl, C'.nTk, by show 2 < 1000; decide, ?_⟩
    rw [upd_upd]
    have ho2 := ho1.mono s2
    generalize eF : putF "tick" (V.int (-1)) (putF "span" (V.int ((per h.ts : Nat) : Int)) (putF "house" (V.ref hp) [])) = fs
    have k3 : Kp p H2 (upd H2 p (.ins CC dx fs)) := kp_upd
    have ho3 := ho2.kp k3 e2 npq
    obtain ⟨d3, _, _, _, _, g3, _⟩ := id ho3.ex.ex
    refine ⟨_, rfl, hp, d3, _, rfl, g3, hp, h, rfl, ho3, fun H4 s4 => ⟨_, rfl, RgOk.of_le (by decide) (by omega) (by decide) (by omega), fun q hq => ?_⟩⟩
    rw [rgV_rg]
    have e4 := s4 _ _ (upd_same (H := H2) (a := p) (o := .ins CC dx fs))
    have s5 := same_upd (o := .lst ((rg h.ts.length).map V.int)) hq
    have eq5 : (upd H4 q (.lst ((rg h.ts.length).map V.int))) q = some (.lst ((rg h.ts.length).map V.int)) := upd_same
    have e5 := s5 _ _ e4
    have kA : Kp p H (upd H4 q (.lst ((rg h.ts.length).map V.int))) := (((k1.trans (sKp s2)).trans k3).trans (sKp s4)).trans (sKp s5)
    have nq : q ≠ p := (ne_of_none e4 hq).symm
    generalize upd H4 q (.lst ((rg h.ts.length).map V.int)) = H5 at s5 eq5 e5 kA
    refine ⟨_, rfl, p, CC, dx, _, rfl, e5, C'.cl, C'.nHm, by rw [← eF]; show 3 < 1000; decide, ?_⟩
    refine ⟨Nat.zero_le _, fun q2 hq2 => ⟨_, rfl, p, CC, dx, _, rfl, same_upd hq2 _ _ upd_same, C'.cl, C'.nWt, by rw [← eF]; show 4 < 1000; decide, ?_⟩⟩
    have n2 : q2 ≠ p := (ne_of_none upd_same hq2).symm
    have nq2 : q ≠ q2 := ne_of_none (by rw [upd_ne nq]; exact eq5) hq2
    refine ⟨Nat.zero_le _, fun q3 hq3 => ⟨_, rfl, p, CC, dx, _, rfl, same_upd hq3 _ _ upd_same, C'.cl, C'.nCr, by rw [← eF]; show 5 < 1000; decide, ?_⟩⟩
    have n3 : q3 ≠ p := (ne_of_none upd_same hq3).symm
    have nq3 : q ≠ q3 := ne_of_none (by rw [upd_ne nq, upd_ne nq2, upd_ne nq]; exact eq5) hq3
    have n23 : q2 ≠ q3 := ne_of_none (by rw [upd_ne n2]; exact upd_same) hq3
    refine ⟨_, rfl, p, CC, dx, _, rfl, upd_same, C'.cl, C'.nUn, by rw [← eF]; show 6 < 1000; decide, ?_⟩
    rw [← eF]
    have nHq : H q = none := by
      cases z : H q with
      | none => rfl
      | some o =>
        have := ((((k1.trans (sKp s2)).trans k3).trans (sKp s4))) _ _ nq z
        rw [hq] at this; cases this
    refine k _ (fun b o nb hb => ?_) ⟨dx, q, q2, q3, upd_same, ?_, ?_, ?_⟩ ⟨q, ⟨_, _, _, upd_same, by rfl⟩, nHq⟩
    · have := kA _ _ nb hb
      have nb2 : b ≠ q2 := ne_of_none (by rw [upd_ne nb]; exact this) hq2
      have nb3 : b ≠ q3 := ne_of_none (by rw [upd_ne nb, upd_ne nb2, upd_ne nb]; exact this) hq3
      rw [upd_ne nb, upd_ne nb, upd_ne nb3, upd_ne nb, upd_ne nb2, upd_ne nb]; exact this
    · rw [upd_ne nq, upd_ne nq, upd_ne nq3, upd_ne nq, upd_ne nq2, upd_ne nq]; exact eq5
    · rw [upd_ne n2, upd_ne n2, upd_ne n23, upd_ne n2]; exact upd_same
    · rw [upd_ne n3, upd_ne n3]; exact upd_same
abbrev nAdv : List Str := ["self", "wishes", "table", "arrivals"]
theorem scAdv : FnScope nAdv ["self"] (defScope sAdv) := ⟨rfl, rfl, rfl, by decide +kernel, rfl, by decide +kernel, by decide +kernel⟩
theorem ok_adv {f : Addr} {fd : FuncData} (F : Fun K "advance" "Course.advance" sAdv f fd) (C' : TxtCo K mg CC CH fHL fdHL) (T : TxtA mg) (AD : TxtAd K CC fAr fDp fCE fTh fTk fCl fdAr fdDp fdCE fdTh fdTk fdCl) : FnOk P w K mg base CX0 4 f fd ["self"] (spAdv K CC CH) := by
  have GH : FnOk P w K mg base CX0 1 fHL fdHL ["table", "tick"] spHome := ok_home C' T
  have GA : FnOk P w K mg base CX0 2 fAr fdAr ["self", "wishes"] (spArrive CC) := ok_arrive AD.FAr C' AD.ce
  have GD : FnOk P w K mg base CX0 3 fDp fdDp ["self", "wishes"] (spDepart K CC CH) := ok_depart AD.FDp C' T AD.dp
  refine F.ok scAdv (fun vs H Q E h => ?_) (fun cdv A outer s H vs Q E hr h => ?_)
  · obtain ⟨p, hp, t, c, h, rfl, _⟩ := h
    rfl
  · obtain ⟨p, hp, t, c, h, rfl, ⟨dx, aH, aW, aC, e1, e2, e3, e4⟩, hho, npq, hT, h6, hin, hzh, hzc, k⟩ := h
    have hr1 : Room 1 (A.deeper (envOfC (Str.ofString "Course.advance") (defScope sAdv) s.heap.objs.size f cdv)) := hr.mono (by decide)
    have hr2 : Room 2 (A.deeper (envOfC (Str.ofString "Course.advance") (defScope sAdv) s.heap.objs.size f cdv)) := hr.mono (by decide)
    refine ⟨_, pss_cons (ps_fldaug (pv 0) pe_int in_add)
      (pss_cons (ps_setLc (own := [("table", 2)]) (i := 1) (g := gName 2) (by rfl) scAdv.nd rfl rfl (sw_true rfl rfl (by rfl) (by rfl)) (pi_tup (pe_fld (pe_fld (pv 0) rfl) rfl)) (blkOk_by (N := nAdv) (sc := defScope sAdv) (by decide +kernel))
        (fun _ _ _ _ _ => pg_name (i := 2) scAdv.nd rfl (Or.inl rfl)) (fun _ _ _ _ _ => pts_nil) (fun _ _ _ _ _ => pe_call GH hr1 rfl C'.gHL C'.FHL.kp C'.bHL .nil pass0 (pa_cons (pv 2) (pa_cons (pe_fldK (K := K) rfl (pv 0) rfl) pa_nil))))
      (pss_cons (ps_set (i := 3) scAdv.nd rfl (.inl rfl) (pe_meth (pv 0) C'.cl AD.mAr GA hr2 AD.bAr .nil pass0 (pa_cons (pv 1) pa_nil)))
      (pss_one (ps_ret (pe_op op_cat (pv 3) (pe_meth (pv 0) C'.cl AD.mDp GD hr AD.bDp .nil pass0 (pa_cons (pv 1) pa_nil))))))), ?_⟩
    refine ⟨_, rfl, p, CC, dx, _, .int t, rfl, e1, C'.cl, C'.nTk, by rfl, _, _, rfl, rfl, dx, _, e1, by show 7 < 1000; decide, ?_⟩
    rw [putF_tick]
    have k1 : Kp p H (upd H p (.ins CC dx (cFields (.ref hp) (.int ((per h.ts : Nat) : Int)) (.int (t + 1)) (.ref aH) (.ref aW) (.ref aC) (.bl c.opn)))) := kp_upd
    have np : ∀ a xs, H a = some (.lst xs) → a ≠ p := fun a xs ha z => by rw [z, e1] at ha; cases ha
    have f1 : (upd H p (.ins CC dx (cFields (.ref hp) (.int ((per h.ts : Nat) : Int)) (.int (t + 1)) (.ref aH) (.ref aW) (.ref aC) (.bl c.opn)))) p = some (.ins CC dx (cFields (.ref hp) (.int ((per h.ts : Nat) : Int)) (.int (t + 1)) (.ref aH) (.ref aW) (.ref aC) (.bl c.opn))) := upd_same
    have f2 := k1 _ _ (np _ _ e2) e2
    have f3 := k1 _ _ (np _ _ e3) e3
    have f4 := k1 _ _ (np _ _ e4) e4
    have ho1 := hho.kp k1 e1 npq
    generalize upd H p (.ins CC dx (cFields (.ref hp) (.int ((per h.ts : Nat) : Int)) (.int (t + 1)) (.ref aH) (.ref aW) (.ref aC) (.bl c.opn))) = H1 at k1 f1 f2 f3 f4 ho1
    obtain ⟨d, bT, bC, bR, xs, g1, g2, _⟩ := id ho1.ex.ex
    refine ⟨_, rfl, p, CC, dx, _, .ref hp, rfl, f1, C'.cl, C'.nHo, by rfl, hp, CH, d, _, .ref bT, rfl, g1, C'.clH, C'.nT, hf_tables _ _ _ _, bT, rfl, ⟨_, g2⟩, fun D hD => lc_tup (K := K) (a := bT) (xs := h.ts.map V.str)
      (fun i H3 => Same H1 H3 ∧ H3 D = some (.lst (((h.ts.take i).map fun x => homeL x (t + 1)).map V.bl))) ⟨same_upd hD, upd_same⟩ (fun i H3 _ ⟨e, _⟩ => sSqT e g2) ?_ ?_⟩
    · rintro i y H3 hi ⟨s3, eD⟩
      obtain ⟨x, hx, rfl⟩ := map_at hi
      have hil : i < h.ts.length := (List.getElem?_eq_some_iff.mp hx).1
      refine ⟨rfl, _, rfl, _, rfl, p, CC, dx, _, .int (t + 1), rfl, s3 _ _ f1, C'.cl, C'.nTk, by rfl, x, t + 1, rfl, hT x (List.mem_of_getElem? hx), fun H4 s4 => ⟨_, s4 _ _ eD, ?_, fun b o eb => ?_, ?_⟩⟩
      · rw [List.length_map, List.length_map, List.length_take]
        exact Nat.lt_of_le_of_lt (Nat.le_trans (Nat.min_le_left _ _) (by omega : i ≤ 100)) (by decide)
      · rw [upd_ne (ne_of_none eb hD)]; exact s4 _ _ (s3 _ _ eb)
      · rw [upd_same, take_more hx, List.map_append, List.map_append]; rfl
    rintro H3 ⟨s3, eD⟩
    rw [List.length_map, List.take_length] at eD
    have ews : (h.ts.map fun x => homeL x (t + 1)) = wishes h.ts (t + 1) := rfl
    rw [ews] at eD
    have hwl := wishes_len h.ts (t + 1)
    have eadv : adv h (t + 1) c = ((depart h (t + 1) (wishes h.ts (t + 1)) (arrive (wishes h.ts (t + 1)) c).1).1, (arrive (wishes h.ts (t + 1)) c).2 ++ (depart h (t + 1) (wishes h.ts (t + 1)) (arrive (wishes h.ts (t + 1)) c).1).2) := rfl
    generalize wishes h.ts (t + 1) = ws at eD hwl eadv
    have nD : D ≠ p := (ne_of_none f1 hD).symm
    have co3 : CoAt CC H3 p hp ((per h.ts : Nat) : Int) (t + 1) c := ⟨dx, aH, aW, aC, s3 _ _ f1, s3 _ _ f2, s3 _ _ f3, s3 _ _ f4⟩
    refine ⟨_, rfl, p, dx, _, rfl, s3 _ _ f1, by rfl, _, rfl, p, hp, D, _, t + 1, c, ws, rfl, co3, eD, by omega, by omega, by omega, fun H4 e k4 co4 hev4 => ?_⟩
    obtain ⟨xs4, eE4, hE4⟩ := hev4
    obtain ⟨j1, j2, j3⟩ := arrive_in (n := h.ts.length) hwl hin
    have ho4 := (ho1.mono s3).kp k4 (s3 _ _ f1) npq
    have eD4 := k4 _ _ nD eD
    have hal : (arrive ws c).2.length ≤ 6 := by
      have := comers_len ws c.home
      unfold arrive
      dsimp only
      split
      · exact Nat.zero_le _
      · split <;> (rw [List.length_map]; omega)
    obtain ⟨d4, c1, c2, c3, w1, w2, w3, w4⟩ := id co4
    refine ⟨_, rfl, _, rfl, p, d4, _, rfl, w1, by rfl, _, rfl, p, hp, D, t + 1, (arrive ws c).1, h, ws, rfl, co4, ho4, npq, per_pos hT, eD4, fun q hq => ?_, by omega, by omega, fun H5 e5 k5 co5 hev5 hl5 hm5 => ?_⟩
    · have := j1 q hq; rw [hwl]; exact this
    obtain ⟨xs5, eE5, hE5⟩ := hev5
    have ne : e ≠ p := fun z => by rw [z, w1] at eE4; cases eE4
    have hE45 := hE4.mono (kp_tup2 k5 w1)
    refine ⟨e, e5, _, _, rfl, rfl, k5 _ _ ne eE4, eE5, ?_, fun q hq => ?_⟩
    · rw [hE4.len, hE5.len]; exact Nat.le_trans (by omega : _ ≤ 210) (by decide)
    have s6 := same_upd (o := .lst (xs4 ++ xs5)) hq
    refine k _ q ((((k1.trans (sKp s3)).trans k4).trans k5).trans (sKp s6)) (by rw [eadv]; exact co5.mono s6) (by rw [eadv]; exact ⟨_, upd_same, (hE45.app hE5).mono fun a ys z => s6 _ _ z⟩) (by
      obtain ⟨a, ha, hn⟩ := hm5
      refine ⟨a, ha.mono s6, ?_⟩
      cases z : H a with
      | none => rfl
      | some o =>
        have nap : a ≠ p := fun e => by rw [e, w1] at hn; cases hn
        have := ((k1.trans (sKp s3)).trans k4) _ _ nap z
        rw [hn] at this; cases this)
end
end Dk

set_option Elab.async false
set_option linter.all false
set_option maxRecDepth 100000
set_option maxHeartbeats 1000000
namespace Dk
open PySem PySem.Spec PyProof.Rows L2 TL
/-! ### what holds after every tick -/
abbrev Up (l : List Int) : Prop := l.Pairwise (· < ·)
theorem up_nodup {l : List Int} (h : Up l) : l.Nodup := List.Pairwise.imp (fun h => Int.ne_of_lt h) h
theorem up_of {l : List Int} (h : l.Pairwise (· ≤ ·)) (n : l.Nodup) : Up l := by
  induction l with
  | nil => exact .nil
  | cons a l ih =>
    obtain ⟨h1, h2⟩ := List.pairwise_cons.mp h
    obtain ⟨n1, n2⟩ := List.nodup_cons.mp n
    refine List.pairwise_cons.mpr ⟨fun x hx => ?_, ih h2 n2⟩
    have := h1 x hx
    have hne : a ≠ x := fun e => n1 (by rw [e]; exact hx)
    show a < x
    omega
theorem srt_up {l : List Int} (n : l.Nodup) : Up (srt l) := up_of (srt_sorted l) ((srt_perm l).nodup_iff.mpr n)
theorem srt_mem {l : List Int} {q : Int} : q ∈ srt l ↔ q ∈ l := (srt_perm l).mem_iff
theorem srt_self {l : List Int} (h : Up l) : srt l = l := (srt_uniq (List.Perm.refl _) (List.Pairwise.imp Int.le_of_lt h)).symm
theorem rg_up : ∀ n : Nat, Up (rg n)
  | 0 => .nil
  | n + 1 => by
    rw [rg_succ]
    refine List.pairwise_append.mpr ⟨rg_up n, List.pairwise_singleton _ _, fun x hx y hy => ?_⟩
    rw [List.mem_singleton.mp hy]
    exact (rg_mem.mp hx).2
theorem up_len {n : Nat} {l : List Int} (h : Up l) (i : InN n l) : l.length ≤ n := by
  have key : ∀ j, (hj : j < l.length) → (j : Int) ≤ l[j] := by
    intro j
    induction j with
    | zero => intro hj; exact (i _ (List.getElem_mem hj)).1
    | succ j ih =>
      intro hj
      have h1 := ih (by omega)
      have h2 : l[j] < l[j + 1] := List.pairwise_iff_getElem.mp h j (j + 1) (by omega) hj (by omega)
      omega
  cases hl : l.length with
  | zero => exact Nat.zero_le _
  | succ m =>
    have hm : m < l.length := by omega
    have h1 := key m hm
    have h2 := (i _ (List.getElem_mem hm)).2
    omega
theorem InN.mono {n : Nat} {l m : List Int} (h : InN n l) (s : ∀ q ∈ m, q ∈ l) : InN n m := fun q hq => h q (s q hq)
structure Gd (n : Nat) (c : Cs) : Prop where
  hu : Up c.home
  hi : InN n c.home
  cu : Up c.carr
  ci : InN n c.carr
  wu : Up c.wait
  wi : InN n c.wait
  dj : ∀ q ∈ c.home, q ∉ c.carr
  op : c.opn = true → c.home = []
theorem nodup_app {l m : List Int} (h1 : l.Nodup) (h2 : m.Nodup) (d : ∀ q ∈ m, q ∉ l) : (l ++ m).Nodup :=
  List.nodup_append.mpr ⟨h1, h2, fun a ha b hb e => d b hb (by rw [← e]; exact ha)⟩
theorem gd_arrive {n : Nat} {ws : List Bool} {c : Cs} (hn : ws.length = n) (h : Gd n c) : Gd n (arrive ws c).1 := by
  have hc := comers_in ws c.home
  have hcu : Up (comersOf ws c.home) := List.Pairwise.filter _ (rg_up _)
  have hcd : ∀ q ∈ comersOf ws c.home, q ∉ c.home := fun q hq => by
    have := (List.mem_filter.mp hq).2
    simp at this
    exact this.2
  unfold arrive
  dsimp only
  generalize comersOf ws c.home = cm at hc hcu hcd
  rw [hn] at hc
  split
  · exact ⟨h.hu, h.hi, h.cu, h.ci, .nil, fun q hq => (by cases hq), h.dj, h.op⟩
  · split
    · refine ⟨srt_up (nodup_app (up_nodup h.hu) (up_nodup hcu) hcd), fun q hq => ?_, List.Pairwise.filter _ h.cu, h.ci.mono fun q hq => (List.mem_filter.mp hq).1, .nil, fun q hq => (by cases hq), fun q hq hq2 => ?_, fun e => (by cases e)⟩
      · rcases List.mem_append.mp (srt_mem.mp hq) with hq | hq
        · exact h.hi q hq
        · exact hc q hq
      · obtain ⟨c1, c2⟩ := List.mem_filter.mp hq2
        rcases List.mem_append.mp (srt_mem.mp hq) with hq | hq
        · exact h.dj q hq c1
        · simp at c2; exact c2 hq
    · exact ⟨h.hu, h.hi, h.cu, h.ci, hcu, hc, h.dj, h.op⟩
/-- while the leavers leave -/
structure Lv (n : Nat) (c0 : Cs) (a : Cs × Bool × List Ev) (rest : List Int) : Prop where
  cu : Up a.1.carr
  ci : InN n a.1.carr
  hm : a.1.home = c0.home
  wt : a.1.wait = c0.wait
  op : a.1.opn = c0.opn
  dr : ∀ q ∈ rest, q ∉ a.1.carr
  dh : ∀ q ∈ c0.home, q ∉ a.1.carr
  nt : a.2.1 = false → a.1.carr = c0.carr
theorem take_carr {ks : Int} {c : Cs} {p : Int} : (takeKey ks c p).2 = true → (takeKey ks c p).1 = { c with carr := srt (c.carr ++ [p]) } := by
  unfold takeKey
  split
  · intro h; cases h
  · intro _; rfl
theorem take_no {ks : Int} {c : Cs} {p : Int} : (takeKey ks c p).2 = false → (takeKey ks c p).1 = c := by
  unfold takeKey
  split
  · intro _; rfl
  · intro h; cases h
theorem lv_step {n : Nat} {hd : Hd} {t : Int} {c0 : Cs} {a : Cs × Bool × List Ev} {q : Int} {rest : List Int} (h : Lv n c0 a (q :: rest)) (hq : 0 ≤ q ∧ q < (n : Int)) (hnd : q ∉ rest) (hh : q ∉ c0.home) : Lv n c0 (leaveStep hd t a q) rest := by
  have same : ∀ b e, (b = false → a.2.1 = false) → Lv n c0 (a.1, b, e) rest := fun b e hb => ⟨h.cu, h.ci, h.hm, h.wt, h.op, fun x hx => h.dr x (List.mem_cons_of_mem _ hx), h.dh, fun z => h.nt (hb z)⟩
  unfold leaveStep
  split
  · split
    · rename_i h2
      rw [take_carr h2]
      have hqc : q ∉ a.1.carr := h.dr q (List.mem_cons_self ..)
      have mem : ∀ x, x ∈ srt (a.1.carr ++ [q]) → x ∈ a.1.carr ∨ x = q := fun x hx => by
        rcases List.mem_append.mp (srt_mem.mp hx) with hx | hx
        · exact .inl hx
        · exact .inr (List.mem_singleton.mp hx)
      refine ⟨srt_up (nodup_app (up_nodup h.cu) (by simp) fun x hx => by rw [List.mem_singleton.mp hx]; exact hqc), fun x hx => ?_, h.hm, h.wt, h.op, fun x hx hx2 => ?_, fun x hx hx2 => ?_, fun z => (by cases z)⟩
      · rcases mem x hx with hx | rfl
        · exact h.ci x hx
        · exact hq
      · rcases mem x hx2 with hx2 | rfl
        · exact h.dr x (List.mem_cons_of_mem _ hx) hx2
        · exact hnd hx
      · rcases mem x hx2 with hx2 | rfl
        · exact h.dh x hx hx2
        · exact hh hx
    · rename_i h2
      rw [take_no (by simpa using h2)]
      exact same _ _ fun z => z
  · exact same _ _ fun z => z
theorem lv_all {n : Nat} {hd : Hd} {t : Int} {c0 : Cs} : ∀ (lv : List Int) (a : Cs × Bool × List Ev), Lv n c0 a lv → InN n lv → lv.Nodup → (∀ q ∈ lv, q ∉ c0.home) → Lv n c0 (lv.foldl (leaveStep hd t) a) []
  | [], a, h, _, _, _ => h
  | q :: r, a, h, hi, hn, hh => by
    obtain ⟨n1, n2⟩ := List.nodup_cons.mp hn
    exact lv_all r _ (lv_step h (hi q (List.mem_cons_self ..)) n1 (hh q (List.mem_cons_self ..))) (fun x hx => hi x (List.mem_cons_of_mem _ hx)) n2 fun x hx => hh x (List.mem_cons_of_mem _ hx)
theorem gd_depart {n : Nat} {hd : Hd} {t : Int} {ws : List Bool} {c : Cs} (h : Gd n c) : Gd n (depart hd t ws c).1 := by
  have hst : ∀ q ∈ (stay ws c).home, q ∈ c.home := fun q hq => (List.mem_filter.mp hq).1
  have hlv : ∀ q ∈ leaversOf ws c, q ∈ c.home := fun q hq => (List.mem_filter.mp hq).1
  have hap : ∀ q ∈ leaversOf ws c, q ∉ (stay ws c).home := fun q hq hq2 => by
    have h1 := (List.mem_filter.mp hq).2
    have h2 := (List.mem_filter.mp hq2).2
    rw [h2] at h1; cases h1
  have L0 : Lv n (stay ws c) (stay ws c, false, []) (leaversOf ws c) := ⟨h.cu, h.ci, rfl, rfl, rfl, fun q hq => h.dj q (hlv q hq), fun q hq => h.dj q (hst q hq), fun _ => rfl⟩
  have L := lv_all (hd := hd) (t := t) _ _ L0 (h.hi.mono hlv) (up_nodup (List.Pairwise.filter _ h.hu)) hap
  have eL : (leaversOf ws c).foldl (leaveStep hd t) (stay ws c, false, []) = leaveAll hd t ws c := rfl
  rw [eL] at L
  have hsu : Up (stay ws c).home := List.Pairwise.filter _ h.hu
  have base : Gd n (leaveAll hd t ws c).1 := by
    refine ⟨by rw [L.hm]; exact hsu, by rw [L.hm]; exact h.hi.mono hst, L.cu, L.ci, by rw [L.wt]; exact h.wu, by rw [L.wt]; exact h.wi, by rw [L.hm]; exact L.dh, fun e => ?_⟩
    rw [L.op] at e
    rw [L.hm]
    show c.home.filter _ = []
    rw [h.op e]; rfl
  unfold depart
  split
  · rename_i q hq
    have hqm : q ∈ leaversOf ws c := List.mem_of_getLast? hq
    split
    · rename_i hcond
      rw [Bool.and_eq_true] at hcond
      have he : (stay ws c).home = [] := List.isEmpty_iff.mp hcond.1
      have hnt : (leaveAll hd t ws c).2.1 = false := by simpa using hcond.2
      have hcc := L.nt hnt
      show Gd n (closeC hd.ks (leaveAll hd t ws c).1 q).1
      generalize leaveAll hd t ws c = acc at L base hnt hcc
      have hqc : q ∉ acc.1.carr := by rw [hcc]; exact h.dj q (hlv q hqm)
      have hh : acc.1.home = [] := by rw [L.hm, he]
      unfold closeC
      split
      · rename_i h2
        rw [take_carr h2]
        refine ⟨base.hu, base.hi, srt_up (nodup_app (up_nodup base.cu) (by simp) fun x hx => by rw [List.mem_singleton.mp hx]; exact hqc), fun x hx => ?_, base.wu, base.wi, fun x hx => ?_, base.op⟩
        · rcases List.mem_append.mp (srt_mem.mp hx) with hx | hx
          · exact base.ci x hx
          · rw [List.mem_singleton.mp hx]; exact h.hi q (hlv q hqm)
        · have : x ∈ acc.1.home := hx
          rw [hh] at this; cases this
      · exact ⟨base.hu, base.hi, base.cu, base.ci, base.wu, base.wi, base.dj, fun _ => hh⟩
    · exact base
  · exact base
theorem gd_adv {h : Hd} {t : Int} {c : Cs} (g : Gd h.ts.length c) : Gd h.ts.length (adv h t c).1 := gd_depart (gd_arrive (wishes_len h.ts t) g)
def st0 (h : Hd) : Cs := ⟨rg h.ts.length, [], [], false⟩
/-- after so many ticks -/
def stt (h : Hd) : Nat → Cs
  | 0 => st0 h
  | n + 1 => (adv h (n : Int) (stt h n)).1
theorem gd_stt (h : Hd) : ∀ n, Gd h.ts.length (stt h n)
  | 0 => ⟨rg_up _, fun q hq => rg_mem.mp hq, .nil, fun q hq => (by cases hq), .nil, fun q hq => (by cases hq), fun q _ hq => (by cases hq), fun e => (by cases e)⟩
  | n + 1 => gd_adv (gd_stt h n)
end Dk

set_option Elab.async false
set_option linter.all false
set_option maxRecDepth 100000
set_option maxHeartbeats 1000000
namespace Dk
open PySem PySem.Spec PyProof.Rows L2 TL
/-! ### finitely many scenes -/
theorem nodup_le {α : Type} [DecidableEq α] : ∀ {l m : List α}, l.Nodup → (∀ x ∈ l, x ∈ m) → l.length ≤ m.length
  | [], m, _, _ => Nat.zero_le _
  | a :: l, m, h, s => by
    obtain ⟨h1, h2⟩ := List.nodup_cons.mp h
    have ha : a ∈ m := s a (List.mem_cons_self ..)
    have := nodup_le (l := l) (m := m.erase a) h2 fun x hx => (List.mem_erase_of_ne fun e => h1 (by rw [← e]; exact hx)).mpr (s x (List.mem_cons_of_mem _ hx))
    rw [List.length_erase_of_mem ha] at this
    have h0 : 0 < m.length := List.length_pos_of_mem ha
    rw [List.length_cons]; omega
def subs : List Int → List (List Int)
  | [] => [[]]
  | a :: r => subs r ++ (subs r).map (a :: ·)
theorem subs_len : ∀ l : List Int, (subs l).length = 2 ^ l.length
  | [] => rfl
  | a :: r => by rw [subs, List.length_append, List.length_map, subs_len r, List.length_cons, Nat.pow_succ]; omega
theorem filt_subs (p : Int → Bool) : ∀ l : List Int, l.filter p ∈ subs l
  | [] => by simp [subs]
  | a :: r => by
    rw [subs, List.mem_append, List.filter_cons]
    split
    · exact .inr (List.mem_map.mpr ⟨_, filt_subs p r, rfl⟩)
    · exact .inl (filt_subs p r)
theorem up_ext {l m : List Int} (h1 : Up l) (h2 : Up m) (e : ∀ q, q ∈ l ↔ q ∈ m) : l = m :=
  List.Perm.eq_of_pairwise (le := fun a b : Int => a ≤ b) (fun a b _ _ h1 h2 => Int.le_antisymm h1 h2) (List.Pairwise.imp Int.le_of_lt h1) (List.Pairwise.imp Int.le_of_lt h2) ((List.perm_ext_iff_of_nodup (up_nodup h1) (up_nodup h2)).mpr e)
theorem up_filt {n : Nat} {l : List Int} (h : Up l) (i : InN n l) : l = (rg n).filter fun q => decide (q ∈ l) :=
  up_ext h (List.Pairwise.filter _ (rg_up n)) fun q => by
    rw [List.mem_filter]
    constructor
    · intro hq; exact ⟨rg_mem.mpr (i q hq), decide_eq_true hq⟩
    · rintro ⟨_, hq⟩; exact of_decide_eq_true hq
theorem up_subs {n : Nat} {l : List Int} (h : Up l) (i : InN n l) (h6 : n ≤ 6) : l ∈ subs (rg 6) := by
  have i6 : InN 6 l := fun q hq => by have := i q hq; omega
  rw [up_filt h i6]
  exact filt_subs _ _
theorem fm_len {α β : Type} (f : α → List β) (k : Nat) : ∀ (l : List α), (∀ x, (f x).length = k) → (l.flatMap f).length = l.length * k
  | [], _ => by simp
  | a :: l, h => by rw [List.flatMap_cons, List.length_append, h a, fm_len f k l h, List.length_cons, Nat.succ_mul]; omega
def allSc : List Sc := (rg 24).flatMap fun m => (subs (rg 6)).flatMap fun a => (subs (rg 6)).flatMap fun b => [(m, a, b, false), (m, a, b, true)]
theorem allSc_len : allSc.length = 196608 := by
  have s6 : (subs (rg 6)).length = 64 := by rw [subs_len, rg_len]
  unfold allSc
  rw [fm_len _ 8192, rg_len]
  intro m
  rw [fm_len _ 128, s6]
  intro a
  rw [fm_len _ 2, s6]
  intro b; rfl
def scn (h : Hd) (i : Nat) : Sc := scOf ((per h.ts : Nat) : Int) (i : Int) (stt h (i + 1))
theorem scn_all {h : Hd} (hT : Tabs h.ts) (h6 : h.ts.length ≤ 6) (i : Nat) : scn h i ∈ allSc := by
  have g := gd_stt h (i + 1)
  have hp := per_pos hT
  have hl := per_le hT
  unfold scn scOf allSc
  refine List.mem_flatMap.mpr ⟨(i : Int) % ((per h.ts : Nat) : Int), rg_mem.mpr ⟨Int.emod_nonneg _ (by omega), ?_⟩, List.mem_flatMap.mpr ⟨_, up_subs g.wu g.wi h6, List.mem_flatMap.mpr ⟨_, up_subs g.cu g.ci h6, ?_⟩⟩⟩
  · have := Int.emod_lt_of_pos (i : Int) (show (0 : Int) < ((per h.ts : Nat) : Int) by omega)
    omega
  · cases (stt h (i + 1)).opn <;> simp
/-- the scenes of the first n ticks are different, that of tick n is one of them -/
structure IsRep (h : Hd) (n : Nat) : Prop where
  nd : ((List.range n).map (scn h)).Nodup
  re : scn h n ∈ (List.range n).map (scn h)
theorem nd_le {h : Hd} (hT : Tabs h.ts) (h6 : h.ts.length ≤ 6) {n : Nat} (nd : ((List.range n).map (scn h)).Nodup) : n ≤ 196608 := by
  have := nodup_le nd (m := allSc) fun x hx => by
    obtain ⟨i, _, rfl⟩ := List.mem_map.mp hx
    exact scn_all hT h6 i
  rw [List.length_map, List.length_range, allSc_len] at this
  exact this
theorem nd_succ {h : Hd} {n : Nat} (nd : ((List.range n).map (scn h)).Nodup) (hn : scn h n ∉ (List.range n).map (scn h)) : ((List.range (n + 1)).map (scn h)).Nodup := by
  rw [List.range_succ, List.map_append]
  exact List.nodup_append.mpr ⟨nd, by simp, fun a ha b hb e => hn (by rw [List.mem_singleton.mp (show b ∈ [scn h n] from hb)] at e; rw [← e]; exact ha)⟩
/-! ### a scene decides what happens later -/
theorem homeL_per {ts : List Str} {x : Str} (hT : Tabs ts) (hx : x ∈ ts) {i j : Int} (e : i % ((per ts : Nat) : Int) = j % ((per ts : Nat) : Int)) : homeL x i = homeL x j := by
  obtain ⟨k, hk⟩ := dvd_per hx
  have : i % ((tl x).length : Int) = j % ((tl x).length : Int) := by
    have hk' : ((per ts : Nat) : Int) = ((tl x).length : Int) * (k : Int) := by rw [hk]; exact Int.natCast_mul _ _
    have e1 : i % ((tl x).length : Int) = (i % ((per ts : Nat) : Int)) % ((tl x).length : Int) := (Int.emod_emod_of_dvd i ⟨(k : Int), hk'⟩).symm
    have e2 : j % ((tl x).length : Int) = (j % ((per ts : Nat) : Int)) % ((tl x).length : Int) := (Int.emod_emod_of_dvd j ⟨(k : Int), hk'⟩).symm
    rw [e1, e2, e]
  unfold homeL
  rw [this]
theorem wishes_per {ts : List Str} (hT : Tabs ts) {i j : Int} (e : i % ((per ts : Nat) : Int) = j % ((per ts : Nat) : Int)) : wishes ts i = wishes ts j :=
  List.map_congr_left fun x hx => homeL_per hT hx e
theorem thinks_per {h : Hd} {i j : Int} (e : i % ((per h.ts : Nat) : Int) = j % ((per h.ts : Nat) : Int)) (p : Int) : thinks h i p = thinks h j p := by
  unfold thinks; rw [e]
theorem adv_per {h : Hd} (hT : Tabs h.ts) {i j : Int} (e : i % ((per h.ts : Nat) : Int) = j % ((per h.ts : Nat) : Int)) (c : Cs) : (adv h i c).1 = (adv h j c).1 := by
  have ew := wishes_per hT e
  have es : leaveStep h i = leaveStep h j := by
    funext a p
    unfold leaveStep
    rw [thinks_per e]
  unfold adv depart leaveAll
  rw [ew, es]
theorem home_is {h : Hd} (n : Nat) : (stt h (n + 1)).home = (rg h.ts.length).filter fun q => wants (wishes h.ts (n : Int)) q && !decide (q ∈ (stt h (n + 1)).wait) := by
  have g := gd_stt h n
  have g1 := gd_stt h (n + 1)
  have hw := wishes_len h.ts (n : Int)
  have eh : (stt h (n + 1)).home = (arrive (wishes h.ts (n : Int)) (stt h n)).1.home.filter fun q => wants (wishes h.ts (n : Int)) q := by
    show (depart h _ _ _).1.home = _
    have key : ∀ (lv : List Int) (a : Cs × Bool × List Ev), (lv.foldl (leaveStep h (n : Int)) a).1.home = a.1.home ∧ (lv.foldl (leaveStep h (n : Int)) a).1.wait = a.1.wait := by
      intro lv
      induction lv with
      | nil => intro a; exact ⟨rfl, rfl⟩
      | cons q r ih =>
        intro a
        have := ih (leaveStep h (n : Int) a q)
        have st : (leaveStep h (n : Int) a q).1.home = a.1.home ∧ (leaveStep h (n : Int) a q).1.wait = a.1.wait := by
          have tk : (takeKey h.ks a.1 q).1.home = a.1.home ∧ (takeKey h.ks a.1 q).1.wait = a.1.wait := by unfold takeKey; split <;> exact ⟨rfl, rfl⟩
          unfold leaveStep
          split
          · split <;> exact tk
          · exact ⟨rfl, rfl⟩
        exact ⟨this.1.trans st.1, this.2.trans st.2⟩
    have hc : ∀ c q, (closeC h.ks c q).1.home = c.home := fun c q => by
      have tk : (takeKey h.ks c q).1.home = c.home := by unfold takeKey; split <;> rfl
      unfold closeC; split
      · exact tk
      · rfl
    unfold depart
    split
    · split
      · exact (hc _ _).trans (key _ _).1
      · exact (key _ _).1
    · exact (key _ _).1
  have ewt : (stt h (n + 1)).wait = (arrive (wishes h.ts (n : Int)) (stt h n)).1.wait := by
    show (depart h _ _ _).1.wait = _
    have key : ∀ (lv : List Int) (a : Cs × Bool × List Ev), (lv.foldl (leaveStep h (n : Int)) a).1.wait = a.1.wait := by
      intro lv
      induction lv with
      | nil => intro a; rfl
      | cons q r ih =>
        intro a
        refine (ih (leaveStep h (n : Int) a q)).trans ?_
        have tk : (takeKey h.ks a.1 q).1.wait = a.1.wait := by unfold takeKey; split <;> rfl
        unfold leaveStep
        split
        · split <;> exact tk
        · rfl
    have hc : ∀ c q, (closeC h.ks c q).1.wait = c.wait := fun c q => by
      have tk : (takeKey h.ks c q).1.wait = c.wait := by unfold takeKey; split <;> rfl
      unfold closeC; split
      · exact tk
      · rfl
    unfold depart
    split
    · split
      · exact (hc _ _).trans (key _ _)
      · exact key _ _
    · exact key _ _
  refine up_ext g1.hu (List.Pairwise.filter _ (rg_up _)) fun q => ?_
  rw [List.mem_filter, ewt, eh, List.mem_filter]
  have hcm : ∀ q, q ∈ comersOf (wishes h.ts (n : Int)) (stt h n).home ↔ (q ∈ rg h.ts.length ∧ wants (wishes h.ts (n : Int)) q = true ∧ q ∉ (stt h n).home) := fun q => by
    unfold comersOf
    rw [List.mem_filter, hw]
    simp
  have hhi : ∀ q ∈ (stt h n).home, q ∈ rg h.ts.length := fun q hq => rg_mem.mpr (g.hi q hq)
  unfold arrive
  dsimp only
  generalize wishes h.ts (n : Int) = ws at hcm
  generalize comersOf ws (stt h n).home = cm at hcm
  split
  · rename_i he
    have he : cm = [] := List.isEmpty_iff.mp he
    subst he
    simp only [Bool.and_eq_true, List.not_mem_nil, decide_false, Bool.not_false, and_true]
    constructor
    · rintro ⟨h1, h2⟩; exact ⟨hhi q h1, h2⟩
    · rintro ⟨h1, h2⟩
      refine ⟨?_, h2⟩
      by_cases hq : q ∈ (stt h n).home
      · exact hq
      · have := (hcm q).mpr ⟨h1, h2, hq⟩; cases this
  · split
    · simp only [Bool.and_eq_true, List.not_mem_nil, decide_false, Bool.not_false, and_true]
      constructor
      · rintro ⟨h1, h2⟩
        rcases List.mem_append.mp (srt_mem.mp h1) with h1 | h1
        · exact ⟨hhi q h1, h2⟩
        · exact ⟨((hcm q).mp h1).1, h2⟩
      · rintro ⟨h1, h2⟩
        refine ⟨srt_mem.mpr ?_, h2⟩
        by_cases hq : q ∈ (stt h n).home
        · exact List.mem_append_left _ hq
        · exact List.mem_append_right _ ((hcm q).mpr ⟨h1, h2, hq⟩)
    · rename_i hce
      have hne : (stt h n).home = [] := by
        unfold canEnter at hce
        split at hce
        · exact absurd rfl hce
        · rename_i hx
          simp at hx
          exact hx.1
      rw [hne] at hcm ⊢
      simp only [List.not_mem_nil, false_and, false_iff, Bool.and_eq_true, not_and]
      intro h1 h2 h3
      have := (hcm q).mpr ⟨h1, h2, by simp⟩
      simp [this] at h3
theorem same_next {h : Hd} (hT : Tabs h.ts) {i j : Nat} (e : scn h i = scn h j) : stt h (i + 1) = stt h (j + 1) := by
  unfold scn scOf at e
  obtain ⟨e1, e2⟩ := Prod.mk.inj e
  obtain ⟨e2, e3⟩ := Prod.mk.inj e2
  obtain ⟨e3, e4⟩ := Prod.mk.inj e3
  have hh : (stt h (i + 1)).home = (stt h (j + 1)).home := by rw [home_is, home_is, wishes_per hT e1, e2]
  generalize stt h (i + 1) = a at *
  generalize stt h (j + 1) = b at *
  cases a
  cases b
  simp only at e2 e3 e4 hh
  rw [e2, e3, e4, hh]
theorem emod_add_same {i j k m : Int} (e : i % m = j % m) : (i + k) % m = (j + k) % m := by
  rw [Int.add_emod, e, ← Int.add_emod]
theorem same_later {h : Hd} (hT : Tabs h.ts) {i j : Nat} (e : scn h i = scn h j) : ∀ k, stt h (i + 1 + k) = stt h (j + 1 + k)
  | 0 => same_next hT e
  | k + 1 => by
    have ih := same_later hT e k
    have e1 : ((i : Int)) % ((per h.ts : Nat) : Int) = ((j : Int)) % ((per h.ts : Nat) : Int) := (Prod.mk.inj e).1
    show (adv h ((i + 1 + k : Nat) : Int) (stt h (i + 1 + k))).1 = (adv h ((j + 1 + k : Nat) : Int) (stt h (j + 1 + k))).1
    rw [ih]
    refine adv_per hT ?_ _
    have c1 : ((i + 1 + k : Nat) : Int) = (i : Int) + ((1 + k : Nat) : Int) := by omega
    have c2 : ((j + 1 + k : Nat) : Int) = (j : Int) + ((1 + k : Nat) : Int) := by omega
    rw [c1, c2]
    exact emod_add_same e1
/-- rounds of the cycle -/
theorem same_rounds {h : Hd} (hT : Tabs h.ts) {b n : Nat} (e : scn h b = scn h n) (hb : b < n) (x : Nat) : ∀ r, stt h (b + 1 + x) = stt h (b + 1 + (x + r * (n - b)))
  | 0 => by rw [Nat.zero_mul]; rfl
  | r + 1 => by
    have ih := same_rounds hT e hb x r
    have := same_later hT e (x + r * (n - b))
    rw [ih, this]
    congr 1
    rw [Nat.succ_mul]; omega
theorem stt_near {h : Hd} (hT : Tabs h.ts) {b n : Nat} (e : scn h b = scn h n) (hb : b < n) {tick : Nat} (ht : b < tick) : stt h (b + (tick - b) % (n - b) + 1) = stt h (tick + 1) := by
  have := same_rounds hT e hb ((tick - b) % (n - b)) ((tick - b) / (n - b))
  have hd := Nat.mod_add_div (tick - b) (n - b)
  rw [Nat.mul_comm] at hd
  rw [hd] at this
  have e1 : b + (tick - b) % (n - b) + 1 = b + 1 + (tick - b) % (n - b) := by omega
  have e2 : tick + 1 = b + 1 + (tick - b) := by omega
  rw [e1, e2, this]
end Dk

set_option Elab.async false
set_option linter.all false
set_option maxRecDepth 100000
set_option maxHeartbeats 2000000
namespace Dk
open PySem PySem.Spec PyProof.Rows L2 TL
open Dn (NXs DnO KAt0 KAt)
section
variable {X : Cx} {P : Program} {w : World} {o i : Expr} {pos pos' p2 : Pos} {td ty : TE} {j : Nat}
theorem pe_newP (hP : X.prog = P) (hw : X.w = w) : PE X (.Dict [] [] pos) (Dn.tNew P w) := by subst hP hw; exact Dn.pe_new
theorem pc_notInP (hP : X.prog = P) (hw : X.w = w) (hu : X.A.units + 16 < cLine) (hi : PE X i ty) (ho : PE X o td) : PC X .NotIn i o (Dn.tNotIn P w ty td) := by subst hP hw; exact Dn.pc_notIn hu hi ho
theorem ps_putP (hP : X.prog = P) (hw : X.w = w) (hu : X.A.units + 16 < cLine) (ho : PE X o td) (hi : PE X i ty) (hs : swapsWith (.Constant (.bool true) j p2) (some (.Subscript o i pos')) pos.line X.env = pure false := by rfl) :
    PS X (.Assign [.Subscript o i pos'] (.Constant (.bool true) j p2) pos) (Dn.sPut P w td ty) := by subst hP hw; exact Dn.ps_put hu ho hi hs
end
def scK (x : Sc) : NestedKey := .tup [.num x.1, .tup (x.2.1.map .num), .tup (x.2.2.1.map .num), .num (if x.2.2.2 = true then 1 else 0)]
theorem nums_inj : ∀ {l m : List Int}, l.map NestedKey.num = m.map NestedKey.num → l = m
  | [], [], _ => rfl
  | [], _ :: _, h => by cases h
  | _ :: _, [], h => by cases h
  | a :: l, b :: m, h => by
    rw [List.map_cons, List.map_cons] at h
    injection h with h1 h2
    injection h1 with h1
    rw [h1, nums_inj h2]
theorem scK_inj {x y : Sc} (h : scK x = scK y) : x = y := by
  obtain ⟨x1, x2, x3, x4⟩ := x
  obtain ⟨y1, y2, y3, y4⟩ := y
  unfold scK at h
  injection h with h
  injection h with h1 h
  injection h with h2 h
  injection h with h3 h
  injection h with h4 _
  injection h1 with h1
  injection h2 with h2
  injection h3 with h3
  injection h4 with h4
  have e2 := nums_inj h2
  have e3 := nums_inj h3
  have e4 : x4 = y4 := by
    cases x4 <;> cases y4
    · rfl
    · simp at h4
    · simp at h4
    · rfl
  have e1 : x1 = y1 := h1
  have e2' : x2 = y2 := e2
  have e3' : x3 = y3 := e3
  rw [e1, e2', e3', e4]
theorem scAt_key {H : Hp} {a : Addr} {x : Sc} (h : ScAt H a x) : KAt H (scK x) a := by
  obtain ⟨b, d, e1, e2, e3⟩ := h
  exact ⟨_, _, rfl, e1, .cons (.int _) (.cons (.tup e2) (.cons (.tup e3) (.cons (.bl _) .nil)))⟩
theorem atKey_some (xs : NXs) (k : NestedKey) : (atKey xs k).isSome = decide (k ∈ xs.map (·.1)) := by
  induction xs with
  | nil => rfl
  | cons x xs ih =>
    unfold atKey at ih ⊢
    rw [List.find?_cons, List.map_cons]
    by_cases h : x.1 = k
    · rw [decide_eq_true h]
      simp [h]
    · rw [decide_eq_false h]
      dsimp only
      rw [ih]
      simp [Ne.symm h]
theorem key_in {h : Hd} {n : Nat} : scK (scn h n) ∈ (List.range n).map (fun i => scK (scn h i)) ↔ scn h n ∈ (List.range n).map (scn h) := by
  constructor
  · intro hm
    obtain ⟨i, hi, e⟩ := List.mem_map.mp hm
    exact List.mem_map.mpr ⟨i, hi, scK_inj e⟩
  · intro hm
    obtain ⟨i, hi, e⟩ := List.mem_map.mp hm
    exact List.mem_map.mpr ⟨i, hi, by rw [e]⟩
/-- scenes in the heap, one for each tick -/
def Scs (H : Hp) (h : Hd) (ys : List V) (is : List Nat) : Prop := Paired (fun v i => ∃ a, v = .ref a ∧ ScAt H a (scn h i)) ys is
theorem Scs.mono {H H' : Hp} {h : Hd} : ∀ {ys : List V} {is : List Nat}, Scs H h ys is → (∀ t zs, H t = some (.tup zs) → H' t = some (.tup zs)) → Scs H' h ys is
  | [], [], .nil, _ => .nil
  | _ :: _, _ :: _, .cons ⟨a, e, q⟩ r, s => .cons ⟨a, e, q.mono s⟩ (Scs.mono r s)
theorem Scs.snoc {H : Hp} {h : Hd} : ∀ {ys : List V} {is : List Nat} {a : Addr} {i : Nat}, Scs H h ys is → ScAt H a (scn h i) → Scs H h (ys ++ [.ref a]) (is ++ [i])
  | [], [], a, i, .nil, q => .cons ⟨a, rfl, q⟩ .nil
  | _ :: _, _ :: _, a, i, .cons r t, q => .cons r (Scs.snoc t q)
theorem Scs.len {H : Hp} {h : Hd} {ys : List V} {is : List Nat} (q : Scs H h ys is) : ys.length = is.length := Paired.length q
def spScenes (K : PySem.W.Frag) (CH : Addr) : SpG := fun vs H Q _ => ∃ (hp : Addr) (h : Hd), vs = [.ref hp] ∧ HoAt K CH H hp h ∧ Tabs h.ts ∧ h.ts.length ≤ 6 ∧
  ∀ (H' : Hp) (ys : List V) (n : Nat), Same H H' → IsRep h n → n ≤ 196608 → Scs H' h ys (List.range (n + 1)) → Q ys H'
structure TxtSc (P : Program) (w : World) (K : PySem.W.Frag) (mg : Str → Option Value) (base : Heap) (CC CH fCi fAd fSn : Addr) (fdCi fdAd fdSn : FuncData) : Prop where
  gC : mg "Course" = some (.ref CC)
  M : Mk K CC fCi
  GI : FnOk P w K mg base CX0 4 fCi fdCi ["self", "house"] (spCInit K CC CH)
  bI : Binds K fdCi ["self", "house"] []
  mAd : Meth K CC "advance" fAd
  GA : FnOk P w K mg base CX0 4 fAd fdAd ["self"] (spAdv K CC CH)
  bAd : Binds K fdAd ["self"] []
  mSn : Meth K CC "scene" fSn
  GS : FnOk P w K mg base CX0 1 fSn fdSn ["self"] (spScene CC)
  bSn : Binds K fdSn ["self"] []
  cl : Cls K CC
abbrev nScs : List Str := ["house", "course", "seen"]
theorem dn_tup {P : Program} {w : World} {H : Hp} {d : Addr} {xs : NXs} {o : HO} (e : H d = some (DnO P w d xs)) : ∀ t zs, H t = some (.tup zs) → (upd H d o) t = some (.tup zs) := fun t zs h => by
  rw [upd_ne (fun z => by rw [z, e] at h; cases h)]; exact h
section
variable {P : Program} {w : World} {K : PySem.W.Frag} {mg : Str → Option Value} {base : Heap} {CC CH fCi fAd fSn : Addr} {fdCi fdAd fdSn : FuncData}
theorem scScs : GScope nScs ["house"] (defScope sScenes) := ⟨rfl, rfl, rfl, by decide +kernel, rfl, by decide +kernel, by decide +kernel⟩
theorem gok_scenes {f : Addr} {fd : FuncData} (F : Fun K "scenes_of" "scenes_of" sScenes f fd) (Z : TxtSc P w K mg base CC CH fCi fAd fSn fdCi fdAd fdSn) : GFn P w K mg base 6 f fd ["house"] (spScenes K CH) := by
  obtain ⟨oc, od, kV, doc, pm, an, cdv, ct, osl, rfl, lk, hcd⟩ := F.ex
  refine gfn_of (k := 5) lk hcd scScs (fun vs H Q E h => ?_) (fun A outer s H vs Q E pn hr h => ?_)
  · obtain ⟨hp, h, rfl, _⟩ := h
    rfl
  · obtain ⟨hp, h, rfl, hho, hT, h6, k⟩ := h
    have hr4 : Room 4 (A.deeper (envOfC (Str.ofString "scenes_of") (defScope sScenes) s.heap.objs.size f cdv)) := hr.mono (by decide)
    have hr1 : Room 1 (A.deeper (envOfC (Str.ofString "scenes_of") (defScope sScenes) s.heap.objs.size f cdv)) := hr.mono (by decide)
    have hu : (A.deeper (envOfC (Str.ofString "scenes_of") (defScope sScenes) s.heap.objs.size f cdv)).units + 16 < cLine := by have := hr.un; omega
    have hpp := per_pos hT
    refine ⟨_, gss_cons (gs_ps (ps_set (i := 1) scScs.nd rfl (.inl rfl) (pe_make Z.M Z.GI hr rfl Z.gC Z.bI .nil pass0 (pa_cons (pv 0) pa_nil))))
      (gss_cons (gs_ps (ps_expr (pe_meth0 (pv 1) Z.cl Z.mAd Z.GA hr4 Z.bAd .nil pass0)))
      (gss_cons (gs_ps (ps_set (i := 2) scScs.nd rfl (.inl rfl) (pe_newP (P := P) (w := w) rfl rfl)))
      (gss_cons (gs_while owns_gcx (pt_cmp (pc_notInP (P := P) (w := w) rfl rfl hu (pe_meth0 (pv 1) Z.cl Z.mSn Z.GS hr1 Z.bSn .nil pass0) (pv 2)) (by rfl))
        (gss_cons (gs_ps (ps_putP (P := P) (w := w) rfl rfl hu (pv 2) (pe_meth0 (pv 1) Z.cl Z.mSn Z.GS hr1 Z.bSn .nil pass0)))
        (gss_cons (gs_yield (pe_meth0 (pv 1) Z.cl Z.mSn Z.GS hr1 Z.bSn .nil pass0))
        (gss_cons (gs_ps (ps_expr (pe_meth0 (pv 1) Z.cl Z.mAd Z.GA hr4 Z.bAd .nil pass0))) gss_nil))))
      (gss_cons (gs_yield (pe_meth0 (pv 1) Z.cl Z.mSn Z.GS hr1 Z.bSn .nil pass0)) gss_nil)))), ?_⟩
    -- the course
    refine ⟨_, rfl, fun p dx hpn hdx npd => ?_⟩
    have sN : Same H (upd (upd H dx (.own p)) p (.ins CC dx [])) := fun b o e => by
      rw [upd_ne (ne_of_none e hpn), upd_ne (ne_of_none e hdx)]; exact e
    have nhp : hp ≠ p := by
      obtain ⟨⟨d, _, _, _, _, e1, _⟩⟩ := hho
      exact ne_of_none e1 hpn
    refine ⟨p, dx, hp, h, rfl, upd_same, hho.mono sN, nhp, hT, h6, fun H1 k1 co1 _ => ⟨rfl, ?_⟩⟩
    have ho1 := (hho.mono sN).kp k1 upd_same nhp
    have s1 : Same H H1 := fun b o e => k1 b o (ne_of_none e hpn) (sN _ _ e)
    obtain ⟨d1, b1, b2, b3, w1, w2, w3, w4⟩ := id co1
    have g0 := gd_stt h 0
    have hhl : ∀ n, (stt h n).home.length ≤ 50 ∧ (stt h n).carr.length ≤ 50 := fun n => by
      have g := gd_stt h n
      have a1 := up_len g.hu g.hi
      have a2 := up_len g.cu g.ci
      omega
    refine ⟨_, rfl, p, d1, _, rfl, w1, by rfl, p, hp, -1, st0 h, h, rfl, co1, ho1, nhp, hT, h6, g0.hi, (hhl 0).1, (hhl 0).2, fun H2 e2 k2 co2 _ _ => ?_⟩
    have ho2 := ho1.kp k2 w1 nhp
    have s2 : Same H H2 := fun b o e => k2 b o (ne_of_none e hpn) (s1 _ _ e)
    have co2' : CoAt CC H2 p hp ((per h.ts : Nat) : Int) ((0 : Nat) : Int) (stt h (0 + 1)) := co2
    clear co1 co2 k1 k2 s1 ho1 w1 w2 w3 w4 d1 b1 b2 b3
    intro d hd
    have s3 := same_upd (o := DnO P w d []) hd
    have np3 : p ≠ d := by
      obtain ⟨_, _, _, _, z, _⟩ := id co2'
      exact ne_of_none z hd
    have hHd : H d = none := by
      cases z : H d with
      | none => rfl
      | some o => have := s2 _ _ z; rw [hd] at this; cases this
    -- the loop
    refine ⟨fun m ys σ H' => ∃ (n : Nat) (xs : NXs), m = 196609 - n ∧ σ = [some (.ref hp), some (.ref p), some (.ref d)] ∧ CoAt CC H' p hp ((per h.ts : Nat) : Int) (n : Int) (stt h (n + 1)) ∧ HoAt K CH H' hp h ∧ H' d = some (DnO P w d xs) ∧
      xs.map (·.1) = (List.range n).map (fun i => scK (scn h i)) ∧ (∀ q ∈ xs, KAt H' q.1 q.2.1) ∧ ((List.range n).map (scn h)).Nodup ∧ Scs H' h ys (List.range n) ∧ Same H H',
      ⟨_, 0, [], rfl, rfl, co2'.mono s3, ho2.mono s3, upd_same, rfl, fun q hq => (by cases hq), .nil, .nil, s2.trans s3⟩, ?_⟩
    clear co2' ho2 s2 s3 hd
    rintro m ys σ H3 ⟨n, xs, rfl, rfl, co3, ho3, eD, ekeys, hK, nd, hS, s3⟩
    have hn := nd_le hT h6 nd
    obtain ⟨dx3, c1, c2, c3, w1, w2, w3, w4⟩ := id co3
    have hxl : xs.length = n := by
      have := congrArg List.length ekeys
      rw [List.length_map, List.length_map, List.length_range] at this
      exact this
    refine ⟨_, rfl, p, dx3, _, rfl, w1, by rfl, p, hp, _, _, _, rfl, co3, by omega, fun H4 a4 s4 sc4 => ?_⟩
    have eD4 := s4 _ _ eD
    have hK4 : ∀ q ∈ xs, KAt H4 q.1 q.2.1 := fun q hq => (hK q hq).mono fun t zs z => s4 _ _ z
    have esc : scOf ((per h.ts : Nat) : Int) (n : Int) (stt h (n + 1)) = scn h n := rfl
    rw [esc] at sc4
    refine ⟨_, rfl, d, a4, xs, scK (scn h n), rfl, rfl, eD4, hK4, scAt_key sc4, _, rfl, ?_⟩
    rw [atKey_some, ekeys]
    have co4 := co3.mono s4
    have ho4 := ho3.mono s4
    have hS4 := hS.mono fun t zs z => s4 _ _ z
    have s04 := s3.trans s4
    have w14 := s4 _ _ w1
    by_cases hin : scn h n ∈ (List.range n).map (scn h)
    · rw [decide_eq_true (key_in.mpr hin)]
      refine iteF ⟨?_, _, rfl, p, dx3, _, rfl, w14, by rfl, p, hp, _, _, _, rfl, co4, by omega, fun H5 a5 s5 sc5 => ?_⟩
      · rw [hS4.len, List.length_range]; exact Nat.lt_of_le_of_lt hn (by decide)
      rw [esc] at sc5
      refine k H5 _ n (s04.trans s5) ⟨nd, hin⟩ hn ?_
      rw [List.range_succ]
      exact (hS4.mono fun t zs z => s5 _ _ z).snoc sc5
    · rw [decide_eq_false (fun z => hin (key_in.mp z))]
      have nd' := nd_succ nd hin
      have hn' := nd_le hT h6 nd'
      refine iteT ⟨fun ys' σ' H' => ∃ (n' : Nat) (xs' : NXs), n' = n + 1 ∧ σ' = [some (.ref hp), some (.ref p), some (.ref d)] ∧ CoAt CC H' p hp ((per h.ts : Nat) : Int) (n' : Int) (stt h (n' + 1)) ∧ HoAt K CH H' hp h ∧ H' d = some (DnO P w d xs') ∧
        xs'.map (·.1) = (List.range n').map (fun i => scK (scn h i)) ∧ (∀ q ∈ xs', KAt H' q.1 q.2.1) ∧ ((List.range n').map (scn h)).Nodup ∧ Scs H' h ys' (List.range n') ∧ Same H H', fun ys' σ' H' ⟨n', xs', e, r⟩ => ⟨196609 - n', by omega, n', xs', rfl, r⟩, ?_⟩
      -- the scene is noted
      refine ⟨_, rfl, _, rfl, p, dx3, _, rfl, w14, by rfl, p, hp, _, _, _, rfl, co4, by omega, fun H5 a5 s5 sc5 => ?_⟩
      rw [esc] at sc5
      have eD5 := s5 _ _ eD4
      have hK5 : ∀ q ∈ xs, KAt H5 q.1 q.2.1 := fun q hq => (hK4 q hq).mono fun t zs z => s5 _ _ z
      have hnone : atKey xs (scK (scn h n)) = none := by
        have := atKey_some xs (scK (scn h n))
        rw [ekeys, decide_eq_false (fun z => hin (key_in.mp z))] at this
        cases z : atKey xs (scK (scn h n)) with
        | none => rfl
        | some v => rw [z] at this; cases this
      refine ⟨d, a5, xs, scK (scn h n), rfl, rfl, eD5, hK5, scAt_key sc5, hnone, by rw [hxl]; exact Nat.lt_of_le_of_lt hn (by decide), ?_⟩
      have tK := dn_tup (o := DnO P w d (xs ++ [(scK (scn h n), a5, Value.bool true)])) eD5
      have kD : Kp d H5 (upd H5 d (DnO P w d (xs ++ [(scK (scn h n), a5, Value.bool true)]))) := kp_upd
      have co6 : CoAt CC (upd H5 d (DnO P w d (xs ++ [(scK (scn h n), a5, Value.bool true)]))) p hp ((per h.ts : Nat) : Int) (n : Int) (stt h (n + 1)) := by
        obtain ⟨e5, q1, q2, q3, z1, z2, z3, z4⟩ := co4.mono s5
        have nl : ∀ a zs, H5 a = some (.lst zs) → a ≠ d := fun a zs hz z => by rw [z, eD5] at hz; cases hz
        exact ⟨e5, q1, q2, q3, kD _ _ np3 z1, kD _ _ (nl _ _ z2) z2, kD _ _ (nl _ _ z3) z3, kD _ _ (nl _ _ z4) z4⟩
      have ho6 : HoAt K CH (upd H5 d (DnO P w d (xs ++ [(scK (scn h n), a5, Value.bool true)]))) hp h := by
        obtain ⟨⟨e5, q1, q2, q3, q4, z1, z2, z3, z4, z5⟩⟩ := ho4.mono s5
        have nsq : ∀ a zs, SqT K H5 a zs → SqT K (upd H5 d (DnO P w d (xs ++ [(scK (scn h n), a5, Value.bool true)]))) a zs := fun a zs hz => by
          rcases hz with (hz | ⟨o, hz⟩) | hz
          · exact .inl (.inl (tK _ _ hz))
          · exact .inl (.inr ⟨o, kD _ _ (fun z => by rw [z, eD5] at hz; cases hz) hz⟩)
          · exact .inr hz
        exact ⟨⟨e5, q1, q2, q3, q4, kD _ _ (fun z => by rw [z, eD5] at z1; cases z1) z1, nsq _ _ z2, nsq _ _ z3, nsq _ _ z4, z5.mono tK⟩⟩
      have hK6 : ∀ q ∈ xs ++ [(scK (scn h n), a5, Value.bool true)], KAt (upd H5 d (DnO P w d (xs ++ [(scK (scn h n), a5, Value.bool true)]))) q.1 q.2.1 := fun q hq => by
        rcases List.mem_append.mp hq with hq | hq
        · exact (hK5 q hq).mono tK
        · rw [List.mem_singleton.mp hq]; exact (scAt_key sc5).mono tK
      have hS6 := (hS4.mono fun t zs z => s5 _ _ z).mono tK
      have s06 : Same H (upd H5 d (DnO P w d (xs ++ [(scK (scn h n), a5, Value.bool true)]))) := fun b o e => kD _ _ (ne_of_none e hHd) (s5 _ _ (s04 _ _ e))
      have eD6 : (upd H5 d (DnO P w d (xs ++ [(scK (scn h n), a5, Value.bool true)]))) d = some (DnO P w d (xs ++ [(scK (scn h n), a5, Value.bool true)])) := upd_same
      have ek6 : (xs ++ [(scK (scn h n), a5, Value.bool true)]).map (·.1) = (List.range (n + 1)).map (fun i => scK (scn h i)) := by
        rw [List.map_append, ekeys, List.range_succ, List.map_append]; rfl
      generalize xs ++ [(scK (scn h n), a5, Value.bool true)] = xs6 at co6 ho6 hK6 hS6 s06 eD6 ek6
      generalize upd H5 d (DnO P w d xs6) = H6 at co6 ho6 hK6 hS6 s06 eD6
      clear tK kD co4 ho4 hS4 hK4 hK5 eD4 eD5 sc4 sc5 s04 w14 hK hS co3 ho3 eD ekeys s4 s5 w1 w2 w3 w4
      obtain ⟨dx6, c1, c2, c3, w1, w2, w3, w4⟩ := id co6
      -- it is yielded
      refine ⟨by rw [hS6.len, List.length_range]; exact Nat.lt_of_le_of_lt hn (by decide), _, rfl, p, dx6, _, rfl, w1, by rfl, p, hp, _, _, _, rfl, co6, by omega, fun H7 a7 s7 sc7 => ?_⟩
      rw [esc] at sc7
      have hS7 : Scs H7 h (ys ++ [.ref a7]) (List.range (n + 1)) := by
        rw [List.range_succ]
        exact (hS6.mono fun t zs z => s7 _ _ z).snoc sc7
      -- the next tick
      have co7 := co6.mono s7
      have ho7 := ho6.mono s7
      have g := gd_stt h (n + 1)
      refine ⟨_, rfl, p, dx6, _, rfl, s7 _ _ w1, by rfl, p, hp, (n : Int), stt h (n + 1), h, rfl, co7, ho7, nhp, hT, h6, g.hi, (hhl (n + 1)).1, (hhl (n + 1)).2, fun H8 e8 k8 co8 _ _ => ?_⟩
      have tK8 := kp_tup2 k8 (s7 _ _ w1)
      refine ⟨n + 1, xs6, rfl, rfl, co8, ho7.kp k8 (s7 _ _ w1) nhp, k8 _ _ np3.symm (s7 _ _ eD6), ek6, fun q hq => ((hK6 q hq).mono fun t zs z => s7 _ _ z).mono tK8, nd', hS7.mono tK8, fun b o e => k8 _ _ (ne_of_none e hpn) (s7 _ _ (s06 _ _ e))⟩
end
end Dk

set_option Elab.async false
set_option linter.all false
set_option maxRecDepth 100000
set_option maxHeartbeats 2000000
namespace Dk
open PySem PySem.Spec PyProof.Rows L2 TL
/-! ### scenes as data -/
def dI (l : List Int) : List PyData := l.map PyData.int
def scD (x : Sc) : PyData := .tuple [.int x.1, .tuple (dI x.2.1), .tuple (dI x.2.2.1), .bool x.2.2.2]
theorem ints_eqv : ∀ l m : List Int, PyData.eqv (.tuple (dI l)) (.tuple (dI m)) = decide (l = m)
  | [], [] => rfl
  | [], _ :: _ => rfl
  | _ :: _, [] => rfl
  | a :: l, b :: m => by
    have ih := ints_eqv l m
    have e : PyData.eqv (.tuple (dI (a :: l))) (.tuple (dI (b :: m))) = ((a == b) && PyData.eqv (.tuple (dI l)) (.tuple (dI m))) := rfl
    rw [e, ih]
    by_cases h1 : a = b
    · subst h1; simp
    · simp [h1]
theorem scD_eqv (x y : Sc) : PyData.eqv (scD x) (scD y) = decide (x = y) := by
  obtain ⟨a1, a2, a3, a4⟩ := x
  obtain ⟨b1, b2, b3, b4⟩ := y
  have e : PyData.eqv (scD (a1, a2, a3, a4)) (scD (b1, b2, b3, b4)) = ((a1 == b1) && (PyData.eqv (.tuple (dI a2)) (.tuple (dI b2)) && (PyData.eqv (.tuple (dI a3)) (.tuple (dI b3)) && (PyData.eqv (.bool a4) (.bool b4) && true)))) := rfl
  have e4 : PyData.eqv (.bool a4) (.bool b4) = (a4 == b4) := by cases a4 <;> cases b4 <;> rfl
  rw [e, ints_eqv, ints_eqv, e4]
  by_cases h1 : a1 = b1 <;> by_cases h2 : a2 = b2 <;> by_cases h3 : a3 = b3 <;> by_cases h4 : a4 = b4 <;> simp [h1, h2, h3, h4]
theorem dI_lay : ∀ l : List Int, PyData.canLayAll0 (dI l) = true ∧ PyData.depthAll (dI l) = 0
  | [] => ⟨rfl, rfl⟩
  | a :: l => by
    obtain ⟨h1, h2⟩ := dI_lay l
    exact ⟨by show (true && PyData.canLayAll0 (dI l)) = true; rw [h1]; rfl, by show max 0 (PyData.depthAll (dI l)) = 0; rw [h2]; rfl⟩
theorem scD_lay (x : Sc) : PyData.canLay0 (scD x) = true ∧ PyData.depth (scD x) ≤ 2 := by
  obtain ⟨h1, h2⟩ := dI_lay x.2.1
  obtain ⟨h3, h4⟩ := dI_lay x.2.2.1
  refine ⟨?_, ?_⟩
  · show (true && (PyData.canLayAll0 (dI x.2.1) && (PyData.canLayAll0 (dI x.2.2.1) && (true && true)))) = true
    rw [h1, h3]; rfl
  · show max 0 (max (PyData.depthAll (dI x.2.1) + 1) (max (PyData.depthAll (dI x.2.2.1) + 1) (max 0 0))) + 1 ≤ 2
    rw [h2, h4]; decide
theorem scD_shaped (x : Sc) : SeqAt.shaped (scD x) = true := by
  obtain ⟨h1, h2⟩ := scD_lay x
  unfold SeqAt.shaped
  rw [h1, decide_eq_true (show PyData.depth (scD x) ≤ 64 by omega)]; rfl
theorem scDs_shaped (l : List Sc) : SeqAt.shaped (.list (l.map scD)) = true := by
  have h1 : PyData.canLayAll0 (l.map scD) = true ∧ PyData.depthAll (l.map scD) ≤ 2 := by
    induction l with
    | nil => exact ⟨rfl, by show 0 ≤ 2; decide⟩
    | cons x l ih =>
      obtain ⟨i1, i2⟩ := ih
      obtain ⟨j1, j2⟩ := scD_lay x
      exact ⟨by show (PyData.canLay0 (scD x) && PyData.canLayAll0 (l.map scD)) = true; rw [i1, j1]; rfl, by show max (PyData.depth (scD x)) (PyData.depthAll (l.map scD)) ≤ 2; omega⟩
  unfold SeqAt.shaped
  rw [show PyData.canLay0 (.list (l.map scD)) = true from h1.1, decide_eq_true (show PyData.depth (.list (l.map scD)) ≤ 64 by show PyData.depthAll (l.map scD) + 1 ≤ 64; omega)]
  rfl
theorem dpAll_dI {K : PySem.W.Frag} {H : Hp} : ∀ l : List Int, DpAll K H (l.map V.int) (dI l)
  | [] => .nil
  | a :: l => .cons (.int a) (dpAll_dI l)
theorem sc_dp {K : PySem.W.Frag} {H : Hp} {a : Addr} {x : Sc} (h : ScAt H a x) : Dp K H (.ref a) (scD x) := by
  obtain ⟨b, d, e1, e2, e3⟩ := h
  exact .tup (SqT.of e1) (.cons (.int _) (.cons (.tup (SqT.of e2) (dpAll_dI _)) (.cons (.tup (SqT.of e3) (dpAll_dI _)) (.cons (.bl _) .nil))))
theorem scs_dp {K : PySem.W.Frag} {H : Hp} {h : Hd} : ∀ {ys : List V} {is : List Nat}, Scs H h ys is → DpAll K H ys ((is.map (scn h)).map scD)
  | [], [], .nil => .nil
  | _ :: _, _ :: _, .cons ⟨a, e, q⟩ r => by rw [e]; exact .cons (sc_dp q) (scs_dp r)
/-! ### the cycle -/
structure IsCyc (h : Hd) (b n : Nat) : Prop where
  lt : b < n
  eq : scn h b = scn h n
  ne : ∀ j, j < b → scn h j ≠ scn h n
  rp : IsRep h n
  le : n ≤ 196608
theorem cyc_of {h : Hd} {n : Nat} (r : IsRep h n) (hn : n ≤ 196608) : ∃ b, IsCyc h b n := by
  obtain ⟨i, hi, e⟩ := List.mem_map.mp r.re
  have hi := List.mem_range.mp hi
  have key : ∀ k, k ≤ i → (∃ j, j ≤ k ∧ scn h j = scn h n ∧ ∀ m, m < j → scn h m ≠ scn h n) ∨ ∀ m, m ≤ k → scn h m ≠ scn h n := by
    intro k
    induction k with
    | zero =>
      intro _
      by_cases c : scn h 0 = scn h n
      · exact .inl ⟨0, Nat.le_refl _, c, fun m hm => absurd hm (Nat.not_lt_zero _)⟩
      · exact .inr fun m hm => by rw [Nat.le_zero.mp hm]; exact c
    | succ k ih =>
      intro hk
      rcases ih (by omega) with ⟨j, hj, r⟩ | r
      · exact .inl ⟨j, by omega, r⟩
      · by_cases c : scn h (k + 1) = scn h n
        · exact .inl ⟨k + 1, Nat.le_refl _, c, fun m hm => r m (by omega)⟩
        · refine .inr fun m hm => ?_
          by_cases q : m = k + 1
          · rw [q]; exact c
          · exact r m (by omega)
  rcases key i (Nat.le_refl _) with ⟨j, hj, c, r'⟩ | r'
  · exact ⟨j, by omega, c, r', r, hn⟩
  · exact absurd e (r' i (Nat.le_refl _))
def spFind (K : PySem.W.Frag) (CH : Addr) : Sp := fun vs H Q _ => ∃ (hp : Addr) (h : Hd), vs = [.ref hp] ∧ HoAt K CH H hp h ∧ Tabs h.ts ∧ h.ts.length ≤ 6 ∧
  ∀ (H' : Hp) (a : Addr) (b n : Nat), Same H H' → IsCyc h b n → H' a = some (.tup [.int (b : Int), .int ((n : Int) - (b : Int))]) → Q (.ref a) H'
def spAfter (K : PySem.W.Frag) (CC CH : Addr) : Sp := fun vs H Q _ => ∃ (hp : Addr) (h : Hd) (m : Nat), vs = [.ref hp, .int ((m : Int) - 1)] ∧ HoAt K CH H hp h ∧ Tabs h.ts ∧ h.ts.length ≤ 6 ∧
  ∀ (H' : Hp) (p : Addr), Same H H' → H p = none → CoAt CC H' p hp ((per h.ts : Nat) : Int) ((m : Int) - 1) (stt h m) → hp ≠ p → (∃ a, HomeAt H' p a ∧ H a = none) → Q (.ref p) H'
/-- the list of the scenes up to the first that was there before -/
def spCyc (K : PySem.W.Frag) : Sp := fun vs H Q _ => ∃ (q : Addr) (h : Hd) (ys : List V) (b n : Nat), vs = [.ref q] ∧ H q = some (.lst ys) ∧ Scs H h ys (List.range (n + 1)) ∧ IsCyc h b n ∧
  ∀ (H' : Hp) (a : Addr), Same H H' → H' a = some (.tup [.int (b : Int), .int ((n : Int) - (b : Int))]) → Q (.ref a) H'
def earlyI (t b l : Int) : Int := if t < b then t else b + (t - b) % l
def spEarly : Sp := fun vs H Q _ => ∃ t b l : Int, vs = [.int t, .int b, .int l] ∧ 0 < l ∧ Q (.int (earlyI t b l)) H
structure TxtFc (K : PySem.W.Frag) (mg : Str → Option Value) (fSo fFc : Addr) (fdSo fdFc : FuncData) : Prop where
  gSo : mg "scenes_of" = some (.ref fSo)
  FSo : Fun K "scenes_of" "scenes_of" sScenes fSo fdSo
  bSo : Binds K fdSo ["house"] []
  gFc : mg "find_cycle" = some (.ref fFc)
  FFc : Fun K "find_cycle" "find_cycle" sFindC fFc fdFc
  bFc : Binds K fdFc ["house"] []
  list : mg "list" = none
  cy : ∃ fCy fdCy, mg "cycle_of" = some (.ref fCy) ∧ Fun K "cycle_of" "cycle_of" sCyc fCy fdCy ∧ Binds K fdCy ["scenes"] []
  et : ∃ fEt fdEt, mg "early_tick" = some (.ref fEt) ∧ Fun K "early_tick" "early_tick" sEarly fEt fdEt ∧ Binds K fdEt ["tick", "begin", "length"] []
abbrev nAfter : List Str := ["house", "tick", "begin", "length", "course", "_"]
section
variable {P : Program} {w : World} {K : PySem.W.Frag} {mg : Str → Option Value} {base : Heap} {CC CH fCi fAd fSn : Addr} {fdCi fdAd fdSn : FuncData} {fSo fFc : Addr} {fdSo fdFc : FuncData} {fHL : Addr} {fdHL : FuncData}
theorem scCyc : FnScope ["scenes", "begin"] ["scenes"] (defScope sCyc) := ⟨rfl, rfl, rfl, by decide +kernel, rfl, by decide +kernel, by decide +kernel⟩
theorem ok_cyc {f : Addr} {fd : FuncData} (F : Fun K "cycle_of" "cycle_of" sCyc f fd) (T : TxtA mg) : FnOk P w K mg base CX0 1 f fd ["scenes"] (spCyc K) := by
  refine F.ok scCyc (fun vs H Q E h => ?_) (fun cdv A outer s H vs Q E hr h => ?_)
  · obtain ⟨q, h, ys, b, n, rfl, _⟩ := h
    rfl
  · obtain ⟨q, h, ys, b, n, rfl, eq, hS2, cy, k⟩ := h
    have hu : (A.deeper (envOfC (Str.ofString "cycle_of") (defScope sCyc) s.heap.objs.size f cdv)).units + 65 < cLine := by have := hr.un; omega
    refine ⟨_, pss_cons (ps_set (i := 1) scCyc.nd rfl (.inl rfl) (pe_bm PySem.F.plainAttrs_list PySem.F.slot_list_index PySem.F.type_list_index (mt_indexD hu) (pv 0) (pa_cons (pe_ix ix_list (pv 0) (pe_un un_neg pe_int) (fun _ _ => rfl)) pa_nil)))
      (pss_one (ps_ret (pe_tup (pa_cons (pv 1) (pa_cons (pe_op op_sub (pe_op op_sub (pe_callB call_len_seq (by rfl) T.len PySem.boot_len (pa_cons (pv 0) pa_nil)) pe_int) (pv 1)) pa_nil))))), ?_⟩
    have hyl : ys.length = n + 1 := by rw [hS2.len, List.length_range]
    obtain ⟨y, hy, a, rfl, ha⟩ : ∃ y, ys[n]? = some y ∧ ∃ a, y = .ref a ∧ ScAt H a (scn h n) := by
      have hx : n < ys.length := by omega
      refine ⟨ys[n], List.getElem?_eq_getElem hx, ?_⟩
      have key : ∀ {ys : List V} {is : List Nat} {j i : Nat} {y : V}, Scs H h ys is → ys[j]? = some y → is[j]? = some i → ∃ a, y = .ref a ∧ ScAt H a (scn h i) := by
        intro ys is
        induction ys generalizing is with
        | nil => intro j i y q e; simp at e
        | cons y0 ys ih =>
          intro j i y q e1 e2
          cases q with
          | cons r t =>
            cases j with
            | zero => simp at e1 e2; rw [← e1, ← e2]; exact r
            | succ j => exact ih t (by simpa using e1) (by simpa using e2)
      exact key hS2 (List.getElem?_eq_getElem hx) (by rw [List.getElem?_range (by omega)])
    have elast : atI ys (-1) = some (.ref a) := by
      have e1 : ixN ys.length (-1) = some n := by
        unfold ixN
        rw [if_neg (by decide), if_pos (by omega), hyl]
        congr 1
        omega
      unfold atI
      rw [e1]
      exact hy
    have hgt : ∀ j, j < n + 1 → (((List.range (n + 1)).map (scn h)).map scD)[j]? = some (scD (scn h j)) := fun j hj => by
      rw [List.getElem?_map, List.getElem?_map, List.getElem?_range hj]; rfl
    refine ⟨_, rfl, .inl ⟨rfl, _, SqL.of eq⟩, _, rfl, _, rfl, q, _, _, _, rfl, rfl, SqL.of eq, elast, q, .ref a, scD (scn h n), ((List.range (n + 1)).map (scn h)).map scD, b, scD (scn h b), rfl, rfl, .lst (SqL.of eq) (scs_dp hS2), sc_dp ha, scDs_shaped _, scD_shaped _, hgt b (by have := cy.lt; omega), ?_, fun m z hm hz => ?_, ?_⟩
    · rw [scD_eqv, cy.eq]; exact decide_eq_true rfl
    · rw [hgt m (by have := cy.lt; omega)] at hz
      cases hz
      rw [scD_eqv]
      exact decide_eq_false (cy.ne m hm)
    refine ⟨_, rfl, _, rfl, q, _, rfl, .inl (SqL.of eq), _, _, rfl, rfl, _, rfl, _, _, rfl, rfl, by show 2 ≤ sizeLine; decide, fun u hu' => ?_⟩
    refine k _ u (same_upd hu') ?_
    rw [upd_same, hyl]
    have : ((n + 1 : Nat) : Int) - 1 - (b : Int) = (n : Int) - (b : Int) := by omega
    show some (HO.tup [V.int (b : Int), V.int (((n + 1 : Nat) : Int) - 1 - (b : Int))]) = _
    rw [this]
theorem scEarly : FnScope ["tick", "begin", "length"] ["tick", "begin", "length"] (defScope sEarly) := ⟨rfl, rfl, rfl, by decide +kernel, rfl, by decide +kernel, by decide +kernel⟩
theorem ok_early {f : Addr} {fd : FuncData} (F : Fun K "early_tick" "early_tick" sEarly f fd) : FnOk P w K mg base CX0 1 f fd ["tick", "begin", "length"] spEarly := by
  refine F.ok scEarly (fun vs H Q E h => ?_) (fun cdv A outer s H vs Q E hr h => ?_)
  · obtain ⟨t, b, l, rfl, _⟩ := h
    rfl
  · obtain ⟨t, b, l, rfl, hl, k⟩ := h
    refine ⟨_, pss_cons (ps_if (pt_cmpR op_lt (pv 0) (pv 1) (nomark _)) (pss_one (ps_ret (pv 0))) pss_nil) (pss_one (ps_ret (pe_op op_add (pv 1) (pe_op op_mod (pe_op op_sub (pv 0) (pv 1)) (pv 2))))), ?_⟩
    unfold earlyI at k
    refine ⟨_, rfl, _, rfl, _, _, rfl, rfl, _, rfl, ite2 (fun c => ?_) (fun c => ?_)⟩
    · have c := of_decide_eq_true c
      rw [if_pos c] at k
      exact ⟨_, rfl, k⟩
    · have c : ¬ t < b := fun z => c (decide_eq_true z)
      rw [if_neg c] at k
      exact ⟨_, rfl, _, rfl, _, rfl, _, _, rfl, rfl, _, rfl, _, _, rfl, rfl, hl, _, _, rfl, rfl, k⟩
theorem scFind : FnScope ["house"] ["house"] (defScope sFindC) := ⟨rfl, rfl, rfl, by decide +kernel, rfl, by decide +kernel, by decide +kernel⟩
theorem ok_find (Z : TxtSc P w K mg base CC CH fCi fAd fSn fdCi fdAd fdSn) (FC : TxtFc K mg fSo fFc fdSo fdFc) (T : TxtA mg) : FnOk P w K mg base CX0 10 fFc fdFc ["house"] (spFind K CH) := by
  have GS : GFn P w K mg base 6 fSo fdSo ["house"] (spScenes K CH) := gok_scenes FC.FSo Z
  obtain ⟨fCy, fdCy, gCy, FCy, bCy⟩ := FC.cy
  have GC : FnOk P w K mg base CX0 1 fCy fdCy ["scenes"] (spCyc K) := ok_cyc FCy T
  refine FC.FFc.ok scFind (fun vs H Q E h => ?_) (fun cdv A outer s H vs Q E hr h => ?_)
  · obtain ⟨hp, h, rfl, _⟩ := h
    rfl
  · obtain ⟨hp, h, rfl, hho, hT, h6, k⟩ := h
    have hr6 : Room 6 (A.deeper (envOfC (Str.ofString "find_cycle") (defScope sFindC) s.heap.objs.size fFc cdv)) := hr.mono (by decide)
    have hr1 : Room 1 (A.deeper (envOfC (Str.ofString "find_cycle") (defScope sFindC) s.heap.objs.size fFc cdv)) := hr.mono (by decide)
    refine ⟨_, pss_one (ps_ret (pe_call GC hr1 rfl gCy FCy.kp bCy .nil pass0 (pa_cons (pe_listG (E := E0) (pgen_call GS hr6 rfl FC.gSo FC.FSo.kp FC.bSo .nil (pa_cons (pv 0) pa_nil)) passL (fun _ _ _ z => z.elim) hr (by rfl) FC.list (by decide +kernel)) pa_nil))), ?_⟩
    refine ⟨_, rfl, hp, h, rfl, hho, hT, h6, fun H1 ys n s1 rp hn hS q hq => ?_⟩
    obtain ⟨b, cy⟩ := cyc_of rp hn
    have s2 := same_upd (o := .lst ys) hq
    have eq : (upd H1 q (.lst ys)) q = some (.lst ys) := upd_same
    have hS2 := hS.mono fun t zs z => s2 _ _ z
    exact ⟨q, h, ys, b, n, rfl, eq, hS2, cy, fun H' a s3 ea => k H' a b n ((s1.trans s2).trans s3) cy ea⟩
theorem scAfter : FnScope nAfter ["house", "tick"] (defScope sCAfter) := ⟨rfl, rfl, rfl, by decide +kernel, rfl, by decide +kernel, by decide +kernel⟩
/-- the number of early ticks is known: one less than j, and after j ticks all is as after m -/
structure CondAf (K : PySem.W.Frag) (CC CH : Addr) (D : Ends) (σ : L2.St) (H : Hp) : Prop where
  ex : ∃ (hp : Addr) (h : Hd) (m j : Nat) (b l : Int) (v5 v6 : Option V), σ = [some (.ref hp), some (.int ((m : Int) - 1)), some (.int b), some (.int l), v5, v6] ∧ 0 < l ∧ earlyI ((m : Int) - 1) b l = (j : Int) - 1 ∧ HoAt K CH H hp h ∧ Tabs h.ts ∧ h.ts.length ≤ 6 ∧ j ≤ 400000 ∧ stt h j = stt h m ∧
    ∀ (H' : Hp) (p : Addr), Same H H' → H p = none → CoAt CC H' p hp ((per h.ts : Nat) : Int) ((m : Int) - 1) (stt h m) → hp ≠ p → (∃ a, HomeAt H' p a ∧ H a = none) → D.rt (.ref p) H'
theorem after_tail {f : Addr} {cdv : Value} {A : Around} {outer : List Env} {s : Shared} {H : Hp} {E : XK} (hr : Room 10 (A.deeper (envOfC (Str.ofString "course_after") (defScope sCAfter) s.heap.objs.size f cdv)))
    (Z : TxtSc P w K mg base CC CH fCi fAd fSn fdCi fdAd fdSn) (FC : TxtFc K mg fSo fFc fdSo fdFc) (T : TxtA mg) (C' : TxtCo K mg CC CH fHL fdHL) :
    ∃ t, PSs (cxOf CX0 P w K mg base nAfter "course_after" (defScope sCAfter) f cdv A outer s H E).nox ((defBody sCAfter).drop 1) t ∧ ∀ D σ H2, CondAf K CC CH D σ H2 → t D σ H2 := by
  have hr5 : Room 5 (A.deeper (envOfC (Str.ofString "course_after") (defScope sCAfter) s.heap.objs.size f cdv)) := hr.mono (by decide)
  have hr4 : Room 4 (A.deeper (envOfC (Str.ofString "course_after") (defScope sCAfter) s.heap.objs.size f cdv)) := hr.mono (by decide)
  have hr1 : Room 1 (A.deeper (envOfC (Str.ofString "course_after") (defScope sCAfter) s.heap.objs.size f cdv)) := hr.mono (by decide)
  obtain ⟨fEt, fdEt, gEt, FEt, bEt⟩ := FC.et
  have GE : FnOk P w K mg base CX0 1 fEt fdEt ["tick", "begin", "length"] spEarly := ok_early FEt
  refine ⟨_, pss_cons (ps_set (i := 4) scAfter.nd rfl (.inl rfl) (pe_make Z.M Z.GI hr5 rfl Z.gC Z.bI .nil pass0 (pa_cons (pv 0) pa_nil)))
      (pss_cons (ps_for PassesOwn.never rfl (pi_range1 rfl T.range (pa_cons (pe_op op_add (pe_call GE hr1 rfl gEt FEt.kp bEt .nil pass0 (pa_cons (pv 1) (pa_cons (pv 2) (pa_cons (pv 3) pa_nil)))) pe_int) pa_nil)) (pg_name (i := 5) scAfter.nd rfl (.inl rfl)) (pss_one (ps_expr (pe_meth0 (pv 4) Z.cl Z.mAd Z.GA hr4 Z.bAd .nil pass0))))
      (pss_cons (ps_fld (pv 4) (pv 1) rfl) (pss_one (ps_ret (pv 4))))), fun D σ H1 hc => ?_⟩
  obtain ⟨⟨hp, h, m, j, b, l, v5, v6, rfl, hl, hej, hho, hT, h6, hj, hjm, k⟩⟩ := hc
  refine ⟨_, rfl, fun p dx hpn hdx npd => ?_⟩
  have sN : Same H1 (upd (upd H1 dx (.own p)) p (.ins CC dx [])) := fun b o e => by
    rw [upd_ne (ne_of_none e hpn), upd_ne (ne_of_none e hdx)]; exact e
  have nhp : hp ≠ p := by
    obtain ⟨⟨d, _, _, _, _, e1, _⟩⟩ := hho
    exact ne_of_none e1 hpn
  refine ⟨p, dx, hp, h, rfl, upd_same, hho.mono sN, nhp, hT, h6, fun H2 k2 co2 hm2 => ⟨rfl, ?_⟩⟩
  have hm2' : ∃ a, HomeAt H2 p a ∧ H1 a = none := by
    obtain ⟨a, ha, hn⟩ := hm2
    exact ⟨a, ha, sN.free hn⟩
  have ho2 := (hho.mono sN).kp k2 upd_same nhp
  have s2 : Same H1 H2 := fun b o e => k2 b o (ne_of_none e hpn) (sN _ _ e)
  have co2' : CoAt CC H2 p hp ((per h.ts : Nat) : Int) (((0 : Nat) : Int) - 1) (stt h 0) := co2
  have hhl : ∀ n, (stt h n).home.length ≤ 50 ∧ (stt h n).carr.length ≤ 50 := fun n => by
    have g := gd_stt h n
    have a1 := up_len g.hu g.hi
    have a2 := up_len g.cu g.ci
    omega
  refine ⟨_, rfl, _, rfl, _, rfl, (m : Int) - 1, b, l, rfl, hl, ?_⟩
  rw [hej]
  refine ⟨_, _, rfl, rfl, _, rfl, ?_, ?_, for_range (lo := 0) (n := ((j : Int) - 1 + 1).toNat)
    (fun i σ H' => ∃ (v6 : Option V), σ = [some (.ref hp), some (.int ((m : Int) - 1)), some (.int b), some (.int l), some (.ref p), v6] ∧ CoAt CC H' p hp ((per h.ts : Nat) : Int) ((i : Int) - 1) (stt h i) ∧ HoAt K CH H' hp h ∧ Same H1 H' ∧ ∃ a, HomeAt H' p a ∧ H1 a = none)
    ⟨_, rfl, co2', ho2, s2, hm2'⟩ ?_ ?_⟩
  · omega
  · omega
  · rintro i σ H3 hi ⟨v6, rfl, co3, ho3, s3, hm3⟩
    obtain ⟨d3, c1, c2, c3, w1, w2, w3, w4⟩ := id co3
    have g := gd_stt h i
    refine ⟨_, rfl, p, d3, _, rfl, w1, by rfl, p, hp, (i : Int) - 1, stt h i, h, rfl, co3, ho3, nhp, hT, h6, g.hi, (hhl i).1, (hhl i).2, fun H4 e4 k4 co4 _ hm4 => ?_⟩
    have e1 : (i : Int) - 1 + 1 = (i : Int) := by omega
    rw [e1] at co4
    have e2 : ((i + 1 : Nat) : Int) - 1 = (i : Int) := by omega
    refine ⟨_, rfl, ?_, ho3.kp k4 w1 nhp, fun b o e => k4 _ _ (ne_of_none e hpn) (s3 _ _ e), ?_⟩
    rotate_left
    · obtain ⟨a, ha, hn⟩ := hm4
      exact ⟨a, ha, s3.free hn⟩
    rw [e2]
    exact co4
  · rintro σ H3 ⟨v6, rfl, co3, ho3, s3, hm3⟩
    have en : ((j : Int) - 1 + 1).toNat = j := by omega
    rw [en] at co3
    obtain ⟨d3, c1, c2, c3, w1, w2, w3, w4⟩ := co3
    refine ⟨_, rfl, _, rfl, p, CC, d3, _, rfl, w1, C'.cl, C'.nTk, by show 7 < 1000; decide, ?_⟩
    rw [putF_tick]
    have kk : Kp p H3 (upd H3 p (.ins CC d3 (cFields (.ref hp) (.int ((per h.ts : Nat) : Int)) (.int ((m : Int) - 1)) (.ref c1) (.ref c2) (.ref c3) (.bl (stt h j).opn)))) := kp_upd
    have np : ∀ a xs, H3 a = some (.lst xs) → a ≠ p := fun a xs ha z => by rw [z, w1] at ha; cases ha
    refine ⟨_, rfl, k _ p (fun b o e => kk _ _ (ne_of_none e hpn) (s3 _ _ e)) hpn ?_ nhp (by
      obtain ⟨a, ha, hn⟩ := hm3
      exact ⟨a, ha.put w1 upd_same (by rfl), hn⟩)⟩
    rw [← hjm]
    exact ⟨d3, c1, c2, c3, upd_same, kk _ _ (np _ _ w2) w2, kk _ _ (np _ _ w3) w3, kk _ _ (np _ _ w4) w4⟩
theorem ok_after {f : Addr} {fd : FuncData} (F : Fun K "course_after" "course_after" sCAfter f fd) (Z : TxtSc P w K mg base CC CH fCi fAd fSn fdCi fdAd fdSn) (FC : TxtFc K mg fSo fFc fdSo fdFc) (T : TxtA mg) (C' : TxtCo K mg CC CH fHL fdHL) : FnOk P w K mg base CX0 11 f fd ["house", "tick"] (spAfter K CC CH) := by
  have GF : FnOk P w K mg base CX0 10 fFc fdFc ["house"] (spFind K CH) := ok_find Z FC T
  refine F.ok scAfter (fun vs H Q E h => ?_) (fun cdv A outer s H vs Q E hr h => ?_)
  · obtain ⟨hp, h, m, rfl, _⟩ := h
    rfl
  · obtain ⟨hp, h, m, rfl, hho, hT, h6, k⟩ := h
    obtain ⟨tn, htn, hnx⟩ := after_tail hr Z FC T C' (cdv := cdv) (outer := outer) (H := H) (E := E)
    refine ⟨_, pss_cons (ps_asg (pe_call GF hr rfl FC.gFc FC.FFc.kp FC.bFc .nil pass0 (pa_cons (pv 0) pa_nil)) (pg_tup rfl (pgs_cons (pg_name (i := 2) scAfter.nd rfl (.inl rfl)) (pgs_cons (pg_name (i := 3) scAfter.nd rfl (.inl rfl)) pgs_nil)))) htn, ?_⟩
    refine ⟨_, rfl, hp, h, rfl, hho, hT, h6, fun H1 a b n s1 cy ea => ?_⟩
    refine ⟨a, _, rfl, SqT.of ea, rfl, _, _, rfl, _, _, rfl, rfl, ?_⟩
    have ho1 := hho.mono s1
    have lt := cy.lt
    have le := cy.le
    have k' : ∀ (H' : Hp) (p : Addr), Same H1 H' → H1 p = none → CoAt CC H' p hp ((per h.ts : Nat) : Int) ((m : Int) - 1) (stt h m) → hp ≠ p → (∃ a, HomeAt H' p a ∧ H1 a = none) → Q (.ref p) H' := fun H' p s2 hn co np ⟨a, ha, hq⟩ => k H' p (s1.trans s2) (s1.free hn) co np ⟨a, ha, s1.free hq⟩
    by_cases c : (m : Int) - 1 < (b : Int)
    · refine hnx _ _ _ ⟨⟨hp, h, m, m, _, _, _, _, rfl, by omega, ?_, ho1, hT, h6, by omega, rfl, k'⟩⟩
      unfold earlyI; rw [if_pos c]
    · have e1 : (b : Int) + ((m : Int) - 1 - (b : Int)) % ((n : Int) - (b : Int)) = ((b + (m - 1 - b) % (n - b) + 1 : Nat) : Int) - 1 := by
        have e2 : (m : Int) - 1 - (b : Int) = ((m - 1 - b : Nat) : Int) := by omega
        have e3 : (n : Int) - (b : Int) = ((n - b : Nat) : Int) := by omega
        rw [e2, e3, ← Int.natCast_emod]
        omega
      refine hnx _ _ _ ⟨⟨hp, h, m, b + (m - 1 - b) % (n - b) + 1, _, _, _, _, rfl, by omega, ?_, ho1, hT, h6, ?_, ?_, k'⟩⟩
      · unfold earlyI; rw [if_neg c]; exact e1
      · have := Nat.mod_lt (m - 1 - b) (show 0 < n - b by omega)
        omega
      · by_cases hm : b < m - 1
        · rw [stt_near hT cy.eq lt hm]
          congr 1
          omega
        · have hm1 : m = b + 1 := by omega
          subst hm1
          simp
end
end Dk

set_option Elab.async false
set_option linter.all false
set_option maxRecDepth 100000
set_option maxHeartbeats 1000000
namespace Dk
open PySem PySem.Spec PyProof.Rows L2 TL
theorem ps_never {X : Cx} {st : Stmt} : PS X st (fun _ _ _ => False) := ⟨fun _ _ _ _ _ _ h => h.elim⟩
def lastT : Int := 1000000000000000000
def spTk : Sp := fun vs H Q _ => ∃ t : Int, vs = [.int t] ∧ 0 ≤ t ∧ t ≤ lastT ∧ ∀ H', Same H H' → Q .non H'
def spCp : Sp := fun vs H Q _ => ∃ p n : Int, vs = [.int p, .int n] ∧ 0 ≤ p ∧ p < n ∧ ∀ H', Same H H' → Q .non H'
/-- asked of a house after a tick -/
def spAsk (K : PySem.W.Frag) (CH : Addr) (ans : Hd → Cs → V → Hp → Hp → Prop) : Sp := fun vs H Q _ => ∃ (hp : Addr) (h : Hd) (n : Nat), vs = [.ref hp, .int (n : Int)] ∧ HoAt K CH H hp h ∧ Tabs h.ts ∧ h.ts.length ≤ 6 ∧ (n : Int) ≤ lastT ∧
  ∀ (H' : Hp) (v : V), Same H H' → ans h (stt h (n + 1)) v H H' → Q v H'
def ansHome : Hd → Cs → V → Hp → Hp → Prop := fun _ c v H H' => ∃ a, v = .ref a ∧ H a = none ∧ H' a = some (.lst (c.home.map V.int))
def ansWait : Hd → Cs → V → Hp → Hp → Prop := fun _ c v _ H' => ∃ a, v = .ref a ∧ H' a = some (.tup (c.wait.map V.int))
def ansHold : Hd → Cs → V → Hp → Hp → Prop := fun _ c v _ H' => ∃ a, v = .ref a ∧ H' a = some (.tup (c.carr.map V.int))
def ansHook : Hd → Cs → V → Hp → Hp → Prop := fun h c v _ _ => v = .int (h.ks - (c.carr.length : Int))
def ansOpen : Hd → Cs → V → Hp → Hp → Prop := fun _ c v _ _ => v = .bl c.opn
structure TxtAs (K : PySem.W.Frag) (mg : Str → Option Value) (fCt fCa : Addr) (fdCt fdCa : FuncData) : Prop where
  gCt : mg "check_tick" = some (.ref fCt)
  FCt : Fun K "check_tick" "check_tick" sChkTick fCt fdCt
  bCt : Binds K fdCt ["tick"] []
  gCa : mg "course_after" = some (.ref fCa)
  FCa : Fun K "course_after" "course_after" sCAfter fCa fdCa
  bCa : Binds K fdCa ["house", "tick"] []
  last : ∃ t, mg "LAST_TICK" = some (.int lastT t)
section
variable {P : Program} {w : World} {K : PySem.W.Frag} {mg : Str → Option Value} {base : Heap} {CC CH fCi fAd fSn : Addr} {fdCi fdAd fdSn : FuncData} {fSo fFc : Addr} {fdSo fdFc : FuncData} {fHL : Addr} {fdHL : FuncData} {fII fIB fHO : Addr} {fdII fdIB fdHO : FuncData} {fCt fCa : Addr} {fdCt fdCa : FuncData}
theorem scTk : FnScope ["tick"] ["tick"] (defScope sChkTick) := ⟨rfl, rfl, rfl, by decide +kernel, rfl, by decide +kernel, by decide +kernel⟩
theorem ok_tk (AS : TxtAs K mg fCt fCa fdCt fdCa) (TF : TxtF K mg fII fIB fHO fdII fdIB fdHO) : FnOk P w K mg base CX0 3 fCt fdCt ["tick"] spTk := by
  have GB : FnOk P w K mg base CX0 2 fIB fdIB ["value", "limit"] (spIsBelow K) := ok_isbelow TF
  obtain ⟨tl, el⟩ := AS.last
  refine AS.FCt.ok scTk (fun vs H Q E h => ?_) (fun cdv A outer s H vs Q E hr h => ?_)
  · obtain ⟨t, rfl, _⟩ := h
    rfl
  · obtain ⟨t, rfl, h0, h1, k⟩ := h
    refine ⟨_, pss_one (ps_if (pt_not (pt_val (pe_call GB hr rfl TF.gIB TF.FIB.kp TF.bIB .nil pass0 (pa_cons (pv 0) (pa_cons (pe_op op_add (pe_glob (v := .int lastT) rfl el ⟨_, rfl⟩) pe_int) pa_nil))))) (pss_one ps_never) pss_nil), ?_⟩
    refine ⟨_, rfl, _, _, rfl, rfl, .int t, .int t, lastT + 1, rfl, .int t, _, rfl, ?_⟩
    rw [below_is h0 (by omega : t < lastT + 1)]
    exact iteF (k H (Same.refl H))
theorem scCp : FnScope ["person", "persons"] ["person", "persons"] (defScope sChkPerson) := ⟨rfl, rfl, rfl, by decide +kernel, rfl, by decide +kernel, by decide +kernel⟩
theorem ok_cp {f : Addr} {fd : FuncData} (F : Fun K "check_person" "check_person" sChkPerson f fd) (TF : TxtF K mg fII fIB fHO fdII fdIB fdHO) : FnOk P w K mg base CX0 3 f fd ["person", "persons"] spCp := by
  have GB : FnOk P w K mg base CX0 2 fIB fdIB ["value", "limit"] (spIsBelow K) := ok_isbelow TF
  refine F.ok scCp (fun vs H Q E h => ?_) (fun cdv A outer s H vs Q E hr h => ?_)
  · obtain ⟨p, n, rfl, _⟩ := h
    rfl
  · obtain ⟨p, n, rfl, h0, h1, k⟩ := h
    refine ⟨_, pss_one (ps_if (pt_not (pt_val (pe_call GB hr rfl TF.gIB TF.FIB.kp TF.bIB .nil pass0 (pa_cons (pv 0) (pa_cons (pv 1) pa_nil))))) (pss_one ps_never) pss_nil), ?_⟩
    refine ⟨_, rfl, _, rfl, .int p, .int p, n, rfl, .int p, _, rfl, ?_⟩
    rw [below_is h0 h1]
    exact iteF (k H (Same.refl H))
theorem scAsk (st : Stmt) (h : FnScope ["house", "tick"] ["house", "tick"] (defScope st)) : FnScope ["house", "tick"] ["house", "tick"] (defScope st) := h
theorem scAtHome : FnScope ["house", "tick"] ["house", "tick"] (defScope sAtHome) := ⟨rfl, rfl, rfl, by decide +kernel, rfl, by decide +kernel, by decide +kernel⟩
theorem scWaiting : FnScope ["house", "tick"] ["house", "tick"] (defScope sWaiting) := ⟨rfl, rfl, rfl, by decide +kernel, rfl, by decide +kernel, by decide +kernel⟩
theorem scHolders : FnScope ["house", "tick"] ["house", "tick"] (defScope sHolders) := ⟨rfl, rfl, rfl, by decide +kernel, rfl, by decide +kernel, by decide +kernel⟩
theorem scHook : FnScope ["house", "tick"] ["house", "tick"] (defScope sHook) := ⟨rfl, rfl, rfl, by decide +kernel, rfl, by decide +kernel, by decide +kernel⟩
theorem scIsOpen : FnScope ["house", "tick"] ["house", "tick"] (defScope sIsOpen) := ⟨rfl, rfl, rfl, by decide +kernel, rfl, by decide +kernel, by decide +kernel⟩
theorem after_at {n : Nat} : ((n + 1 : Nat) : Int) - 1 = (n : Int) := by omega
theorem ok_athome {f : Addr} {fd : FuncData} (F : Fun K "at_home" "at_home" sAtHome f fd) (AS : TxtAs K mg fCt fCa fdCt fdCa) (TF : TxtF K mg fII fIB fHO fdII fdIB fdHO) (Z : TxtSc P w K mg base CC CH fCi fAd fSn fdCi fdAd fdSn) (FC : TxtFc K mg fSo fFc fdSo fdFc) (T : TxtA mg) (C' : TxtCo K mg CC CH fHL fdHL) :
    FnOk P w K mg base CX0 12 f fd ["house", "tick"] (spAsk K CH ansHome) := by
  have GT : FnOk P w K mg base CX0 3 fCt fdCt ["tick"] spTk := ok_tk AS TF
  have GA : FnOk P w K mg base CX0 11 fCa fdCa ["house", "tick"] (spAfter K CC CH) := ok_after AS.FCa Z FC T C'
  refine F.ok scAtHome (fun vs H Q E h => ?_) (fun cdv A outer s H vs Q E hr h => ?_)
  · obtain ⟨hp, h, n, rfl, _⟩ := h
    rfl
  · obtain ⟨hp, h, n, rfl, hho, hT, h6, hn, k⟩ := h
    have hr3 : Room 3 (A.deeper (envOfC (Str.ofString "at_home") (defScope sAtHome) s.heap.objs.size f cdv)) := hr.mono (by decide)
    refine ⟨_, pss_cons (ps_expr (pe_call GT hr3 rfl AS.gCt AS.FCt.kp AS.bCt .nil pass0 (pa_cons (pv 1) pa_nil))) (pss_one (ps_ret (pe_fld (pe_call GA hr rfl AS.gCa AS.FCa.kp AS.bCa .nil pass0 (pa_cons (pv 0) (pa_cons (pv 1) pa_nil))) rfl))), ?_⟩
    refine ⟨_, rfl, _, rfl, by omega, hn, fun H1 s1 => ⟨_, rfl, _, rfl, hp, h, n + 1, by rw [after_at]; rfl, hho.mono s1, hT, h6, fun H2 p s2 hpn co nhp hm => ?_⟩⟩
    obtain ⟨dx, aH, aW, aC, e1, e2, e3, e4⟩ := co
    obtain ⟨a, ⟨C2, dx2, fs2, z1, z2⟩, hn2⟩ := hm
    have e0 := Option.some.inj (e1.symm.trans z1)
    injection e0 with _ _ e5
    subst e5
    have ea : aH = a := by
      have : (some (V.ref aH) : Option V) = some (V.ref a) := z2
      injection this with this
      injection this
    subst ea
    exact ⟨p, CC, dx, _, .ref aH, rfl, e1, C'.cl, C'.nHm, by rfl, k H2 _ (s1.trans s2) ⟨aH, rfl, s1.free hn2, e2⟩⟩
theorem ok_waiting {f : Addr} {fd : FuncData} (F : Fun K "waiting" "waiting" sWaiting f fd) (AS : TxtAs K mg fCt fCa fdCt fdCa) (TF : TxtF K mg fII fIB fHO fdII fdIB fdHO) (Z : TxtSc P w K mg base CC CH fCi fAd fSn fdCi fdAd fdSn) (FC : TxtFc K mg fSo fFc fdSo fdFc) (T : TxtA mg) (C' : TxtCo K mg CC CH fHL fdHL) :
    FnOk P w K mg base CX0 12 f fd ["house", "tick"] (spAsk K CH ansWait) := by
  have GT : FnOk P w K mg base CX0 3 fCt fdCt ["tick"] spTk := ok_tk AS TF
  have GA : FnOk P w K mg base CX0 11 fCa fdCa ["house", "tick"] (spAfter K CC CH) := ok_after AS.FCa Z FC T C'
  refine F.ok scWaiting (fun vs H Q E h => ?_) (fun cdv A outer s H vs Q E hr h => ?_)
  · obtain ⟨hp, h, n, rfl, _⟩ := h
    rfl
  · obtain ⟨hp, h, n, rfl, hho, hT, h6, hn, k⟩ := h
    have hr3 : Room 3 (A.deeper (envOfC (Str.ofString "waiting") (defScope sWaiting) s.heap.objs.size f cdv)) := hr.mono (by decide)
    refine ⟨_, pss_cons (ps_expr (pe_call GT hr3 rfl AS.gCt AS.FCt.kp AS.bCt .nil pass0 (pa_cons (pv 1) pa_nil))) (pss_one (ps_ret (pe_callTy call_tuple_of (by rfl) C'.tuple (by decide +kernel) (pa_cons (pe_fld (pe_call GA hr rfl AS.gCa AS.FCa.kp AS.bCa .nil pass0 (pa_cons (pv 0) (pa_cons (pv 1) pa_nil))) rfl) pa_nil)))), ?_⟩
    refine ⟨_, rfl, _, rfl, by omega, hn, fun H1 s1 => ⟨_, rfl, _, rfl, hp, h, n + 1, by rw [after_at]; rfl, hho.mono s1, hT, h6, fun H2 p s2 hpn co nhp hm => ?_⟩⟩
    obtain ⟨dx, aH, aW, aC, e1, e2, e3, e4⟩ := co
    refine ⟨p, CC, dx, _, .ref aW, rfl, e1, C'.cl, C'.nWt, by rfl, aW, _, rfl, .inl ⟨SqL.of e3, fun u hu => ?_⟩⟩
    exact k _ _ ((s1.trans s2).trans (same_upd hu)) ⟨u, rfl, upd_same⟩
theorem ok_holders {f : Addr} {fd : FuncData} (F : Fun K "holders" "holders" sHolders f fd) (AS : TxtAs K mg fCt fCa fdCt fdCa) (TF : TxtF K mg fII fIB fHO fdII fdIB fdHO) (Z : TxtSc P w K mg base CC CH fCi fAd fSn fdCi fdAd fdSn) (FC : TxtFc K mg fSo fFc fdSo fdFc) (T : TxtA mg) (C' : TxtCo K mg CC CH fHL fdHL) :
    FnOk P w K mg base CX0 12 f fd ["house", "tick"] (spAsk K CH ansHold) := by
  have GT : FnOk P w K mg base CX0 3 fCt fdCt ["tick"] spTk := ok_tk AS TF
  have GA : FnOk P w K mg base CX0 11 fCa fdCa ["house", "tick"] (spAfter K CC CH) := ok_after AS.FCa Z FC T C'
  refine F.ok scHolders (fun vs H Q E h => ?_) (fun cdv A outer s H vs Q E hr h => ?_)
  · obtain ⟨hp, h, n, rfl, _⟩ := h
    rfl
  · obtain ⟨hp, h, n, rfl, hho, hT, h6, hn, k⟩ := h
    have hr3 : Room 3 (A.deeper (envOfC (Str.ofString "holders") (defScope sHolders) s.heap.objs.size f cdv)) := hr.mono (by decide)
    refine ⟨_, pss_cons (ps_expr (pe_call GT hr3 rfl AS.gCt AS.FCt.kp AS.bCt .nil pass0 (pa_cons (pv 1) pa_nil))) (pss_one (ps_ret (pe_callTy call_tuple_of (by rfl) C'.tuple (by decide +kernel) (pa_cons (pe_fld (pe_call GA hr rfl AS.gCa AS.FCa.kp AS.bCa .nil pass0 (pa_cons (pv 0) (pa_cons (pv 1) pa_nil))) rfl) pa_nil)))), ?_⟩
    refine ⟨_, rfl, _, rfl, by omega, hn, fun H1 s1 => ⟨_, rfl, _, rfl, hp, h, n + 1, by rw [after_at]; rfl, hho.mono s1, hT, h6, fun H2 p s2 hpn co nhp hm => ?_⟩⟩
    obtain ⟨dx, aH, aW, aC, e1, e2, e3, e4⟩ := co
    refine ⟨p, CC, dx, _, .ref aC, rfl, e1, C'.cl, C'.nCr, by rfl, aC, _, rfl, .inl ⟨SqL.of e4, fun u hu => ?_⟩⟩
    exact k _ _ ((s1.trans s2).trans (same_upd hu)) ⟨u, rfl, upd_same⟩
theorem ok_hook {f : Addr} {fd : FuncData} (F : Fun K "hook" "hook" sHook f fd) (AS : TxtAs K mg fCt fCa fdCt fdCa) (TF : TxtF K mg fII fIB fHO fdII fdIB fdHO) (Z : TxtSc P w K mg base CC CH fCi fAd fSn fdCi fdAd fdSn) (FC : TxtFc K mg fSo fFc fdSo fdFc) (T : TxtA mg) (C' : TxtCo K mg CC CH fHL fdHL) :
    FnOk P w K mg base CX0 12 f fd ["house", "tick"] (spAsk K CH ansHook) := by
  have GT : FnOk P w K mg base CX0 3 fCt fdCt ["tick"] spTk := ok_tk AS TF
  have GA : FnOk P w K mg base CX0 11 fCa fdCa ["house", "tick"] (spAfter K CC CH) := ok_after AS.FCa Z FC T C'
  refine F.ok scHook (fun vs H Q E h => ?_) (fun cdv A outer s H vs Q E hr h => ?_)
  · obtain ⟨hp, h, n, rfl, _⟩ := h
    rfl
  · obtain ⟨hp, h, n, rfl, hho, hT, h6, hn, k⟩ := h
    have hr3 : Room 3 (A.deeper (envOfC (Str.ofString "hook") (defScope sHook) s.heap.objs.size f cdv)) := hr.mono (by decide)
    refine ⟨_, pss_cons (ps_expr (pe_call GT hr3 rfl AS.gCt AS.FCt.kp AS.bCt .nil pass0 (pa_cons (pv 1) pa_nil))) (pss_one (ps_ret (pe_op op_sub (pe_fld (pv 0) rfl) (pe_callB call_len_seq (by rfl) T.len PySem.boot_len (pa_cons (pe_fld (pe_call GA hr rfl AS.gCa AS.FCa.kp AS.bCa .nil pass0 (pa_cons (pv 0) (pa_cons (pv 1) pa_nil))) rfl) pa_nil))))), ?_⟩
    refine ⟨_, rfl, _, rfl, by omega, hn, fun H1 s1 => ?_⟩
    obtain ⟨⟨d, bT, bC, bR, xs, g1, g2, g3, g4, g5⟩⟩ := hho.mono s1
    refine ⟨_, rfl, hp, CH, d, _, .int h.ks, rfl, g1, C'.clH, C'.nK, hf_keys _ _ _ _, _, rfl, _, rfl, hp, h, n + 1, by rw [after_at]; rfl, hho.mono s1, hT, h6, fun H2 p s2 hpn co nhp hm => ?_⟩
    obtain ⟨dx, aH, aW, aC, e1, e2, e3, e4⟩ := co
    refine ⟨p, CC, dx, _, .ref aC, rfl, e1, C'.cl, C'.nCr, by rfl, aC, _, rfl, .inl (SqL.of e4), _, _, rfl, rfl, ?_⟩
    rw [List.length_map]
    exact k _ _ (s1.trans s2) rfl
theorem ok_isopen {f : Addr} {fd : FuncData} (F : Fun K "is_open" "is_open" sIsOpen f fd) (AS : TxtAs K mg fCt fCa fdCt fdCa) (TF : TxtF K mg fII fIB fHO fdII fdIB fdHO) (Z : TxtSc P w K mg base CC CH fCi fAd fSn fdCi fdAd fdSn) (FC : TxtFc K mg fSo fFc fdSo fdFc) (T : TxtA mg) (C' : TxtCo K mg CC CH fHL fdHL) :
    FnOk P w K mg base CX0 12 f fd ["house", "tick"] (spAsk K CH ansOpen) := by
  have GT : FnOk P w K mg base CX0 3 fCt fdCt ["tick"] spTk := ok_tk AS TF
  have GA : FnOk P w K mg base CX0 11 fCa fdCa ["house", "tick"] (spAfter K CC CH) := ok_after AS.FCa Z FC T C'
  refine F.ok scIsOpen (fun vs H Q E h => ?_) (fun cdv A outer s H vs Q E hr h => ?_)
  · obtain ⟨hp, h, n, rfl, _⟩ := h
    rfl
  · obtain ⟨hp, h, n, rfl, hho, hT, h6, hn, k⟩ := h
    have hr3 : Room 3 (A.deeper (envOfC (Str.ofString "is_open") (defScope sIsOpen) s.heap.objs.size f cdv)) := hr.mono (by decide)
    refine ⟨_, pss_cons (ps_expr (pe_call GT hr3 rfl AS.gCt AS.FCt.kp AS.bCt .nil pass0 (pa_cons (pv 1) pa_nil))) (pss_one (ps_ret (pe_fld (pe_call GA hr rfl AS.gCa AS.FCa.kp AS.bCa .nil pass0 (pa_cons (pv 0) (pa_cons (pv 1) pa_nil))) rfl))), ?_⟩
    refine ⟨_, rfl, _, rfl, by omega, hn, fun H1 s1 => ⟨_, rfl, _, rfl, hp, h, n + 1, by rw [after_at]; rfl, hho.mono s1, hT, h6, fun H2 p s2 hpn co nhp hm => ?_⟩⟩
    obtain ⟨dx, aH, aW, aC, e1, e2, e3, e4⟩ := co
    exact ⟨p, CC, dx, _, .bl (stt h (n + 1)).opn, rfl, e1, C'.cl, C'.nUn, by rfl, k H2 _ (s1.trans s2) rfl⟩
end
end Dk

set_option Elab.async false
set_option linter.all false
set_option maxRecDepth 100000
set_option maxHeartbeats 4000000
namespace Dk
open PySem PySem.Spec PyProof.Rows L2 TL
/-- a def whose code object is known -/
structure FunC (K : PySem.W.Frag) (x qual : Str) (st : Stmt) (f c : Addr) (fd : FuncData) : Prop where
  ex : ∃ (oc : Value) (od : Option Addr) (kV doc pm : Value) (an : Option Addr) (ct : Value) (osl : Array (Option Value)),
    fd = PySem.W.fnOf x qual (defArgs st) (defBody st) (defScope st) .none kV doc pm an (.ref c) ct ∧ K.lookup f = some ⟨oc, od, .func fd, osl⟩ ∧ PySem.W.codeIn K (.ref c) qual = true
theorem FunC.ok {P : Program} {w : World} {K : PySem.W.Frag} {mg : Str → Option Value} {base : Heap} {x qual : Str} {st : Stmt} {f c : Addr} {fd : FuncData} {N ps : List Str} {k : Nat} {sp : Sp} (F : FunC K x qual st f c fd) (S : FnScope N ps (defScope st)) (len : ∀ vs H Q E, sp vs H Q E → vs.length = ps.length)
    (hbody : ∀ (A : Around) (outer : List Env) (s : Shared) (H : Hp) (vs : List V) (Q : VK) (E : XK), Room k (A.deeper (envOfC qual (defScope st) s.heap.objs.size f (.ref c))) → sp vs H Q E →
      ∃ t, PSs (cxOf CX0 P w K mg base N qual (defScope st) f (.ref c) A outer s H E).nox (defBody st) t ∧ t { nx := fun _ H' => Q .non H', rt := Q } (start N vs) H) : FnOk P w K mg base CX0 (k + 1) f fd ps sp := by
  obtain ⟨oc, od, kV, doc, pm, an, ct, osl, rfl, lk, hcd⟩ := F.ex
  refine fn_of lk hcd S len fun A outer s H vs Q E hr hsp => ?_
  obtain ⟨t, h, q⟩ := hbody A outer s H vs Q E hr hsp
  exact ⟨t, h.nox, q⟩
end Dk

set_option Elab.async false
set_option linter.all false
set_option maxRecDepth 100000
set_option maxHeartbeats 1000000
namespace Dk
open PySem PySem.Spec PyProof.Rows L2 TL
/-! ### _law_error_of(lambda: ..) -/
theorem pe_errof {X : Cx} {cs : Nat → Addr} {J : List Nat} {CE fE c P : Addr} {fdE : FuncData} {T : List (Addr × Str)} {params : Arguments} {body : Expr} {scope : Scope} {t : XK → TE} {p lpos pos : Pos} {k : Nat} (N : TxtN X.mg cs CE) (EK : ErK X.K cs CE J)
    (hg : Gl X "_law_error_of") (hm : X.mg "_law_error_of" = some (.ref fE)) (FE : Fun X.K "_law_error_of" "_law_error_of" sErrOf fE fdE) (bE : Binds X.K fdE ["_law_call"] [])
    (TB : LamX.TabB X.base X.mg c P) (hcode : X.env.code = .ref c) (hmT : (P, X.env.qual ++ "<lambda>") ∈ T) (hu : ∀ p ∈ T, p.1 = P → p.2 = X.env.qual ++ "<lambda>") (hr : Room (k + 2) X.A) (L : LamX.LamS X.env.scope scope) (hdef : defaultsOf params X.env = ([], []))
    (hbind : ∀ (q : Str) (cl : List (Str × Addr)) (pm cv ctv : Value), bindArgs (PySem.W.kla_fn "<lambda>" q params body scope cl pm cv ctv) ⟨[], []⟩ = pure [])
    (hbody : ∀ (A : Around) (outer : List Env) (s : Shared) (H : Hp) (E : XK) (f c' : Addr), Room k (A.deeper (LamX.lamEnv X scope s.heap.objs.size f c')) → PE (LamX.lamCx X A outer s H E scope f c') body (t E)) :
    PE X (.Call (.Name "_law_error_of" p) [.Lambda params body scope lpos] [] pos) (LamX.tLam T (TErr cs J) t) := by
  obtain ⟨oc, od, kV, doc, pm, an, cdv, ct, osl, rfl, lk, hcd⟩ := FE.ex
  refine LamX.pe_lamcall (Ng := nErr) (a := "_law_call") (k := k) hg hm FE.kp lk hcd bE scErr rfl (.inl rfl) (err_gives N EK ?_) TB hcode hmT hu hr L hdef hbind hbody
  have := hr.un
  omega
end Dk

set_option Elab.async false
set_option linter.all false
set_option maxRecDepth 100000
set_option maxHeartbeats 1000000
namespace Dk
open PySem PySem.Spec PyProof.Rows L2 TL
/-! ### comprehensions by turns: keep k, Res k -/
theorem pair_snoc {α β : Type} {R : α → β → Prop} : ∀ {xs : List α} {ys : List β} {x : α} {y : β}, Paired R xs ys → R x y → Paired R (xs ++ [x]) (ys ++ [y])
  | [], [], _, _, .nil, h => .cons h .nil
  | _ :: _, _ :: _, _, _, .cons a q, h => .cons a (pair_snoc q h)
theorem pair_imp {α β : Type} {R S : α → β → Prop} (k : ∀ a b, R a b → S a b) : ∀ {xs : List α} {ys : List β}, Paired R xs ys → Paired S xs ys
  | [], [], .nil => .nil
  | _ :: _, _ :: _, .cons a q => .cons (k _ _ a) (pair_imp k q)
theorem pair_len {α β : Type} {R : α → β → Prop} : ∀ {xs : List α} {ys : List β}, Paired R xs ys → xs.length = ys.length
  | [], [], .nil => rfl
  | _ :: _, _ :: _, .cons _ q => by rw [List.length_cons, List.length_cons, pair_len q]
theorem pair_map {α β : Type} {f : α → β} : ∀ {xs : List α} {ys : List β}, Paired (fun a b => b = f a) xs ys → ys = xs.map f
  | [], [], .nil => rfl
  | _ :: _, _ :: _, .cons a q => by rw [List.map_cons, pair_map q, a]
theorem filt_succ (keep : Nat → Bool) (i : Nat) : (List.range (i + 1)).filter keep = (List.range i).filter keep ++ (if keep i = true then [i] else []) := by
  rw [List.range_succ, List.filter_append]
  congr 1
  by_cases c : keep i = true
  · rw [if_pos c]; simp [c]
  · rw [if_neg c]; simp [c]
section
variable {K : PySem.W.Frag} {H1 : Hp} {D : Addr} {σ : L2.St} {i : Nat} {vs : List Nat} {tt : TT} {te : TE} {Qd : Hp → Prop} {keep : Nat → Bool} {Res : Hp → Nat → V → Prop}
theorem comp_range {lo : Int} {n : Nat} (hD : H1 D = none) (hz : n ≤ 1000000) (keep : Nat → Bool) (Res : Hp → Nat → V → Prop) (hm : ∀ H H' k v, Kp D H H' → Res H k v → Res H' k v)
    (ht : ∀ k H2 Qb, k < n → Same H1 H2 → H2 D ≠ none → (∀ H3, Same H2 H3 → Qb (keep k) H3) → tt ((wipe σ vs).set i (some (.int (lo + (k : Nat))))) H2 Qb)
    (he : ∀ k H2 Q, k < n → keep k = true → Same H1 H2 → H2 D ≠ none → (∀ H3 y, Same H2 H3 → Res H3 k y → Q y H3) → te ((wipe σ vs).set i (some (.int (lo + (k : Nat))))) H2 Q)
    (hw : ∀ x : V, wipe ((wipe σ vs).set i (some x)) vs = wipe σ vs)
    (hd : ∀ H2 ys, Same H1 H2 → H2 D = some (.lst ys) → Paired (fun k y => Res H2 k y) ((List.range n).filter keep) ys → Qd H2) :
    ∃ W : Nat → Nat → Hp → Prop, (∃ m, W 0 m (upd H1 D (.lst []))) ∧ ∀ i' m H, W i' m H →
      ((Itr lo n).stop i' H ∧ Qd H) ∨ ((Itr lo n).go i' H ∧ ∃ Nx : Hp → Prop, (∀ H', Nx H' → ∃ m', m' < m ∧ W (i' + 1) m' H') ∧ ∀ x H', (Itr lo n).yld i' H x H' → gName i x (wipe σ vs) H' fun σ2 H2 => wipe σ2 vs = wipe σ vs ∧ tt σ2 H2 fun b H3 =>
        if b = true then te σ2 H3 fun y H4 => ∃ acc, H4 D = some (.lst acc) ∧ acc.length < sizeLine ∧ Nx (upd H4 D (.lst (acc ++ [y]))) else Nx H3) := by
  refine lc_range (lo := lo) (n := n) (g := gName i) (tt := tt) (te := te) (vs := vs) (σ := σ) (Qd := Qd)
    (fun i H3 => Same H1 H3 ∧ ∃ ys, H3 D = some (.lst ys) ∧ Paired (fun k y => Res H3 k y) ((List.range i).filter keep) ys) ⟨same_upd hD, [], upd_same, .nil⟩ ?_ ?_
  · rintro j H3 hj ⟨s3, ys, eD, hp⟩
    have dn : H3 D ≠ none := by rw [eD]; intro z; cases z
    refine ⟨hw _, ht j H3 _ hj s3 dn fun H4 s4 => ?_⟩
    have nD : ∀ b o, H1 b = some o → b ≠ D := fun b o e z => by rw [z, hD] at e; cases e
    have eD4 := s4 _ _ eD
    by_cases c : keep j = true
    · rw [if_pos c]
      refine he j H4 _ hj c (s3.trans s4) (by rw [eD4]; intro z; cases z) fun H5 y s5 hy => ⟨ys, s5 _ _ eD4, ?_, fun b o e => ?_, ys ++ [y], upd_same, ?_⟩
      · rw [← pair_len hp]
        have := List.length_filter_le keep (List.range j)
        rw [List.length_range] at this
        exact Nat.lt_of_le_of_lt (by omega : _ ≤ 1000000) (by decide)
      · rw [upd_ne (nD _ _ e)]; exact (s3.trans (s4.trans s5)) _ _ e
      · have k6 : Kp D H5 (upd H5 D (.lst (ys ++ [y]))) := fun b o n e => by rw [upd_ne n]; exact e
        rw [filt_succ, if_pos c]
        exact pair_snoc (pair_imp (fun k v r => hm _ _ k v ((sKp (s4.trans s5)).trans k6) r) hp) (hm _ _ _ _ k6 hy)
    · rw [if_neg c]
      refine ⟨s3.trans s4, ys, eD4, ?_⟩
      rw [filt_succ, if_neg c, List.append_nil]
      exact pair_imp (fun k v r => hm _ _ k v (sKp s4) r) hp
  · rintro H3 ⟨s3, ys, eD, hp⟩
    exact hd H3 ys s3 eD hp
theorem comp_list {l : Addr} {xs : List V} (hD : H1 D = none) (hl : SqL K H1 l xs) (hz : xs.length ≤ 1000000) (keep : Nat → Bool) (Res : Hp → Nat → V → Prop) (hm : ∀ H H' k v, Kp D H H' → Res H k v → Res H' k v)
    (ht : ∀ k x H2 Qb, xs[k]? = some x → Same H1 H2 → H2 D ≠ none → (∀ H3, Same H2 H3 → Qb (keep k) H3) → tt ((wipe σ vs).set i (some x)) H2 Qb)
    (he : ∀ k x H2 Q, xs[k]? = some x → keep k = true → Same H1 H2 → H2 D ≠ none → (∀ H3 y, Same H2 H3 → Res H3 k y → Q y H3) → te ((wipe σ vs).set i (some x)) H2 Q)
    (hw : ∀ x : V, wipe ((wipe σ vs).set i (some x)) vs = wipe σ vs)
    (hd : ∀ H2 ys, Same H1 H2 → H2 D = some (.lst ys) → Paired (fun k y => Res H2 k y) ((List.range xs.length).filter keep) ys → Qd H2) :
    ∃ W : Nat → Nat → Hp → Prop, (∃ m, W 0 m (upd H1 D (.lst []))) ∧ ∀ i' m H, W i' m H →
      ((Itl K l).stop i' H ∧ Qd H) ∨ ((Itl K l).go i' H ∧ ∃ Nx : Hp → Prop, (∀ H', Nx H' → ∃ m', m' < m ∧ W (i' + 1) m' H') ∧ ∀ x H', (Itl K l).yld i' H x H' → gName i x (wipe σ vs) H' fun σ2 H2 => wipe σ2 vs = wipe σ vs ∧ tt σ2 H2 fun b H3 =>
        if b = true then te σ2 H3 fun y H4 => ∃ acc, H4 D = some (.lst acc) ∧ acc.length < sizeLine ∧ Nx (upd H4 D (.lst (acc ++ [y]))) else Nx H3) := by
  refine lc_list (K := K) (a := l) (xs := xs) (g := gName i) (tt := tt) (te := te) (vs := vs) (σ := σ) (Qd := Qd)
    (fun i H3 => Same H1 H3 ∧ ∃ ys, H3 D = some (.lst ys) ∧ Paired (fun k y => Res H3 k y) ((List.range i).filter keep) ys) ⟨same_upd hD, [], upd_same, .nil⟩ (fun i H3 _ ⟨e, _⟩ => e.seq hl) ?_ ?_
  · rintro j x H3 hj ⟨s3, ys, eD, hp⟩
    have hj' : j < xs.length := (List.getElem?_eq_some_iff.mp hj).1
    have dn : H3 D ≠ none := by rw [eD]; intro z; cases z
    refine ⟨hw _, ht j x H3 _ hj s3 dn fun H4 s4 => ?_⟩
    have nD : ∀ b o, H1 b = some o → b ≠ D := fun b o e z => by rw [z, hD] at e; cases e
    have eD4 := s4 _ _ eD
    by_cases c : keep j = true
    · rw [if_pos c]
      refine he j x H4 _ hj c (s3.trans s4) (by rw [eD4]; intro z; cases z) fun H5 y s5 hy => ⟨ys, s5 _ _ eD4, ?_, fun b o e => ?_, ys ++ [y], upd_same, ?_⟩
      · rw [← pair_len hp]
        have := List.length_filter_le keep (List.range j)
        rw [List.length_range] at this
        exact Nat.lt_of_le_of_lt (by omega : _ ≤ 1000000) (by decide)
      · rw [upd_ne (nD _ _ e)]; exact (s3.trans (s4.trans s5)) _ _ e
      · have k6 : Kp D H5 (upd H5 D (.lst (ys ++ [y]))) := fun b o n e => by rw [upd_ne n]; exact e
        rw [filt_succ, if_pos c]
        exact pair_snoc (pair_imp (fun k v r => hm _ _ k v ((sKp (s4.trans s5)).trans k6) r) hp) (hm _ _ _ _ k6 hy)
    · rw [if_neg c]
      refine ⟨s3.trans s4, ys, eD4, ?_⟩
      rw [filt_succ, if_neg c, List.append_nil]
      exact pair_imp (fun k v r => hm _ _ k v (sKp s4) r) hp
  · rintro H3 ⟨s3, ys, eD, hp⟩
    exact hd H3 ys s3 eD hp
theorem comp_tup {l : Addr} {xs : List V} (hD : H1 D = none) (hl : SqT K H1 l xs) (hz : xs.length ≤ 1000000) (keep : Nat → Bool) (Res : Hp → Nat → V → Prop) (hm : ∀ H H' k v, Kp D H H' → Res H k v → Res H' k v)
    (ht : ∀ k x H2 Qb, xs[k]? = some x → Same H1 H2 → H2 D ≠ none → (∀ H3, Same H2 H3 → Qb (keep k) H3) → tt ((wipe σ vs).set i (some x)) H2 Qb)
    (he : ∀ k x H2 Q, xs[k]? = some x → keep k = true → Same H1 H2 → H2 D ≠ none → (∀ H3 y, Same H2 H3 → Res H3 k y → Q y H3) → te ((wipe σ vs).set i (some x)) H2 Q)
    (hw : ∀ x : V, wipe ((wipe σ vs).set i (some x)) vs = wipe σ vs)
    (hd : ∀ H2 ys, Same H1 H2 → H2 D = some (.lst ys) → Paired (fun k y => Res H2 k y) ((List.range xs.length).filter keep) ys → Qd H2) :
    ∃ W : Nat → Nat → Hp → Prop, (∃ m, W 0 m (upd H1 D (.lst []))) ∧ ∀ i' m H, W i' m H →
      ((Itt K l).stop i' H ∧ Qd H) ∨ ((Itt K l).go i' H ∧ ∃ Nx : Hp → Prop, (∀ H', Nx H' → ∃ m', m' < m ∧ W (i' + 1) m' H') ∧ ∀ x H', (Itt K l).yld i' H x H' → gName i x (wipe σ vs) H' fun σ2 H2 => wipe σ2 vs = wipe σ vs ∧ tt σ2 H2 fun b H3 =>
        if b = true then te σ2 H3 fun y H4 => ∃ acc, H4 D = some (.lst acc) ∧ acc.length < sizeLine ∧ Nx (upd H4 D (.lst (acc ++ [y]))) else Nx H3) := by
  refine lc_tup (K := K) (a := l) (xs := xs) (g := gName i) (tt := tt) (te := te) (vs := vs) (σ := σ) (Qd := Qd)
    (fun i H3 => Same H1 H3 ∧ ∃ ys, H3 D = some (.lst ys) ∧ Paired (fun k y => Res H3 k y) ((List.range i).filter keep) ys) ⟨same_upd hD, [], upd_same, .nil⟩ (fun i H3 _ ⟨e, _⟩ => sSqT e hl) ?_ ?_
  · rintro j x H3 hj ⟨s3, ys, eD, hp⟩
    have hj' : j < xs.length := (List.getElem?_eq_some_iff.mp hj).1
    have dn : H3 D ≠ none := by rw [eD]; intro z; cases z
    refine ⟨hw _, ht j x H3 _ hj s3 dn fun H4 s4 => ?_⟩
    have nD : ∀ b o, H1 b = some o → b ≠ D := fun b o e z => by rw [z, hD] at e; cases e
    have eD4 := s4 _ _ eD
    by_cases c : keep j = true
    · rw [if_pos c]
      refine he j x H4 _ hj c (s3.trans s4) (by rw [eD4]; intro z; cases z) fun H5 y s5 hy => ⟨ys, s5 _ _ eD4, ?_, fun b o e => ?_, ys ++ [y], upd_same, ?_⟩
      · rw [← pair_len hp]
        have := List.length_filter_le keep (List.range j)
        rw [List.length_range] at this
        exact Nat.lt_of_le_of_lt (by omega : _ ≤ 1000000) (by decide)
      · rw [upd_ne (nD _ _ e)]; exact (s3.trans (s4.trans s5)) _ _ e
      · have k6 : Kp D H5 (upd H5 D (.lst (ys ++ [y]))) := fun b o n e => by rw [upd_ne n]; exact e
        rw [filt_succ, if_pos c]
        exact pair_snoc (pair_imp (fun k v r => hm _ _ k v ((sKp (s4.trans s5)).trans k6) r) hp) (hm _ _ _ _ k6 hy)
    · rw [if_neg c]
      refine ⟨s3.trans s4, ys, eD4, ?_⟩
      rw [filt_succ, if_neg c, List.append_nil]
      exact pair_imp (fun k v r => hm _ _ k v (sKp s4) r) hp
  · rintro H3 ⟨s3, ys, eD, hp⟩
    exact hd H3 ys s3 eD hp
end
end Dk

set_option Elab.async false
set_option linter.all false
set_option maxRecDepth 100000
set_option maxHeartbeats 1000000
namespace Dk
open PySem PySem.Spec PyProof.Rows L2 TL
section
variable {K : PySem.W.Frag} {H1 : Hp} {D : Addr} {σ : L2.St} {i : Nat} {vs : List Nat} {tt : TT} {te : TE} {Qd : Hp → Prop}
/-- [x for x in range(..) if ..] -/
theorem comp_rangeI {lo : Int} {n : Nat} (hD : H1 D = none) (hz : n ≤ 1000000) (keep : Nat → Bool)
    (ht : ∀ k H2 Qb, k < n → Same H1 H2 → (∀ H3, Same H2 H3 → Qb (keep k) H3) → tt ((wipe σ vs).set i (some (.int (lo + (k : Nat))))) H2 Qb)
    (hv : ∀ x : V, ((wipe σ vs).set i (some x))[i]? = some (some x)) (hw : ∀ x : V, wipe ((wipe σ vs).set i (some x)) vs = wipe σ vs)
    (hd : ∀ H2, Same H1 H2 → H2 D = some (.lst (((List.range n).filter keep).map fun k : Nat => V.int (lo + (k : Nat)))) → Qd H2) :
    ∃ W : Nat → Nat → Hp → Prop, (∃ m, W 0 m (upd H1 D (.lst []))) ∧ ∀ i' m H, W i' m H →
      ((Itr lo n).stop i' H ∧ Qd H) ∨ ((Itr lo n).go i' H ∧ ∃ Nx : Hp → Prop, (∀ H', Nx H' → ∃ m', m' < m ∧ W (i' + 1) m' H') ∧ ∀ x H', (Itr lo n).yld i' H x H' → gName i x (wipe σ vs) H' fun σ2 H2 => wipe σ2 vs = wipe σ vs ∧ tt σ2 H2 fun b H3 =>
        if b = true then tVar i σ2 H3 fun y H4 => ∃ acc, H4 D = some (.lst acc) ∧ acc.length < sizeLine ∧ Nx (upd H4 D (.lst (acc ++ [y]))) else Nx H3) :=
  comp_range hD hz keep (fun _ k v => v = .int (lo + (k : Nat))) (fun _ _ _ _ _ r => r) (fun k H2 Qb hk s _ q => ht k H2 Qb hk s q)
    (fun k H2 Q hk _ s _ q => ⟨_, hv _, q H2 _ (Same.refl H2) rfl⟩) hw fun H2 ys s e p => hd H2 s (by rw [e, pair_map p])
theorem filt_idx' {α : Type} (g : α → Bool) (ns : List α) : ∀ n, n ≤ ns.length → ((List.range n).filter fun k => (ns[k]?.map g).getD false).filterMap (fun k => ns[k]?) = (ns.take n).filter g
  | 0, _ => rfl
  | n + 1, h => by
    have hn : n < ns.length := h
    have e : ns[n]? = some ns[n] := List.getElem?_eq_getElem hn
    rw [filt_succ, List.filterMap_append, filt_idx' g ns n (by omega), List.take_succ, List.filter_append, e]
    congr 1
    by_cases c : g ns[n] = true
    · simp [c, List.filterMap_cons, e]
    · simp [c]
theorem filt_idx {α : Type} (g : α → Bool) (ns : List α) : ((List.range ns.length).filter fun k => (ns[k]?.map g).getD false).filterMap (fun k => ns[k]?) = ns.filter g := by
  rw [filt_idx' g ns _ (Nat.le_refl _), List.take_length]
/-- [x for x in xs if ..] over a list of numbers -/
theorem comp_listI {l : Addr} {ns : List Int} (hD : H1 D = none) (hl : SqL K H1 l (ns.map V.int)) (hz : ns.length ≤ 1000000) (g : Int → Bool)
    (ht : ∀ (p : Int) (H2 : Hp) (Qb : Bool → Hp → Prop), p ∈ ns → Same H1 H2 → (∀ H3, Same H2 H3 → Qb (g p) H3) → tt ((wipe σ vs).set i (some (.int p))) H2 Qb)
    (hv : ∀ x : V, ((wipe σ vs).set i (some x))[i]? = some (some x)) (hw : ∀ x : V, wipe ((wipe σ vs).set i (some x)) vs = wipe σ vs)
    (hd : ∀ H2, Same H1 H2 → H2 D = some (.lst ((ns.filter g).map V.int)) → Qd H2) :
    ∃ W : Nat → Nat → Hp → Prop, (∃ m, W 0 m (upd H1 D (.lst []))) ∧ ∀ i' m H, W i' m H →
      ((Itl K l).stop i' H ∧ Qd H) ∨ ((Itl K l).go i' H ∧ ∃ Nx : Hp → Prop, (∀ H', Nx H' → ∃ m', m' < m ∧ W (i' + 1) m' H') ∧ ∀ x H', (Itl K l).yld i' H x H' → gName i x (wipe σ vs) H' fun σ2 H2 => wipe σ2 vs = wipe σ vs ∧ tt σ2 H2 fun b H3 =>
        if b = true then tVar i σ2 H3 fun y H4 => ∃ acc, H4 D = some (.lst acc) ∧ acc.length < sizeLine ∧ Nx (upd H4 D (.lst (acc ++ [y]))) else Nx H3) := by
  have at_ : ∀ {k : Nat} {x : V}, (ns.map V.int)[k]? = some x → ∃ p, ns[k]? = some p ∧ x = .int p := fun {k x} h => by
    rw [List.getElem?_map] at h
    cases q : ns[k]? with
    | none => rw [q] at h; cases h
    | some p => rw [q] at h; exact ⟨p, rfl, (Option.some.inj h).symm⟩
  refine comp_list hD hl (by rw [List.length_map]; exact hz) (fun k => (ns[k]?.map g).getD false) (fun _ k v => ns[k]?.map V.int = some v) (fun _ _ _ _ _ r => r) (fun k x H2 Qb hx s _ q => ?_) (fun k x H2 Q hx _ s _ q => ?_) hw fun H2 ys s e p => hd H2 s ?_
  · obtain ⟨p, hp, rfl⟩ := at_ hx
    refine ht p H2 Qb (List.mem_of_getElem? hp) s fun H3 s3 => ?_
    have := q H3 s3
    rw [hp] at this
    exact this
  · obtain ⟨p, hp, rfl⟩ := at_ hx
    exact ⟨_, hv _, q H2 _ (Same.refl H2) (by rw [hp]; rfl)⟩
  · rw [e, ← filt_idx g ns]
    rw [List.length_map] at p
    clear e
    generalize (List.range ns.length).filter (fun k => (ns[k]?.map g).getD false) = ks at p
    have key : ∀ (ks : List Nat) (ys : List V), Paired (fun k y => ns[k]?.map V.int = some y) ks ys → ys = (ks.filterMap fun k => ns[k]?).map V.int := by
      intro ks
      induction ks with
      | nil => intro ys p; cases p; rfl
      | cons k ks ih =>
        intro ys p
        cases p with
        | cons h t =>
          cases q : ns[k]? with
          | none => rw [q] at h; cases h
          | some x =>
            rw [q] at h
            rw [List.filterMap_cons, q, List.map_cons, ← ih _ t]
            cases h
            rfl
    rw [key ks ys p]
end
end Dk

set_option Elab.async false
set_option linter.all false
set_option maxRecDepth 100000
set_option maxHeartbeats 2000000
namespace Dk
open PySem PySem.Spec PyProof.Rows L2 TL
/-! ### the ticks that have a mark -/
theorem rep_uniq0 {h : Hd} {n m : Nat} (a : IsRep h n) (b : IsRep h m) (l : n < m) : False := by
  obtain ⟨i, hi, e⟩ := List.mem_map.mp a.re
  have hi := List.mem_range.mp hi
  have nd := b.nd
  rw [List.nodup_iff_pairwise_ne] at nd
  have key := List.pairwise_iff_getElem.mp nd i n (by simp; omega) (by simp; omega) hi
  simp at key
  exact key e
theorem rep_eq {h : Hd} {n m : Nat} (a : IsRep h n) (b : IsRep h m) : n = m := by
  rcases Nat.lt_trichotomy n m with l | l | l
  · exact (rep_uniq0 a b l).elim
  · exact l
  · exact (rep_uniq0 b a l).elim
theorem cyc_eq {h : Hd} {b n b' n' : Nat} (c : IsCyc h b n) (d : IsCyc h b' n') : b = b' ∧ n = n' := by
  have e := rep_eq c.rp d.rp
  subst e
  refine ⟨?_, rfl⟩
  rcases Nat.lt_trichotomy b b' with l | l | l
  · exact (d.ne b l c.eq).elim
  · exact l
  · exact (c.ne b' l d.eq).elim
/-- the marked ticks before the cycle, and in it -/
def eT (f : Nat → Bool) (b : Nat) : List Nat := (List.range b).filter f
def cT (f : Nat → Bool) (b n : Nat) : List Nat := ((List.range (n - b)).filter fun k => f (b + k)).map (b + ·)
def nV (l : List Nat) : List V := l.map fun k : Nat => V.int (k : Int)
theorem nV_map (l : List Nat) : nV l = (l.map fun k : Nat => (k : Int)).map V.int := by unfold nV; rw [List.map_map]; rfl
theorem nV_len (l : List Nat) : (nV l).length = l.length := List.length_map ..
theorem eT_len (f : Nat → Bool) (b : Nat) : (eT f b).length ≤ b := by
  have := List.length_filter_le f (List.range b)
  rw [List.length_range] at this
  exact this
theorem cT_len (f : Nat → Bool) (b n : Nat) : (cT f b n).length ≤ n - b := by
  unfold cT
  rw [List.length_map]
  have := List.length_filter_le (fun k => f (b + k)) (List.range (n - b))
  rw [List.length_range] at this
  exact this
/-- a person waits after a tick; the house is open after a tick -/
def waitsB (h : Hd) (p : Int) (m : Nat) : Bool := decide (p ∈ (stt h (m + 1)).wait)
def opensB (h : Hd) (m : Nat) : Bool := (stt h (m + 1)).opn
end Dk

set_option Elab.async false
set_option linter.all false
set_option maxRecDepth 100000
set_option maxHeartbeats 2000000
namespace Dk
open PySem PySem.Spec PyProof.Rows L2 TL
/-! ### numbers of ticks -/
def cntF (f : Nat → Bool) (m : Nat) : Nat := ((List.range m).filter f).length
theorem cntF_succ (f : Nat → Bool) (m : Nat) : cntF f (m + 1) = cntF f m + (if f m = true then 1 else 0) := by
  unfold cntF
  rw [filt_succ, List.length_append]
  split <;> rfl
theorem cntF_add (f : Nat → Bool) (a : Nat) : ∀ x, cntF f (a + x) = cntF f a + cntF (fun k => f (a + k)) x
  | 0 => rfl
  | x + 1 => by rw [← Nat.add_assoc, cntF_succ, cntF_add f a x, cntF_succ]; omega
theorem cntF_congr {f g : Nat → Bool} {m : Nat} (h : ∀ k, k < m → f k = g k) : cntF f m = cntF g m := by
  unfold cntF
  rw [List.filter_congr fun k hk => h k (List.mem_range.mp hk)]
theorem cntF_le (f : Nat → Bool) (m : Nat) : cntF f m ≤ m := by
  have := List.length_filter_le f (List.range m)
  rw [List.length_range] at this
  exact this
theorem cntF_mono (f : Nat → Bool) {a b : Nat} (h : a ≤ b) : cntF f a ≤ cntF f b := by
  obtain ⟨x, rfl⟩ := Nat.exists_eq_add_of_le h
  rw [cntF_add]; omega
theorem cntF_rounds {g : Nat → Bool} {l : Nat} (h : ∀ k, g (l + k) = g k) (r : Nat) : ∀ q, cntF g (q * l + r) = q * cntF g l + cntF g r
  | 0 => by rw [Nat.zero_mul, Nat.zero_mul, Nat.zero_add, Nat.zero_add]
  | q + 1 => by
    have e : (q + 1) * l + r = l + (q * l + r) := by rw [Nat.succ_mul]; omega
    have e2 : (q + 1) * cntF g l = q * cntF g l + cntF g l := Nat.succ_mul ..
    rw [e, cntF_add, cntF_congr (fun k _ => h k), cntF_rounds h r q, e2]
    omega
theorem cnt_take (f : Nat → Bool) {m b : Nat} (h : m ≤ b) : ((eT f b).filter fun k => decide (k < m)).length = cntF f m := by
  unfold eT
  rw [List.filter_filter]
  obtain ⟨x, rfl⟩ := Nat.exists_eq_add_of_le h
  show cntF (fun k => decide (k < m) && f k) (m + x) = _
  rw [cntF_add]
  have e1 : cntF (fun k => decide (k < m) && f k) m = cntF f m := cntF_congr fun k hk => by rw [decide_eq_true hk]; rfl
  have e2 : cntF (fun k => decide (m + k < m) && f (m + k)) x = 0 := by
    have : cntF (fun k => decide (m + k < m) && f (m + k)) x = cntF (fun _ => false) x := cntF_congr fun k _ => by rw [decide_eq_false (by omega)]; rfl
    rw [this]
    unfold cntF
    simp
  rw [e1, e2]; rfl
theorem cT_cnt (f : Nat → Bool) (b n : Nat) : (cT f b n).length = cntF (fun k => f (b + k)) (n - b) := by
  unfold cT cntF
  rw [List.length_map]
theorem cT_take (f : Nat → Bool) {b n r : Nat} (h : r ≤ n - b) : ((cT f b n).filter fun k => decide (k < b + r)).length = cntF (fun k => f (b + k)) r := by
  unfold cT
  rw [List.filter_map, List.length_map, ← cnt_take (fun k => f (b + k)) h]
  unfold eT
  congr 2
  funext k
  show decide (b + k < b + r) = decide (k < r)
  by_cases c : k < r
  · rw [decide_eq_true c, decide_eq_true (by omega)]
  · rw [decide_eq_false c, decide_eq_false (by omega)]
theorem stt_near2 {h : Hd} (hT : Tabs h.ts) {b n : Nat} (cy : IsCyc h b n) {t : Nat} (ht : b ≤ t) : stt h (b + (t - b) % (n - b) + 1) = stt h (t + 1) := by
  by_cases q : b < t
  · exact stt_near hT cy.eq cy.lt q
  · have : t = b := by omega
    subst this
    simp
theorem stt_round {h : Hd} (hT : Tabs h.ts) {b n : Nat} (cy : IsCyc h b n) (k : Nat) : stt h (b + (n - b + k) + 1) = stt h (b + k + 1) := by
  have lt := cy.lt
  have h1 := stt_near2 hT cy (t := b + (n - b + k)) (by omega)
  have h2 := stt_near2 hT cy (t := b + k) (by omega)
  rw [← h1, ← h2]
  congr 2
  rw [show b + (n - b + k) - b = n - b + k by omega, show b + k - b = k by omega, Nat.add_mod_left]
/-- of a mark that the state tells -/
theorem cnt_far {h : Hd} (hT : Tabs h.ts) {b n : Nat} (cy : IsCyc h b n) {f : Nat → Bool} {F : Cs → Bool} (hf : ∀ m, f m = F (stt h (m + 1))) {m : Nat} (hm : b ≤ m) :
    cntF f m = (eT f b).length + (m - b) / (n - b) * (cT f b n).length + ((cT f b n).filter fun k => decide (k < b + (m - b) % (n - b))).length := by
  have lt := cy.lt
  have hr := Nat.mod_lt (m - b) (show 0 < n - b by omega)
  rw [cT_take f (Nat.le_of_lt hr), cT_cnt]
  have e : m = b + ((m - b) / (n - b) * (n - b) + (m - b) % (n - b)) := by
    have := Nat.mod_add_div (m - b) (n - b)
    rw [Nat.mul_comm] at this
    omega
  have hp : ∀ k, (fun k => f (b + k)) (n - b + k) = (fun k => f (b + k)) k := fun k => by
    show f (b + (n - b + k)) = f (b + k)
    rw [hf, hf, stt_round hT cy]
  conv => lhs; rw [e, cntF_add, cntF_rounds hp]
  have : cntF f b = (eT f b).length := rfl
  rw [this]
  omega
end Dk

set_option Elab.async false
set_option linter.all false
set_option maxRecDepth 100000
set_option maxHeartbeats 2000000
namespace Dk
open PySem PySem.Spec PyProof.Rows L2 TL
/-! ### rules told with the law's own K, for blocks -/
section
variable {X : Cx} {K : PySem.W.Frag}
theorem pi_listK {tg l : Expr} {tl : TE} (h : X.K = K) (hl : PE X l tl) : PI X tg l (iList K tl) := by subst h; exact pi_list hl
theorem pi_tupK {tg l : Expr} {tl : TE} (h : X.K = K) (hl : PE X l tl) : PI X tg l (iTup K tl) := by subst h; exact pi_tup hl
theorem ix_tupK (h : X.K = K) : IxR X (rIxT K) := by subst h; exact ix_tup
theorem call_len_seqK (h : X.K = K) : CallR X (.builtin "len") (fun xs H Q => ∃ p ys, xs = [.ref p] ∧ (SqL K H p ys ∨ SqT K H p ys) ∧ Q (.int ys.length) H) := by subst h; exact call_len_seq
theorem op_eqDK (h : X.K = K) (hu : X.A.units + 64 < cLine) : OpR X (compareOp .Eq) (rEqD K) := by subst h; exact op_eqD hu
theorem op_neDK (h : X.K = K) (hu : X.A.units + 64 < cLine) : OpR X (compareOp .NotEq) (rNeD K) := by subst h; exact op_neD hu
end
/-! ### lists of ticks as data -/
def dN (l : List Nat) : List PyData := dI (l.map fun k : Nat => (k : Int))
theorem nV_dp {K : PySem.W.Frag} {H : Hp} {a : Addr} {l : List Nat} (h : H a = some (.lst (nV l))) : Dp K H (.ref a) (.list (dN l)) := by
  rw [nV_map] at h
  exact .lst (SqL.of h) (dpAll_dI _)
theorem dN_len (l : List Nat) : (dN l).length = l.length := by unfold dN dI; simp
theorem nV_in (l : List Nat) (k : Nat) : inV (.int (k : Int)) (nV l) = decide (k ∈ l) := by
  rw [nV_map, any_mem]
  by_cases c : k ∈ l
  · rw [decide_eq_true c]
    exact decide_eq_true (List.mem_map.mpr ⟨k, c, rfl⟩)
  · rw [decide_eq_false c]
    refine decide_eq_false fun z => ?_
    obtain ⟨j, hj, e⟩ := List.mem_map.mp z
    have : j = k := by omega
    exact c (this ▸ hj)
theorem nV_flat (l : List Nat) : (nV l).all flatV = true := by
  unfold nV
  rw [List.all_map]
  exact List.all_eq_true.mpr fun _ _ => rfl
/-! ### the marked ticks by the whole list -/
theorem eT_early (f : Nat → Bool) {b n : Nat} (h : b ≤ n) : (eT f n).filter (fun k => decide (k < b)) = eT f b := by
  obtain ⟨x, rfl⟩ := Nat.exists_eq_add_of_le h
  unfold eT
  rw [List.filter_filter, List.range_add, List.filter_append]
  have e1 : (List.range b).filter (fun k => decide (k < b) && f k) = (List.range b).filter f := List.filter_congr fun k hk => by rw [decide_eq_true (List.mem_range.mp hk)]; rfl
  have e2 : ((List.range x).map fun y => b + y).filter (fun k => decide (k < b) && f k) = [] := by
    rw [List.filter_eq_nil_iff]
    intro k hk
    obtain ⟨y, _, rfl⟩ := List.mem_map.mp hk
    rw [decide_eq_false (by omega)]; simp
  rw [e1, e2, List.append_nil]
theorem eT_late (f : Nat → Bool) {b n : Nat} (h : b ≤ n) : (eT f n).filter (fun k => decide (b ≤ k)) = cT f b n := by
  obtain ⟨x, rfl⟩ := Nat.exists_eq_add_of_le h
  unfold eT cT
  rw [List.filter_filter, List.range_add, List.filter_append, Nat.add_sub_cancel_left]
  have e1 : (List.range b).filter (fun k => decide (b ≤ k) && f k) = [] := by
    rw [List.filter_eq_nil_iff]
    intro k hk
    have := List.mem_range.mp hk
    simp; omega
  have e2 : ((List.range x).map fun y => b + y).filter (fun k => decide (b ≤ k) && f k) = ((List.range x).filter fun k => f (b + k)).map (b + ·) := by
    rw [List.filter_map]
    congr 1
    refine List.filter_congr fun k _ => ?_
    show (decide (b ≤ b + k) && f (b + k)) = f (b + k)
    rw [decide_eq_true (by omega)]; rfl
  rw [e1, e2, List.nil_append]
theorem nat_list_filt (l : List Nat) (g : Int → Bool) (g' : Nat → Bool) (e : ∀ k : Nat, g (k : Int) = g' k) : ((l.map fun k : Nat => (k : Int)).filter g).map V.int = nV (l.filter g') := by
  unfold nV
  rw [List.filter_map, List.map_map]
  congr 1
  exact List.filter_congr fun k _ => e k
theorem mem_eT {f : Nat → Bool} {n k : Nat} : k ∈ eT f n ↔ k < n ∧ f k = true := by unfold eT; rw [List.mem_filter, List.mem_range]
theorem idx_wait {h : Hd} (hT : Tabs h.ts) {b n : Nat} (cy : IsCyc h b n) (p : Int) {t : Nat} (ht : b ≤ t) : waitsB h p (b + (t - b) % (n - b)) = waitsB h p t := by
  unfold waitsB
  rw [stt_near2 hT cy ht]
theorem dI_shaped (l : List Int) : SeqAt.shaped (.list (dI l)) = true := by
  obtain ⟨h1, h2⟩ := dI_lay l
  unfold SeqAt.shaped
  rw [show PyData.canLay0 (.list (dI l)) = true from h1, decide_eq_true (show PyData.depth (.list (dI l)) ≤ 64 by show PyData.depthAll (dI l) + 1 ≤ 64; omega)]
  rfl
theorem dN_nil (l : List Nat) : PyData.eqv (.list (dN l)) (.list []) = l.isEmpty := by cases l <;> rfl
theorem nV_last {l : List Nat} (h : l ≠ []) : ∃ t, t ∈ l ∧ atI (nV l) (-1) = some (.int ((t : Nat) : Int)) := by
  have hl : 0 < l.length := List.length_pos_iff.mpr h
  refine ⟨l[l.length - 1], List.getElem_mem _, ?_⟩
  have e1 : ixN (nV l).length (-1) = some (l.length - 1) := by
    unfold ixN
    rw [if_neg (by decide), nV_len, if_pos (by omega)]
    congr 1
    omega
  unfold atI
  rw [e1]
  show (nV l)[l.length - 1]? = _
  unfold nV
  rw [List.getElem?_map, List.getElem?_eq_getElem (by omega)]
  rfl
theorem dec_le (b k : Nat) : decide ((b : Int) ≤ (k : Int)) = decide (b ≤ k) := by
  by_cases z : b ≤ k
  · rw [decide_eq_true z, decide_eq_true (by omega)]
  · rw [decide_eq_false z, decide_eq_false (by omega)]
theorem dec_lt (b k : Nat) : decide ((b : Int) < (k : Int)) = decide (b < k) := by
  by_cases z : b < k
  · rw [decide_eq_true z, decide_eq_true (by omega)]
  · rw [decide_eq_false z, decide_eq_false (by omega)]
theorem cT_in {f : Nat → Bool} {b n : Nat} (k : Nat) : k ∈ cT f b n → b ≤ k := by
  unfold cT
  intro h
  obtain ⟨y, _, rfl⟩ := List.mem_map.mp h
  omega
end Dk

set_option Elab.async false
set_option linter.all false
set_option maxRecDepth 100000
set_option maxHeartbeats 2000000
namespace Dk
open PySem PySem.Spec PyProof.Rows L2 TL
/-! ### a def that may be called: its name, its promise -/
structure Cal (P : Program) (w : World) (K : PySem.W.Frag) (mg : Str → Option Value) (base : Heap) (k : Nat) (x : Str) (ps : List Str) (sp : Sp) : Prop where
  ex : ∃ f fd, mg x = some (.ref f) ∧ PySem.W.keepIn K (.ref f) = true ∧ Binds K fd ps [] ∧ FnOk P w K mg base CX0 k f fd ps sp
section
variable {X : Cx} {k : Nat} {x : Str} {ps : List Str} {sp : Sp} {p pos : Pos} {e : Expr} {es : List Expr} {t : TA}
theorem pe_cal (c : Cal X.prog X.w X.K X.mg X.base k x ps sp) (hr : Room k X.A) (hg : Gl X x) (ha : PA X (e :: es) t) (hdb : (x == ("__debug__" : Str)) = false := by decide) (he : starEach (e :: es) X.env = (false, eval e X.env) :: starEach es X.env := by rfl) (hpl : (backTo pos (starEach es X.env)).any (·.1) = false := by rfl) :
    PE X (.Call (.Name x p) (e :: es) [] pos) (tCall sp [] E0 t) := by
  obtain ⟨f, fd, g, kp, b, F⟩ := c.ex
  exact pe_call F hr hg g kp b .nil pass0 ha hdb he hpl
theorem pe_cal0 (c : Cal X.prog X.w X.K X.mg X.base k x ps sp) (hr : Room k X.A) (hg : Gl X x) (hdb : (x == ("__debug__" : Str)) = false := by decide) :
    PE X (.Call (.Name x p) [] [] pos) (tCall sp [] E0 tNil) := by
  obtain ⟨f, fd, g, kp, b, F⟩ := c.ex
  exact pe_call0 F hr hg g kp b .nil pass0 hdb
end
/-- a generator def -/
structure GCal (P : Program) (w : World) (K : PySem.W.Frag) (mg : Str → Option Value) (base : Heap) (k : Nat) (x : Str) (ps : List Str) (sp : SpG) : Prop where
  ex : ∃ f fd, mg x = some (.ref f) ∧ PySem.W.keepIn K (.ref f) = true ∧ Binds K fd ps [] ∧ GFn P w K mg base k f fd ps sp
theorem pgen_cal {X : Cx} {k : Nat} {x : Str} {ps : List Str} {sp : SpG} {p pos : Pos} {e : Expr} {es : List Expr} {t : TA} (c : GCal X.prog X.w X.K X.mg X.base k x ps sp) (hr : Room k X.A) (hg : Gl X x) (ha : PA X (e :: es) t) (hdb : (x == ("__debug__" : Str)) = false := by decide) (he : starEach (e :: es) X.env = (false, eval e X.env) :: starEach es X.env := by rfl) (hpl : (backTo pos (starEach es X.env)).any (·.1) = false := by rfl) :
    PGen X k (.Call (.Name x p) (e :: es) [] pos) (tCallG sp [] E0 t) E0 := by
  obtain ⟨f, fd, g, kp, b, F⟩ := c.ex
  exact pgen_call F hr hg g kp b .nil ha hdb he hpl
end Dk

set_option Elab.async false
set_option linter.all false
set_option maxRecDepth 100000
set_option maxHeartbeats 2000000
namespace Dk
open PySem PySem.Spec PyProof.Rows L2 TL LamX
/-! ### _law_error_of(f), _law_all_raise(fs, expected) -/
/-- a callable: known to be a def, with a code object -/
structure Cbl (P : Program) (w : World) (K : PySem.W.Frag) (mg : Str → Option Value) (base : Heap) (k : Nat) (f : Addr) (tl : XK → Hp → VK → Prop) : Prop where
  run : CallsV P w K mg base k f tl
  fn : ∀ E H Q, tl E H Q → ∃ fd : FuncData, H f = some (ExO f { cls := .type "function", data := .func fd })
theorem cbl_of {X : Cx} {pins : List (Addr × Obj)} {σ : L2.St} {H : Hp} {s : Shared} {k : Nat} {L : LamW} {ps : List Str} {cm : Addr → Option Obj} {t : XK → TE} (I : Inv X pins σ H s) (C : CmOf X H s cm) (LS : LamS1 X.N X.env.scope L.scope ps) (B : LamB L ps)
    (hbody : ∀ (A : Around) (outer : List Env) (s : Shared) (H : Hp) (E : XK) (f c' : Addr), Room k (A.deeper (lamEnv X L.scope s.heap.objs.size f c')) → PE (lamCx X A outer s H E L.scope f c') L.body (t E)) (f : Addr) :
    Cbl X.prog X.w X.K X.mg X.base k f (tlL X L f cm σ t) :=
  ⟨lam_calls I C LS B hbody f, fun E H Q ⟨⟨dV, doc, pm, ctv, c', h, _⟩, _⟩ => ⟨_, h⟩⟩
section
variable {P : Program} {w : World} {K : PySem.W.Frag} {mg : Str → Option Value} {base : Heap} {cs : Nat → Addr} {CE : Addr} {J : List Nat}
/-- x(), x a variable that bears a callable -/
theorem pe_actV {CXg : CXT} {Eg : XK} {Ng : List Str} {qg : Str} {sg : Scope} {g f : Addr} {cdg : Value} {k i : Nat} {a : Str} {pn : List (Addr × Obj)} {xe : Value → Shared → Prop} {W : WX} {E : XK} {tl : XK → Hp → VK → Prop} {p1 p2 : Pos} {A : Around} {outer : List Env} {s : Shared} {H : Hp}
    (B : Cbl P w K mg base k f tl)
    (tk : Takes ((cxOf CXg P w K mg base Ng qg sg g cdg A outer s H Eg).tr pn xe) W) (hW : ∀ cls d σ' H', E cls d H' → W cls d σ' H') (hr : Room (k + 1) (A.deeper (envOfC qg sg s.heap.objs.size g cdg)))
    (hN : Ng[i]? = some a) (hv : Vis sg a) (hd : (a == ("__debug__" : Str)) = false := by decide) (hcd : (a == ("__classdict__" : Str)) = false := by decide) :
    PE ((cxOf CXg P w K mg base Ng qg sg g cdg A outer s H Eg).tr pn xe) (.Call (.Name a p1) [] [] p2) (fun σZ HZ Q => σZ[i]? = some (some (.ref f)) ∧ tl E HZ Q) := by
  refine ⟨fun pinsZ sZ σZ HZ Q IZ h => ?_⟩
  obtain ⟨hs, ht⟩ := h
  refine wpAny_Call_Name_kw (thn ((pe_var (pos := p1) (i := i) hN hv hd hcd).run pinsZ sZ σZ HZ (fun v H1 => v = .ref f ∧ H1 = HZ) IZ ⟨.ref f, hs, rfl, rfl⟩) fun u s1 ⟨v, H1, I1, r1, q1⟩ => ?_)
  obtain ⟨ev, eH⟩ := q1
  subst ev
  rw [eH] at I1
  obtain rfl : u = Value.ref f := r1
  obtain ⟨fd, hf⟩ := B.fn _ _ _ ht
  refine PySem.W.callWith_F0 ⟨_, _, _, _, exO_at I1.hok hf⟩ ?_
  have rc := B.run _ _ s1 HZ Q E hr I1.env0 ht
  have hx : Passes (L2.CX P w) ((cxOf CXg P w K mg base Ng qg sg g cdg A outer s H Eg).tr pn xe) E := passes_call tk hW
  refine wpAny_call (codeAny_mono rc fun r s' hq => ?_)
  cases r with
  | error e => exact hx pinsZ σZ HZ s1 e s' I1 hq
  | ok fl =>
    cases fl with
    | ret u => exact I1.after hq
    | next => exact False.elim hq
    | brk => exact False.elim hq
    | cont => exact False.elim hq
/-- _law_error_of, given a callable -/
def spErrV (P : Program) (w : World) (K : PySem.W.Frag) (mg : Str → Option Value) (base : Heap) (cs : Nat → Addr) (J : List Nat) (k : Nat) : Sp := fun vs H Q _ =>
  ∃ (f c' : Addr) (q : Str) (tl : XK → Hp → VK → Prop), vs = [.ref f] ∧ Cbl P w K mg base k f tl ∧ H c' = some (CodeO c' q) ∧ TErr cs J tl H Q
/-- a context that has these surroundings -/
def cxAt (P : Program) (w : World) (K : PySem.W.Frag) (mg : Str → Option Value) (base : Heap) (A : Around) (outer : List Env) (s : Shared) (H : Hp) : Cx :=
  { (cxOf CX0 P w K mg base [] "" (defScope sErrOf) 0 .none A outer s H E0) with A := A, stack := outer }
theorem ok_errV {fE : Addr} {fdE : FuncData} {k : Nat} (N : TxtN mg cs CE) (EK : ErK K cs CE J) (FE : Fun K "_law_error_of" "_law_error_of" sErrOf fE fdE) :
    FnOk P w K mg base CX0 (k + 2) fE fdE ["_law_call"] (spErrV P w K mg base cs J k) := by
  refine ⟨fun vs H Q E h => ?_, fun A outer s H args us vs Q E hr e0 hb hv hsp => ?_⟩
  · obtain ⟨f, c', q, tl, e, _⟩ := h
    rw [e]; rfl
  · obtain ⟨f, c', q, tl, rfl, B, hc, ht⟩ := hsp
    obtain ⟨oc, od, kV, doc, pm, an, cdv, ct, osl, rfl, lk, hcd⟩ := FE.ex
    refine LamX.run_ofS (N := nErr) (ps := ["_law_call"]) (CX := CX0) lk hcd scErr hr e0 hb hv rfl fun hr' => ?_
    have gv := err_gives (X := cxAt P w K mg base A outer s H) (cs := cs) (CE := CE) (J := J) (q := q) (g := fE) (cdg := cdv) N EK (by show A.units + 100 < cLine; have := hr.un; omega)
    refine Exists.elim (gv f c' s H Q tl ?_ hc ht) fun t h => ⟨t, h.1.nox, h.2⟩
    intro W pn xe E p1 p2 tk hW
    have pa := pe_actV (P := P) (w := w) (K := K) (mg := mg) (base := base) (CXg := C8.CX0) (Eg := C8.E0) (Ng := nErr) (qg := "_law_error_of") (sg := defScope sErrOf) (g := fE) (cdg := cdv) (A := A) (outer := outer) (s := s) (H := H) (i := 0) (a := "_law_call") (p1 := p1) (p2 := p2) (W := W) (E := E) (pn := pn) (xe := xe) B tk hW hr' rfl (.inl rfl)
    refine ⟨fun pins s2 σ2 H2 Q2 I2 hq => ?_⟩
    exact pa.run pins s2 σ2 H2 Q2 I2 ⟨hq.1, hq.2.2⟩
end
end Dk

set_option Elab.async false
set_option linter.all false
set_option maxRecDepth 100000
set_option maxHeartbeats 2000000
namespace Dk
open PySem PySem.Spec PyProof.Rows L2 TL LamX
/-! ### a call to which the maker's cells are shown -/
structure LamK (X : Cx) (k : Nat) (L : LamW) (ps : List Str) (t : XK → TE) : Prop where
  LS : LamS1 X.N X.env.scope L.scope ps
  B : LamB L ps
  body : ∀ (A : Around) (outer : List Env) (s : Shared) (H : Hp) (E : XK) (f c' : Addr), Room k (A.deeper (lamEnv X L.scope s.heap.objs.size f c')) → PE (lamCx X A outer s H E L.scope f c') L.body (t E)
def tCallC (X : Cx) (sp : Sp) (t : TA) : TE := fun σ H Q => t σ H fun vs H1 => ∀ cm : Addr → Option Obj, (∀ b o, cm b = some o → H1 b = none) →
  (∀ k L ps tt, LamK X k L ps tt → ∀ f, Cbl X.prog X.w X.K X.mg X.base k f (tlL X L f cm σ tt)) → sp vs (addK cm H1) (fun v H3 => CmAt cm H3 ∧ Q v (stp cm H3)) E0
section
variable {X : Cx}
theorem pe_callC {x : Str} {k : Nat} {f : Addr} {fd : FuncData} {ps : List Str} {sp : Sp} {e : Expr} {es : List Expr} {t : TA} {p pos : Pos} (F : FnOk X.prog X.w X.K X.mg X.base CX0 k f fd ps sp) (hfn : ∀ y, X.fn y = true) (hr : Room k X.A) (hg : Gl X x) (hm : X.mg x = some (.ref f)) (hk : PySem.W.keepIn X.K (.ref f) = true) (hb : Binds X.K fd ps [])
    (ha : PA X (e :: es) t) (hdb : (x == ("__debug__" : Str)) = false := by decide) (he : starEach (e :: es) X.env = (false, eval e X.env) :: starEach es X.env := by rfl) (hpl : (backTo pos (starEach es X.env)).any (·.1) = false := by rfl) :
    PE X (.Call (.Name x p) (e :: es) [] pos) (tCallC X sp t) := by
  refine ⟨fun pins s σ H Q I h => ?_⟩
  refine wpAny_Call_Name_kw (ld_glob I hg hm ?_ hdb)
  refine PySem.W.callWith_K (h₀ := X.base) I.ok.mod.kin hk (thn (ha.run pos pins s σ H _ I h) fun us s1 ⟨vs, H1, I1, r, q⟩ => ⟨I1.kIn, ?_⟩) he hpl
  obtain ⟨cm, C⟩ := cm_of I1
  have q := q cm C.free fun k L ps tt LK f => cbl_of I1 C LK.LS LK.B LK.body f
  have up : ∀ b o, cm b = some o → X.s_0.heap.objs.size ≤ b := fun b o e => by
    obtain ⟨⟨y, hy⟩, _⟩ := C.of b o e
    exact I1.ok.cab y b (hfn y) hy
  have nfr : ∀ b o, cm b = some o → b ∉ frs X.stack := fun b o e z => by
    obtain ⟨⟨y, hy⟩, _⟩ := C.of b o e
    rcases List.mem_cons.mp (I1.stkSub b z) with z | z
    · exact I1.cne y b hy z
    · obtain ⟨_, o', ho', _⟩ := I1.ok.funs.mem z
      exact absurd (Heap.lt_size ho') (Nat.not_lt.mpr (up b o e))
  have cn : ∀ b, (∀ o, cm b ≠ some o) → cm b = none := fun b h => by
    cases z : cm b with
    | none => rfl
    | some o => exact absurd z (h o)
  have e0 := I1.env0
  have e1 : Env0 X.prog X.w X.K X.mg X.base X.A X.stack s1 (addK cm H1) := ⟨e0.frames, e0.mod, fun b o e => ⟨(e0.bs b o e).1, by
      rw [addK_none (cn b fun o' z => absurd (Heap.lt_size (I1.ok.bs b o e).1) (Nat.not_lt.mpr (up b o' z)))]
      exact (e0.bs b o e).2⟩, e0.bsz, e0.funs, fun b hb => by rw [addK_none (cn b fun o' z => nfr b o' z hb)]; exact e0.frf b hb, hok_add e0.hok fun b o e => ⟨C.free b o e, (C.of b o e).2⟩, e0.bare⟩
  have hl : (us ++ []).length = ps.length := by rw [List.append_nil, ← r.length]; exact F.len _ _ _ _ q
  have hb' := hb s1 us I1.kIn hl
  rw [List.append_nil] at hb'
  refine wpAny_call (codeAny_mono (F.run X.A X.stack s1 (addK cm H1) ⟨us, []⟩ us vs _ E0 hr e1 hb' r q) fun rr s' hq => ?_)
  cases rr with
  | error e => exact (show False from hq).elim
  | ok fl =>
    cases fl with
    | ret u =>
      obtain ⟨v, H3, os, bare, un, hok, rv, cA, q3⟩ := hq
      have back : ∀ b (w : HO), cm b = none → H3 b = some w → stp cm H3 b = some w := fun b w e z => (stp_none e).trans z
      have nn : ∀ b (w : HO), H1 b = some w → cm b = none := fun b w e => cn b fun o z => by rw [C.free b o z] at e; cases e
      refine I1.after ⟨v, stp cm H3, os, bare, ⟨fun b o e n hb he => ?_, fun b o e n hb he => ?_, fun b o e n he => ?_, un.there, fun b xs e => back _ _ (nn _ _ e) (un.tups b xs ((addK_none (nn _ _ e)).trans e)), fun b o w e => back _ _ (nn _ _ e) (un.frzs b o w ((addK_none (nn _ _ e)).trans e)), fun b qs e => ?_⟩, hok_strip hok cA, rv, q3⟩
      · cases z : cm b with
        | none => exact un.keep b o e (by rw [addK_none z]; exact n) hb he
        | some o' =>
          have z2 := (C.of b o' z).2
          rw [e] at z2; cases z2
          exact exO_at hok (cA b _ z)
      · cases z : cm b with
        | none => exact un.slot b o e (by rw [addK_none z]; exact n) hb he
        | some o' => exact absurd hb (nfr b o' z)
      · cases z : cm b with
        | none => rw [stp_none z]; exact un.free b o e (by rw [addK_none z]; exact n) he
        | some o' => exact stp_some z
      · obtain ⟨m, z⟩ := un.tbls b qs ((addK_none (nn _ _ e)).trans e)
        exact ⟨m, back _ _ (nn _ _ e) z⟩
    | next => exact False.elim hq
    | brk => exact False.elim hq
    | cont => exact False.elim hq
end
/-! ### _law_all_raise -/
section
variable {P : Program} {w : World} {K : PySem.W.Frag} {mg : Str → Option Value} {base : Heap} {cs : Nat → Addr} {CE : Addr} {J : List Nat}
/-- f's error is told as e -/
def Told (P : Program) (w : World) (K : PySem.W.Frag) (mg : Str → Option Value) (base : Heap) (cs : Nat → Addr) (J : List Nat) (k : Nat) (e : PyData) (H : Hp) (f : Addr) : Prop :=
  ∃ (c' : Addr) (q : Str) (tl : XK → Hp → VK → Prop), Cbl P w K mg base k f tl ∧ H c' = some (CodeO c' q) ∧ ∀ (H' : Hp) (Q' : VK), Same H H' → (∀ (v : V) (H'' : Hp), Same H' H'' → Dp K H'' v e → Q' v H'') → TErr cs J tl H' Q'
def spAllR (P : Program) (w : World) (K : PySem.W.Frag) (mg : Str → Option Value) (base : Heap) (cs : Nat → Addr) (J : List Nat) (k : Nat) : Sp := fun vs H Q _ =>
  ∃ (L p : Addr) (fs : List Addr) (e : PyData), vs = [.ref L, .ref p] ∧ H L = some (.lst (fs.map V.ref)) ∧ fs.length ≤ 1000 ∧ Dp K H (.ref p) e ∧ SeqAt.shaped e = true ∧ PyData.eqv e e = true ∧ (∀ f ∈ fs, Told P w K mg base cs J k e H f) ∧ ∀ H', Same H H' → Q (.bl true) H'
abbrev nAllR : List Str := ["_law_calls", "_law_expected", "_law_call"]
theorem scAllR : FnScope nAllR ["_law_calls", "_law_expected"] (defScope sAllRaise) := ⟨rfl, rfl, rfl, by decide +kernel, rfl, by decide +kernel, by decide +kernel⟩
theorem ok_allR {f : Addr} {fd : FuncData} {k : Nat} (F : Fun K "_law_all_raise" "_law_all_raise" sAllRaise f fd) (GE : Cal P w K mg base (k + 2) "_law_error_of" ["_law_call"] (spErrV P w K mg base cs J k)) :
    FnOk P w K mg base CX0 (k + 3) f fd ["_law_calls", "_law_expected"] (spAllR P w K mg base cs J k) := by
  refine F.ok scAllR (fun vs H Q E h => ?_) (fun cdv A outer s H vs Q E hr h => ?_)
  · obtain ⟨_, _, _, _, e, _⟩ := h
    rw [e]; rfl
  · obtain ⟨L, p, fs, e, rfl, hL, hz, hp, he, heq, hf, k⟩ := h
    have hu : (A.deeper (envOfC "_law_all_raise" (defScope sAllRaise) s.heap.objs.size f cdv)).units + 64 < cLine := by have := hr.un; omega
    refine ⟨_, pss_one (ps_ret (pe_cmpR (op_eqD hu) (pe_lc (own := [("_law_call", 2)]) (g := gName 2) (by rfl) scAllR.nd (pi_list (pv 0)) (blkOk_by (N := nAllR) (sc := defScope sAllRaise) (by decide +kernel))
      (fun _ _ _ _ _ => pg_name (i := 2) scAllR.nd rfl (Or.inl rfl)) (fun _ _ _ _ _ => by exact pts_one (pt_cmpR (op_neDK (K := K) rfl hu) (pe_cal GE hr (by rfl) (pa_cons (pv 2) pa_nil)) (pv 1) (nomark _))) (fun _ _ _ _ _ => pv 2)) (pe_lst pa_nil) (nomark _))), ?_⟩
    refine ⟨_, rfl, _, rfl, ⟨_, SqL.of hL⟩, fun D hD => comp_list (K := K) (l := L) (xs := fs.map V.ref) hD (SqL.of hL) (by rw [List.length_map]; omega) (fun _ => false) (fun _ _ _ => True) (fun _ _ _ _ _ _ => trivial) ?_ (fun k x H2 Q hx hk => by cases hk) (fun _ => rfl) ?_⟩
    · intro j x H2 Qb hx s2 nD kb
      rw [List.getElem?_map] at hx
      obtain ⟨g, hg, rfl⟩ := Option.map_eq_some_iff.mp hx
      obtain ⟨c', q, tl, B, hc, ht⟩ := hf g (List.mem_of_getElem? hg)
      refine ⟨_, rfl, g, c', q, tl, rfl, B, s2 _ _ hc, ht H2 _ s2 fun v H3 s3 dv => ?_⟩
      refine ⟨_, rfl, e, e, dv, dpSame (s2.trans s3) _ _ hp, he, he, _, rfl, ?_⟩
      rw [heq]
      exact kb H3 s3
    · intro H2 ys s2 eD hp2
      have : ys = [] := by
        have hh : ((List.range (fs.map V.ref).length).filter fun _ => false) = [] := by simp
        rw [hh] at hp2
        cases hp2
        rfl
      subst this
      refine ⟨by show 0 ≤ sizeLine; decide, fun l hl => ?_⟩
      refine ⟨.list [], .list [], .lst (SqL.of ((upd_ne (ne_of_none eD hl)).trans eD)) .nil, .lst (SqL.of upd_same) .nil, by decide +kernel, by decide +kernel, ?_⟩
      exact k _ (s2.trans (same_upd hl))
end
end Dk

set_option Elab.async false
set_option linter.all false
set_option maxRecDepth 100000
set_option maxHeartbeats 2000000
/-! A generator's body where the consumer may change objects of its own (the addresses ch) between two items. -/
namespace Gq
open PySem PySem.Spec PyProof.Rows GenW L2
/-- the consumer's objects: none of the generator's, younger than its call -/
structure Far (X : Cx) (ch : List Addr) : Prop where
  yg : ∀ b ∈ ch, X.s_0.heap.objs.size ≤ b
  fr : ∀ b ∈ ch, b ≠ X.env.locals
  cl : ∀ b ∈ ch, ∀ x c, X.env.cells.lookup x = some c → c ≠ b
  pn : ∀ b ∈ ch, ∀ p ∈ X.pn, p.1 ≠ b
/-- they stand, and are no cells -/
def Stand (ch : List Addr) (s : Shared) : Prop := ∀ b ∈ ch, ∃ o, s.heap.get? b = some o ∧ ∀ v, o.data ≠ .cell v
/-- the generator runs; the consumer's objects are as they were when it was woken (t) -/
structure Run (X : Cx) (ch : List Addr) (t : Shared) (σ : L2.St) (H : Hp) (s : Shared) : Prop where
  st : Stand ch t
  inv : Inv X (pinsAt ch t.heap) σ H s
/-- what the consumer does while the generator sleeps -/
structure Took (ch : List Addr) (s s' : Shared) : Prop where
  os : s'.os = s.os
  bare : AllBare s'.gens
  keep : ∀ b o, b ∉ ch → s.heap.get? b = some o → s'.heap.get? b = some o
  st : Stand ch s'
theorem Run.pin {X : Cx} {ch : List Addr} {t s : Shared} {σ : L2.St} {H : Hp} (r : Run X ch t σ H s) {b : Addr} (hb : b ∈ ch) : ∃ o, t.heap.get? b = some o ∧ s.heap.get? b = some o ∧ H b = none ∧ b ≠ X.env.locals ∧ b ∉ X.fs := by
  obtain ⟨o, e, _⟩ := r.st b hb
  obtain ⟨h1, h2, h3, h4, _⟩ := r.inv.pin (b, o) (List.mem_append_right _ (mem_pinsAt hb e))
  exact ⟨o, e, h1, h2, h3, h4⟩
theorem Run.woken {X : Cx} {ch : List Addr} {t s s' : Shared} {σ : L2.St} {H : Hp} (f : Far X ch) (r : Run X ch t σ H s) (k : Took ch s s') : Run X ch s' σ H s' := by
  have nH : ∀ b u, H b = some u → b ∉ ch := fun b u e hb => by
    obtain ⟨_, _, _, n, _⟩ := r.pin hb
    rw [n] at e; cases e
  have I0 : Inv X [] σ H s := r.inv.pins_of fun p hp => absurd hp (by simp)
  obtain ⟨hh, g, d, tk, o⟩ := s'
  have ho : o = s.os := k.os
  subst ho
  have J : Inv X [] σ H { s with heap := hh, gens := g, drawn := d, toks := tk } := by
    refine I0.step (g' := g) (t' := tk) (d' := d) (ch := ch) (fun b hb => ⟨.inr (f.yg b hb), f.fr b hb, f.cl b hb, fun p hp => ?_⟩) (fun b ob _ _ nc e _ => k.keep b ob nc e) (fun b ob _ _ nc e _ => ⟨ob.slots, k.keep b ob nc e⟩) (fun _ _ _ _ n => n)
      (fun b ob nc e => ⟨ob, k.keep b ob nc e⟩) (fun _ _ q => q) (fun _ _ _ q => q) (fun b ps q => ⟨#[], by rw [q]; simp⟩) (fun m hm => ?_) (fun b u q => ?_) k.bare
    · rcases List.mem_append.mp hp with hp | hp
      · exact f.pn b hb p hp
      · exact absurd hp (by simp)
    · obtain ⟨ob, es, ep, e, rr⟩ := hm
      exact ⟨ob, es, ep, k.keep _ ob (fun hb => f.fr _ hb rfl) e, rr⟩
    · refine (I0.hok b u q).stay (fun c v hc y => k.keep c v ?_ y) (fun _ y => y) fun _ _ y => y
      rcases hc with y | y
      · rw [y]; exact nH b u q
      · exact nH c _ y
  refine ⟨k.st, J.pins_of fun p hp => ?_⟩
  obtain ⟨hb, e⟩ := of_pinsAt hp
  obtain ⟨o, e', nc⟩ := k.st p.1 hb
  obtain ⟨_, _, _, n1, n2, n3⟩ := r.pin hb
  have eo : o = p.2 := Option.some.inj (e'.symm.trans e)
  subst eo
  exact ⟨e, n1, n2, n3, nc⟩
/-! ### statements -/
structure Ge where
  nx : List V → L2.St → Hp → Prop
  rt : List V → VK
  bk : List V → L2.St → Hp → Prop := fun _ _ _ => False
  ct : List V → L2.St → Hp → Prop := fun _ _ _ => False
def Ge.at (D : Ge) (ys : List V) : Ends := { nx := D.nx ys, rt := D.rt ys, bk := D.bk ys, ct := D.ct ys }
abbrev Tq := Ge → List V → L2.St → Hp → Prop
def Aft (X : Cx) (ch : List Addr) (t : Shared) (D : Ge) (ys : List V) : Flow → Shared → Prop
  | .next, s => ∃ σ H, Run X ch t σ H s ∧ D.nx ys σ H
  | .brk, s => ∃ σ H, Run X ch t σ H s ∧ D.bk ys σ H
  | .cont, s => ∃ σ H, Run X ch t σ H s ∧ D.ct ys σ H
  | .ret u, s => ∃ v σ H, Run X ch t σ H s ∧ RelV v u ∧ D.rt ys v H
section
variable (X : Cx) (ch : List Addr) (N : Nat) (Yl : List V → V → Hp → Prop)
/-- an item is handed out; Yl tells of it -/
def Yq : Protocol := fun n t v s kap => ∃ ys x σ H, n + 1 + ys.length = N ∧ RelV x v ∧ Run X ch t σ H s ∧ Yl ys x H ∧ ∀ s', Took ch s s' → kap (.send .none) s'
structure At (A : Around) (c : Code) (fs : List Frame) (gd : Bool → Bool) : Prop where
  far : Far X ch
  over : A.over c fs = X.A
  sp : splitAtGen fs = none
  gu : fs.any Frame.guarded = false
  gd : gd false = false
structure Then (A : Around) (R : GenEnd) (c : Code) (fs : List Frame) (K : Flow → Sem PySem.Fin) (J : Value → Sem PySem.Fin) (D : Ge) : Prop where
  ok : ∀ (n : Nat) (ys : List V) (t s : Shared) (f : Flow), n + ys.length = N → Aft X ch t D ys f s → Seg (model X.prog X.w) A R (Yq X ch N Yl) n t c (K f) fs s
  ex : ∀ (n : Nat) (t : Shared) (e : Value) (s : Shared), X.xe e s → Seg (model X.prog X.w) A R (Yq X ch N Yl) n t c (J e) fs s
structure Sq (st : Stmt) (q : Tq) : Prop where
  run : ∀ (A : Around) (R : GenEnd) (n : Nat) (ys : List V) (t : Shared) (c : Code) (fs : List Frame) (K : Flow → Sem PySem.Fin) (J : Value → Sem PySem.Fin) (gd : Bool → Bool) (lv : List Value → List Value) (s : Shared) (σ : L2.St) (H : Hp) (D : Ge),
    At X ch A c fs gd → n + ys.length = N → Then X ch N Yl A R c fs K J D → Run X ch t σ H s → q D ys σ H → Seg (model X.prog X.w) A R (Yq X ch N Yl) n t c ((exec st X.env).wrap K J gd lv) fs s
structure Sqs (st : List Stmt) (q : Tq) : Prop where
  run : ∀ (A : Around) (R : GenEnd) (n : Nat) (ys : List V) (t : Shared) (c : Code) (fs : List Frame) (K : Flow → Sem PySem.Fin) (J : Value → Sem PySem.Fin) (gd : Bool → Bool) (lv : List Value → List Value) (s : Shared) (σ : L2.St) (H : Hp) (D : Ge),
    At X ch A c fs gd → n + ys.length = N → Then X ch N Yl A R c fs K J D → Run X ch t σ H s → q D ys σ H → Seg (model X.prog X.w) A R (Yq X ch N Yl) n t c ((execs st X.env).wrap K J gd lv) fs s
end
section
variable {X : Cx} {ch : List Addr} {N : Nat} {Yl : List V → V → Hp → Prop} {st : Stmt} {rest : List Stmt}
def qP (u : TS) : Tq := fun D ys σ H => u (D.at ys) σ H
theorem aft_of {t s : Shared} {D : Ge} {ys : List V} {f : Flow} (h0 : Stand ch t) (h : SP X (pinsAt ch t.heap) (D.at ys) f s) : Aft X ch t D ys f s := by
  cases f with
  | next => obtain ⟨σ, H, I, q⟩ := h; exact ⟨σ, H, ⟨h0, I⟩, q⟩
  | brk => obtain ⟨σ, H, I, q⟩ := h; exact ⟨σ, H, ⟨h0, I⟩, q⟩
  | cont => obtain ⟨σ, H, I, q⟩ := h; exact ⟨σ, H, ⟨h0, I⟩, q⟩
  | ret u => obtain ⟨v, σ, H, I, r, q⟩ := h; exact ⟨v, σ, H, ⟨h0, I⟩, r, q⟩
theorem sq_ps {u : TS} (h : PS X st u) : Sq X ch N Yl st (qP u) := by
  refine ⟨fun A R n ys t c fs K J gd lv s σ H D a hn k r hu => seg_wrap ?_⟩
  rw [a.over]
  exact wpAny_mono (h.run _ s σ H (D.at ys) r.inv hu) (fun f s' q => k.ok n ys t s' f hn (aft_of r.st q)) fun e s' q => k.ex n t e s' q
theorem sqs_nil : Sqs X ch N Yl [] (fun D ys σ H => D.nx ys σ H) :=
  ⟨fun A R n ys t c fs K J gd lv s σ H D a hn k r hu => seg_execs_nil (k.ok n ys t s .next hn ⟨σ, H, r, hu⟩)⟩
theorem sqs_cons {q1 q2 : Tq} (h1 : Sq X ch N Yl st q1) (h2 : Sqs X ch N Yl rest q2) : Sqs X ch N Yl (st :: rest) (fun D ys σ H => q1 { D with nx := fun ys' σ' H' => q2 D ys' σ' H' } ys σ H) := by
  refine ⟨fun A R n ys t c fs K J gd lv s σ H D a hn k r hu => seg_execs_cons ?_⟩
  refine h1.run A R n ys t c fs _ J gd lv s σ H _ a hn ⟨fun n' ys' t' s' f hn' hf => ?_, k.ex⟩ r hu
  cases f with
  | next =>
    obtain ⟨σ', H', r', hq⟩ := hf
    exact h2.run A R n' ys' t' c fs K J gd lv s' σ' H' D a hn' k r' hq
  | brk => exact k.ok n' ys' t' s' .brk hn' hf
  | cont => exact k.ok n' ys' t' s' .cont hn' hf
  | ret u => exact k.ok n' ys' t' s' (.ret u) hn' hf
/-- yield e -/
def qY (N : Nat) (Yl : List V → V → Hp → Prop) (te : TE) : Tq := fun D ys σ H => ys.length < N ∧ te σ H fun x H1 => Yl ys x H1 ∧ D.nx (ys ++ [x]) σ H1
theorem sq_yield {e : Expr} {te : TE} {yp pos : Pos} (he : PE X e te) (hco : X.env.scope.isCoroutine = false := by rfl) (hi : interactive X.env = false := by rfl) : Sq X ch N Yl (.Expr (.Yield (some e) yp) pos) (qY N Yl te) := by
  refine ⟨fun A R n ys t c fs K J gd lv s σ H D a hn k r hu => ?_⟩
  obtain ⟨hl, hu⟩ := hu
  obtain ⟨m, rfl⟩ : ∃ m, n = m + 1 := ⟨n - 1, by omega⟩
  refine seg_Expr_Yield a.sp a.gd a.gu ?_ hco hi
  rw [a.over]
  refine wpAny_mono (he.run _ s σ H _ r.inv hu) (fun v s' hv => ?_) fun x s' hx => k.ex _ t x s' hx
  obtain ⟨x, H1, I1, rv, hy, hq⟩ := hv
  have r1 : Run X ch t σ H1 s' := ⟨r.st, I1⟩
  intro kap hk
  refine ⟨ys, x, σ, H1, hn, rv, r1, hy, fun s'' z => hk .none s'' ?_⟩
  refine k.ok m (ys ++ [x]) s'' s'' .next ?_ ⟨σ, H1, r1.woken a.far z, hq⟩
  rw [List.length_append, List.length_singleton]; omega
end
end Gq

set_option Elab.async false
set_option linter.all false
set_option maxRecDepth 100000
set_option maxHeartbeats 2000000
namespace Gq
open PySem PySem.Spec PyProof.Rows GenW L2
section
variable {X : Cx} {ch : List Addr} {N : Nat} {Yl : List V → V → Hp → Prop}
theorem at_in {A : Around} {c c' : Code} {fs : List Frame} {gd : Bool → Bool} {k : Result → Sem PySem.Fin} {l kp : List Value} {p : Pos} (a : At X ch A c fs gd) (hw : c'.weight = 0) (hu : c'.cUnits = 0) : At X ch A c' (.ret k none (gd false) l c p kp :: fs) id := by
  refine ⟨a.far, (over_loop hw hu).trans a.over, ?_, ?_, rfl⟩
  · show (splitAtGen fs).map _ = none
    simp [a.sp]
  · show (gd false || fs.any Frame.guarded) = false
    simp [a.gd, a.gu]
/-- what stands behind a loop -/
abbrev outK (X : Cx) (K : Flow → Sem PySem.Fin) (J : Value → Sem PySem.Fin) (gd : Bool → Bool) (lv : List Value → List Value) : Result → Sem PySem.Fin :=
  fun r => ((match r with
    | .ok f => (.pure f : Sem Flow)
    | .error e => .raise e).onRaise (cameBack X.env)).wrap K J gd lv
/-- an exception that came back out of a loop -/
theorem back_seg {A : Around} {R : GenEnd} {c : Code} {fs : List Frame} {K : Flow → Sem PySem.Fin} {J : Value → Sem PySem.Fin} {gd : Bool → Bool} {lv : List Value → List Value} {D : Ge} {n : Nat} {t s : Shared} {e : Value} (a : At X ch A c fs gd) (k : Then X ch N Yl A R c fs K J D)
    (h : cameBackBy (model X.prog X.w) X.A X.env X.xe e s) : Seg (model X.prog X.w) A R (Yq X ch N Yl) n t c (outK X K J gd lv (.error e)) fs s := by
  show Seg _ _ _ _ _ _ _ (((cameBack X.env e).bind fun _ => Sem.raise (α := Flow) e).wrap K J gd lv) _ _
  rw [Sem.bind_eq_wrap, Sem.wrap_wrap]
  refine seg_wrap ?_
  rw [a.over]
  exact wpAny_mono h (fun _ s' q => k.ex n t e s' q) fun y s' q => k.ex n t y s' q
def qW (tc : TT) (tb : Tq) : Tq := fun D ys σ H => ∃ W : Nat → List V → L2.St → Hp → Prop, (∃ m, W m ys σ H) ∧
  ∀ m ys σ H, W m ys σ H → tc σ H fun b H1 => if b = true then ∃ Nx : List V → L2.St → Hp → Prop, (∀ ys' σ' H', Nx ys' σ' H' → ∃ m', m' < m ∧ W m' ys' σ' H') ∧ tb { D with nx := Nx, ct := Nx, bk := D.nx } ys σ H1 else D.nx ys σ H1
theorem sq_while {test : Expr} {body : List Stmt} {pos : Pos} {tc : TT} {tb : Tq} (hp : PassesOwn (model X.prog X.w) X.A X.env X.xe) (hc : PT X test tc) (hb : Sqs X ch N Yl body tb) : Sq X ch N Yl (.While test body [] pos) (qW tc tb) := by
  refine ⟨fun A R n ys t c fs K J gd lv s σ H D a hn k r hu => ?_⟩
  obtain ⟨W, ⟨m0, w0⟩, turn⟩ := hu
  refine seg_While fun p => ?_
  have inn := fun (kk : Result → Sem PySem.Fin) => at_in (k := kk) (c' := .whileLoop test body [] X.env) (l := lv []) (kp := []) (p := p) a rfl rfl
  have all : ∀ (m n : Nat) (ys : List V) (t s : Shared) (σ : L2.St) (H : Hp), n + ys.length = N → W m ys σ H → Run X ch t σ H s →
      Seg (model X.prog X.w) A R (Yq X ch N Yl) n t (.whileLoop test body [] X.env) ((model X.prog X.w).den (.whileLoop test body [] X.env)) (.ret (outK X K J gd lv) none (gd false) (lv []) c p [] :: fs) s := by
    intro m
    induction m using Nat.strongRecOn with
    | ind m ih =>
      intro n ys t s σ H hn w r
      have out : ∀ (n : Nat) (t : Shared) (x : Value) (s' : Shared), X.xe x s' → Seg (model X.prog X.w) A R (Yq X ch N Yl) n t (.whileLoop test body [] X.env)
          ((do noteFrame x X.env; theTreesLotGoes x : Sem Unit).wrap (fun _ => .raise x) .raise id id) (.ret (outK X K J gd lv) none (gd false) (lv []) c p [] :: fs) s' := by
        intro n t x s' hx
        refine seg_wrap ?_
        rw [(inn _).over]
        refine wpAny_bind (wpAny_mono (hp x s' hx) (fun _ s2 q => wpAny_theTreesLotGoes (seg_leaf (.error x) (back_seg a k q))) fun y s2 q => seg_leaf (.error y) (back_seg a k q))
      refine seg_whileLoop ?_
      rw [(inn _).over]
      refine wpAny_mono (hc.run _ s σ H _ r.inv (turn m ys σ H w)) (fun b s' hb' => ?_) fun x s' hx => out n t x s' hx
      obtain ⟨H2, I2, q2⟩ := hb'
      have r2 : Run X ch t σ H2 s' := ⟨r.st, I2⟩
      by_cases cb : b = true
      · subst cb
        rw [if_pos rfl] at q2 ⊢
        obtain ⟨Nx, hNx, q2⟩ := q2
        refine hb.run A R n ys t _ _ _ _ id id s' σ H2 _ (inn _) hn ⟨fun n' ys' t' s3 f hn' hf => ?_, fun n' t' x s3 hx => out n' t' x s3 hx⟩ r2 q2
        have more : ∀ {ys' : List V} {σ3 : L2.St} {H3 : Hp} {n' : Nat} {t' s3 : Shared}, n' + ys'.length = N → Run X ch t' σ3 H3 s3 → Nx ys' σ3 H3 → Seg (model X.prog X.w) A R (Yq X ch N Yl) n' t' (.whileLoop test body [] X.env) (.pure (.again (.whileLoop test body [] X.env))) (.ret (outK X K J gd lv) none (gd false) (lv []) c p [] :: fs) s3 := by
          intro ys' σ3 H3 n' t' s3 hn' r3 hx
          obtain ⟨m', hm, w'⟩ := hNx ys' σ3 H3 hx
          exact seg_again rfl (ih m' hm n' ys' t' s3 σ3 H3 hn' w' r3)
        cases f with
        | next => obtain ⟨σ3, H3, r3, q3⟩ := hf; exact more hn' r3 q3
        | cont => obtain ⟨σ3, H3, r3, q3⟩ := hf; exact more hn' r3 q3
        | brk => exact seg_leaf (.ok .next) (k.ok n' ys' t' s3 .next hn' hf)
        | ret v => exact seg_leaf (.ok (.ret v)) (k.ok n' ys' t' s3 (.ret v) hn' hf)
      · rw [if_neg cb] at q2 ⊢
        exact seg_execs_nil (seg_leaf (.ok .next) (k.ok n ys t s' .next hn ⟨σ, H2, r2, q2⟩))
  exact all m0 n ys t s σ H hn w0 r
end
end Gq

set_option autoImplicit false
set_option Elab.async false
set_option linter.all false
set_option maxRecDepth 100000
set_option maxHeartbeats 2000000
namespace Gq
open PySem PySem.Spec PyProof.Rows GenW L2
/-- what the def's state and the consumer's objects are, seen from outside -/
structure Seen (P : Program) (w : World) (outer : List Env) (H : Hp) (s0 : Shared) (ch : List Addr) (t : Shared) (H' : Hp) (s : Shared) : Prop where
  os : s.os = s0.os
  bare : AllBare s.gens
  lim : s.heap.NoLimit
  un : Un (frs outer) [] H H' s0.heap s.heap
  ok : HOk P w H' s.heap
  mine : ∀ b ∈ ch, H' b = none ∧ ∃ o, t.heap.get? b = some o ∧ s.heap.get? b = some o
/-- an item, seen from outside -/
def Item (P : Program) (w : World) (outer : List Env) (H : Hp) (s0 : Shared) (ch : List Addr) (N : Nat) (Yl : List V → V → Hp → Prop) (a : Addr) (g : Nat) : Protocol := fun n t v s kap =>
  ∃ ys x H', n + 1 + ys.length = N ∧ RelV x v ∧ Seen P w outer H s0 ch t H' s ∧ s.heap.IsGen a g ∧ Yl ys x H' ∧ ∀ s', Took ch s s' → kap (.send .none) s'
/-- the end, seen from outside: nothing is let out -/
def Over (P : Program) (w : World) (outer : List Env) (H : Hp) (s0 : Shared) (ch : List Addr) (N : Nat) (Q : List V → Hp → Prop) : GenEnd := fun n t r s =>
  (r = .ok (.ret .none) ∨ r = .ok .next) ∧ ∃ ys H', n + ys.length = N ∧ Seen P w outer H s0 ch t H' s ∧ Q ys H'
/-- a generator that has not begun -/
def Born (P : Program) (w : World) (k : Nat) (outer : List Env) (H : Hp) (s0 : Shared) (N : Nat) (Yl : List V → V → Hp → Prop) (Q : List V → Hp → Prop) (u : Value) (s' : Shared) : Prop :=
  ∃ (a : Addr) (g : Nat) (c : Code), u = .ref a ∧ s0.heap.objs.size ≤ a ∧ a < s'.heap.objs.size ∧ s'.heap.IsGen a g ∧ s'.gens[g]? = some (.fresh c) ∧ s'.os = s0.os ∧ AllBare s'.gens ∧ s'.heap.NoLimit ∧ (∀ b o, s0.heap.get? b = some o → s'.heap.get? b = some o) ∧
    ∀ (A : Around) (ch : List Addr) (s2 : Shared), Room k A → A.frames = some outer → (∀ b ∈ ch, s'.heap.objs.size ≤ b) → (∀ b o, s'.heap.get? b = some o → s2.heap.get? b = some o) → Stand ch s2 → s2.os = s0.os → AllBare s2.gens →
      Seg (model P w) A (Over P w outer H s0 ch N Q) (Item P w outer H s0 ch N Yl a g) N s2 c ((model P w).den c) [] s2
abbrev SpQ := List V → Hp → Nat → (List V → V → Hp → Prop) → (List V → Hp → Prop) → Prop
structure GdOk (P : Program) (w : World) (K : PySem.W.Frag) (mg : Str → Option Value) (base : Heap) (k : Nat) (f : Addr) (fd : FuncData) (ps : List Str) (sp : SpQ) : Prop where
  len : ∀ vs H N Yl Q, sp vs H N Yl Q → vs.length = ps.length
  run : ∀ (A : Around) (outer : List Env) (s : Shared) (H : Hp) (args : Args) (us : List Value) (vs : List V) (N : Nat) (Yl : List V → V → Hp → Prop) (Q : List V → Hp → Prop), Room k A → Env0 P w K mg base A outer s H → BindsTo s fd args (ps.zip us) → Vals vs us → sp vs H N Yl Q →
    codeAny (model P w) A (.call (.ref f) args) (fun r s' => match r with
      | .ok (.ret u) => Born P w k outer H s N Yl Q u s'
      | _ => False) s
theorem gd_of {P : Program} {w : World} {K : PySem.W.Frag} {mg : Str → Option Value} {base : Heap} {k : Nat} {f : Addr} {name qual : Str} {params : Arguments} {body : List Stmt} {scope : Scope} {dV kV doc pm cdv ct oc : Value} {an od : Option Addr} {osl : Array (Option Value)} {Ns ps : List Str} {sp : SpQ}
    (lk : K.lookup f = some ⟨oc, od, .func (PySem.W.fnOf name qual params body scope dV kV doc pm an cdv ct), osl⟩) (hcd : PySem.W.codeIn K cdv qual = true) (S : GScope Ns ps scope) (len : ∀ vs H N Yl Q, sp vs H N Yl Q → vs.length = ps.length)
    (hbody : ∀ (A : Around) (outer : List Env) (s : Shared) (H : Hp) (vs : List V) (N : Nat) (Yl : List V → V → Hp → Prop) (Q : List V → Hp → Prop) (pn : List (Addr × Obj)) (ch : List Addr), Room k (A.deeper (envOfC qual scope s.heap.objs.size f cdv)) → sp vs H N Yl Q →
      ∃ q, Sqs (gcxOf P w K mg base Ns qual scope f cdv A outer s H E0 pn) ch N Yl body q ∧ q { nx := fun ys _ H' => Q ys H', rt := fun ys v H' => v = .non ∧ Q ys H' } [] (start Ns vs) H) :
    GdOk P w K mg base (k + 1) f (PySem.W.fnOf name qual params body scope dV kV doc pm an cdv ct) ps sp := by
  refine ⟨len, fun A outer s H args us vs N Yl Q hr e0 hb rv hsp => ?_⟩
  have hl := len _ _ _ _ _ hsp
  have KX : K.In s.heap := e0.mod.kin.keeps fun b o e => (e0.bs b o e).1
  have lim : s.heap.NoLimit := e0.mod.nolimit.keeps fun b o e => (e0.bs b o e).1
  have hk : ∀ y ∈ ps.zip us, scope.names.lookup y.1 = some .local ∨ (scope.names.lookup y.1 = some .cell ∧ ((cellsFrom (s.heap.objs.size + 1) scope.names []).lookup y.1).isSome = true) := by
    rintro ⟨x, v⟩ hy
    rcases S.par x (List.of_mem_zip hy).1 with q | q
    · exact .inl q
    · exact .inr ⟨q, PySem.W.cellsFrom_some _ _ _ (.inl q)⟩
  refine codeAny_call_generator hr.depth (KX _ _ lk) rfl S.co S.gen rfl (PySem.W.codeRec_of KX hcd) (hb _ _ _ _ (wpAny_newFunctionEnv_cells S.kind hk fun env he s1 x => ?_))
  subst he
  have lim1 : s1.heap.NoLimit := lim.keeps x.toInCall.keep
  refine ⟨lim1, ?_⟩
  obtain ⟨h1, tk, es, hk1⟩ := x.done
  have os1 : s1.os = s.os := by rw [es]
  have gs1 : s1.gens = s.gens := by rw [es]
  have lt1 : s.heap.objs.size < s1.heap.objs.size := x.toInCall.ns.lt
  have kp1 : ∀ b o, s.heap.get? b = some o → s1.heap.get? b = some o := x.toInCall.keep
  have go : ∀ (ob : Obj) (nm qn : Value) (tk2 : Nat), ob.cls = .type "generator" → ob.data = .fields #[.int s1.gens.size 0, nm, qn] → ob.slots = #[] → (∀ h : Heap, (h.push ob).get? h.objs.size = some ob) →
      Born P w (k + 1) outer H s N Yl Q (.ref s1.heap.objs.size) { s1 with gens := s1.gens.push (.fresh (.func body (envOfC qual scope s.heap.objs.size f cdv))), toks := tk2, heap := s1.heap.push ob } := by
    intro ob nm qn tk2 oc od osl' op
    have isg : ∀ h : Heap, h.get? s1.heap.objs.size = some ob → h.IsGen s1.heap.objs.size s1.gens.size := fun h e => ⟨ob, nm, qn, e, oc, od, osl'⟩
    refine ⟨s1.heap.objs.size, s1.gens.size, _, rfl, Nat.le_of_lt lt1, ?_, isg _ (op _), Array.getElem?_push_size .., os1, AllBare.push (by rw [gs1]; exact e0.bare) rfl, lim1.keeps fun b o e => Heap.get?_push_of_some _ e, fun b o e => Heap.get?_push_of_some _ (kp1 b o e), ?_⟩
    · show _ < (s1.heap.push _).objs.size
      rw [Heap.size_push]; exact Nat.lt_succ_self _
    intro Aw ch s2 hrw hfr hch hk2 hst hos hba
    have e0w : Env0 P w K mg base Aw outer s H := ⟨hfr, e0.mod, e0.bs, e0.bsz, e0.funs, e0.frf, e0.hok, e0.bare⟩
    obtain ⟨q, hq, hqr⟩ := hbody Aw outer s H vs N Yl Q [(s1.heap.objs.size, ob)] ch (hrw.deeper _) hsp
    have I1 : Inv (gcxOf P w K mg base Ns qual scope f cdv Aw outer s H E0 []) [] (start Ns vs) H s1 := inv_startG S hrw.hd e0w hl rv x
    have kp2 : ∀ b o, s1.heap.get? b = some o → s2.heap.get? b = some o := fun b o e => hk2 b o (Heap.get?_push_of_some _ e)
    have I2 : Inv (gcxOf P w K mg base Ns qual scope f cdv Aw outer s H E0 []) [] (start Ns vs) H s2 :=
      I1.call' (ch := []) (hos.trans os1.symm) (Un.kept kp2) (I1.hok.kept kp2) hba fun b z => by simp at z
    have hch2 : ∀ b ∈ ch, s1.heap.objs.size < b := fun b hb' => by
      have z : (s1.heap.push ob).objs.size ≤ b := hch b hb'
      rw [Heap.size_push] at z
      exact z
    have eob : s2.heap.get? s1.heap.objs.size = some ob := hk2 _ ob (op _)
    have nod : ∀ v, ob.data ≠ .cell v := fun v z => by rw [od] at z; cases z
    have yng : ∀ b, s1.heap.objs.size ≤ b → H b = none ∧ b ≠ s.heap.objs.size ∧ b ∉ frs outer ∧ s.heap.objs.size ≤ b ∧ ∀ y c, (cellsFrom (s.heap.objs.size + 1) scope.names []).lookup y = some c → c ≠ b := fun b hb' => by
      refine ⟨I1.hok.fresh hb', Nat.ne_of_gt (Nat.lt_of_lt_of_le lt1 hb'), I1.nofs hb', Nat.le_trans (Nat.le_of_lt lt1) hb', fun y c e z => ?_⟩
      obtain ⟨v, o', ho, _⟩ := I1.cell y c e
      have hlt := Heap.lt_size ho
      rw [z] at hlt
      exact absurd (Nat.lt_of_lt_of_le hlt hb') (Nat.lt_irrefl _)
    have far : Far (gcxOf P w K mg base Ns qual scope f cdv Aw outer s H E0 [(s1.heap.objs.size, ob)]) ch :=
      ⟨fun b hb' => (yng b (Nat.le_of_lt (hch2 b hb'))).2.2.2.1, fun b hb' => (yng b (Nat.le_of_lt (hch2 b hb'))).2.1, fun b hb' => (yng b (Nat.le_of_lt (hch2 b hb'))).2.2.2.2, fun b hb' p hp => by
        rw [List.mem_singleton.mp hp]; exact Nat.ne_of_lt (hch2 b hb')⟩
    have r0 : Run (gcxOf P w K mg base Ns qual scope f cdv Aw outer s H E0 [(s1.heap.objs.size, ob)]) ch s2 (start Ns vs) H s2 := by
      refine ⟨hst, Inv.pinnedG I2 fun p hp => ?_⟩
      rcases List.mem_append.mp hp with z | z
      · rw [List.mem_singleton.mp z]
        obtain ⟨y1, y2, y3, _, _⟩ := yng s1.heap.objs.size (Nat.le_refl _)
        exact ⟨eob, y1, y2, y3, nod⟩
      · obtain ⟨hb', e⟩ := of_pinsAt z
        obtain ⟨o', e', nc⟩ := hst p.1 hb'
        have : o' = p.2 := Option.some.inj (e'.symm.trans e)
        subst this
        obtain ⟨y1, y2, y3, _, _⟩ := yng p.1 (Nat.le_of_lt (hch2 _ hb'))
        exact ⟨e, y1, y2, y3, nc⟩
    have seen : ∀ {t s' : Shared} {σ' : L2.St} {H' : Hp}, Run (gcxOf P w K mg base Ns qual scope f cdv Aw outer s H E0 [(s1.heap.objs.size, ob)]) ch t σ' H' s' → Seen P w outer H s ch t H' s' ∧ s'.heap.IsGen s1.heap.objs.size s1.gens.size := fun {t s' σ' H'} r =>
      ⟨⟨r.inv.os, r.inv.bare, r.inv.nolimit, r.inv.base, r.inv.hok, fun b hb' => by obtain ⟨o', q1, q2, q3, _, _⟩ := r.pin hb'; exact ⟨q3, o', q1, q2⟩⟩, isg _ (r.inv.pin (s1.heap.objs.size, ob) (List.mem_append_left _ (List.mem_singleton.mpr rfl))).1⟩
    refine seg_func ?_
    refine seg_imp (R := fun n t r s' => ∃ u, r = .ok (.ret u) ∧ ∃ ys v σ' H', n + ys.length = N ∧ Run (gcxOf P w K mg base Ns qual scope f cdv Aw outer s H E0 [(s1.heap.objs.size, ob)]) ch t σ' H' s' ∧ RelV v u ∧ v = .non ∧ Q ys H') (Y := Yq (gcxOf P w K mg base Ns qual scope f cdv Aw outer s H E0 [(s1.heap.objs.size, ob)]) ch N Yl)
      (fun n t r s' h => ?_) (fun n t v s' kap kap' hkk hY => ?_) N ?_
    · obtain ⟨u, rfl, ys, v, σ', H', hn, r, ru, ev, hQ⟩ := h
      subst ev
      have eu : u = Value.none := ru
      subst eu
      exact ⟨.inl rfl, ys, H', hn, (seen r).1, hQ⟩
    · obtain ⟨ys, x, σ', H', hn, rx, r, hy, h3⟩ := hY
      exact ⟨ys, x, H', hn, rx, (seen r).1, (seen r).2, hy, fun s'' z => hkk _ _ (h3 s'' z)⟩
    · refine hq.run Aw _ N [] s2 _ [] _ _ id id s2 (start Ns vs) H _ ⟨far, over_func, rfl, rfl, rfl⟩ (Nat.add_zero _) ⟨fun n ys t s' fl hn hs => ?_, fun n t e s' hx => ?_⟩ r0 hqr
      · cases fl with
        | next =>
          obtain ⟨σ', H', r, hQ⟩ := hs
          exact seg_end (.ok (.ret .none)) ⟨_, rfl, ys, .non, σ', H', hn, r, rfl, rfl, hQ⟩
        | brk => obtain ⟨_, _, _, z⟩ := hs; exact z.elim
        | cont => obtain ⟨_, _, _, z⟩ := hs; exact z.elim
        | ret u =>
          obtain ⟨v, σ', H', r, ru, ev, hQ⟩ := hs
          exact seg_end (.ok (.ret u)) ⟨_, rfl, ys, v, σ', H', hn, r, ru, ev, hQ⟩
      · refine seg_wrap ?_
        rw [over_func]
        refine wpAny_mono (show wpAny (model P w) (Aw.deeper (envOfC qual scope s.heap.objs.size f cdv)) (leaving (envOfC qual scope s.heap.objs.size f cdv) e) (fun _ s'' => L2.CX P w outer H s E0 e s'' ∧ ∀ p ∈ [(s1.heap.objs.size, ob)], s''.heap.get? p.1 = some p.2) (fun _ _ => False) s' from hx) (fun _ s'' z => ?_) fun _ s'' z => z.elim
        obtain ⟨⟨_, _, _, _, _, _, _, _, _, _, _, _, z⟩, _⟩ := z
        exact False.elim z
  exact go _ _ _ _ rfl rfl rfl fun h => Heap.get?_push_size _ rfl
end Gq

set_option Elab.async false
set_option linter.all false
set_option maxRecDepth 100000
set_option maxHeartbeats 4000000
namespace Dk
open PySem PySem.Spec PyProof.Rows L2 TL
open Dn (NXs DnO KAt0 KAt)
/-- scenes_of, told item by item -/
def spScQ (K : PySem.W.Frag) (CH : Addr) : Gq.SpQ := fun vs H N Yl Q => ∃ (hp : Addr) (h : Hd), vs = [.ref hp] ∧ HoAt K CH H hp h ∧ Tabs h.ts ∧ h.ts.length ≤ 6 ∧ N = 200000 ∧
  (∀ (H' : Hp) (ys : List V) (a : Addr) (n : Nat), Same H H' → n ≤ 196608 → Scs H' h ys (List.range n) → ScAt H' a (scn h n) → Yl ys (.ref a) H') ∧
  ∀ (H' : Hp) (ys : List V) (n : Nat), Same H H' → IsRep h n → n ≤ 196608 → Scs H' h ys (List.range (n + 1)) → Q ys H'
section
variable {P : Program} {w : World} {K : PySem.W.Frag} {mg : Str → Option Value} {base : Heap} {CC CH fCi fAd fSn : Addr} {fdCi fdAd fdSn : FuncData}
theorem gdq_scenes {f : Addr} {fd : FuncData} (F : Fun K "scenes_of" "scenes_of" sScenes f fd) (Z : TxtSc P w K mg base CC CH fCi fAd fSn fdCi fdAd fdSn) : Gq.GdOk P w K mg base 6 f fd ["house"] (spScQ K CH) := by
  obtain ⟨oc, od, kV, doc, pm, an, cdv, ct, osl, rfl, lk, hcd⟩ := F.ex
  refine Gq.gd_of (k := 5) lk hcd scScs (fun vs H N Yl Q h => ?_) (fun A outer s H vs N Yl Q pn ch hr h => ?_)
  · obtain ⟨hp, h, rfl, _⟩ := h
    rfl
  · obtain ⟨hp, h, rfl, hho, hT, h6, hN, ky, k⟩ := h
    subst hN
    have hr4 : Room 4 (A.deeper (envOfC (Str.ofString "scenes_of") (defScope sScenes) s.heap.objs.size f cdv)) := hr.mono (by decide)
    have hr1 : Room 1 (A.deeper (envOfC (Str.ofString "scenes_of") (defScope sScenes) s.heap.objs.size f cdv)) := hr.mono (by decide)
    have hu : (A.deeper (envOfC (Str.ofString "scenes_of") (defScope sScenes) s.heap.objs.size f cdv)).units + 16 < cLine := by have := hr.un; omega
    have hpp := per_pos hT
    refine ⟨_, Gq.sqs_cons (Gq.sq_ps (ps_set (i := 1) scScs.nd rfl (.inl rfl) (pe_make Z.M Z.GI hr rfl Z.gC Z.bI .nil pass0 (pa_cons (pv 0) pa_nil))))
      (Gq.sqs_cons (Gq.sq_ps (ps_expr (pe_meth0 (pv 1) Z.cl Z.mAd Z.GA hr4 Z.bAd .nil pass0)))
      (Gq.sqs_cons (Gq.sq_ps (ps_set (i := 2) scScs.nd rfl (.inl rfl) (pe_newP (P := P) (w := w) rfl rfl)))
      (Gq.sqs_cons (Gq.sq_while owns_gcx (pt_cmp (pc_notInP (P := P) (w := w) rfl rfl hu (pe_meth0 (pv 1) Z.cl Z.mSn Z.GS hr1 Z.bSn .nil pass0) (pv 2)) (by rfl))
        (Gq.sqs_cons (Gq.sq_ps (ps_putP (P := P) (w := w) rfl rfl hu (pv 2) (pe_meth0 (pv 1) Z.cl Z.mSn Z.GS hr1 Z.bSn .nil pass0)))
        (Gq.sqs_cons (Gq.sq_yield (pe_meth0 (pv 1) Z.cl Z.mSn Z.GS hr1 Z.bSn .nil pass0))
        (Gq.sqs_cons (Gq.sq_ps (ps_expr (pe_meth0 (pv 1) Z.cl Z.mAd Z.GA hr4 Z.bAd .nil pass0))) Gq.sqs_nil))))
      (Gq.sqs_cons (Gq.sq_yield (pe_meth0 (pv 1) Z.cl Z.mSn Z.GS hr1 Z.bSn .nil pass0)) Gq.sqs_nil)))), ?_⟩
    -- the course
    refine ⟨_, rfl, fun p dx hpn hdx npd => ?_⟩
    have sN : Same H (upd (upd H dx (.own p)) p (.ins CC dx [])) := fun b o e => by
      rw [upd_ne (ne_of_none e hpn), upd_ne (ne_of_none e hdx)]; exact e
    have nhp : hp ≠ p := by
      obtain ⟨⟨d, _, _, _, _, e1, _⟩⟩ := hho
      exact ne_of_none e1 hpn
    refine ⟨p, dx, hp, h, rfl, upd_same, hho.mono sN, nhp, hT, h6, fun H1 k1 co1 _ => ⟨rfl, ?_⟩⟩
    have ho1 := (hho.mono sN).kp k1 upd_same nhp
    have s1 : Same H H1 := fun b o e => k1 b o (ne_of_none e hpn) (sN _ _ e)
    obtain ⟨d1, b1, b2, b3, w1, w2, w3, w4⟩ := id co1
    have g0 := gd_stt h 0
    have hhl : ∀ n, (stt h n).home.length ≤ 50 ∧ (stt h n).carr.length ≤ 50 := fun n => by
      have g := gd_stt h n
      have a1 := up_len g.hu g.hi
      have a2 := up_len g.cu g.ci
      omega
    refine ⟨_, rfl, p, d1, _, rfl, w1, by rfl, p, hp, -1, st0 h, h, rfl, co1, ho1, nhp, hT, h6, g0.hi, (hhl 0).1, (hhl 0).2, fun H2 e2 k2 co2 _ _ => ?_⟩
    have ho2 := ho1.kp k2 w1 nhp
    have s2 : Same H H2 := fun b o e => k2 b o (ne_of_none e hpn) (s1 _ _ e)
    have co2' : CoAt CC H2 p hp ((per h.ts : Nat) : Int) ((0 : Nat) : Int) (stt h (0 + 1)) := co2
    clear co1 co2 k1 k2 s1 ho1 w1 w2 w3 w4 d1 b1 b2 b3
    intro d hd
    have s3 := same_upd (o := DnO P w d []) hd
    have np3 : p ≠ d := by
      obtain ⟨_, _, _, _, z, _⟩ := id co2'
      exact ne_of_none z hd
    have hHd : H d = none := by
      cases z : H d with
      | none => rfl
      | some o => have := s2 _ _ z; rw [hd] at this; cases this
    -- the loop
    refine ⟨fun m ys σ H' => ∃ (n : Nat) (xs : NXs), m = 196609 - n ∧ σ = [some (.ref hp), some (.ref p), some (.ref d)] ∧ CoAt CC H' p hp ((per h.ts : Nat) : Int) (n : Int) (stt h (n + 1)) ∧ HoAt K CH H' hp h ∧ H' d = some (DnO P w d xs) ∧
      xs.map (·.1) = (List.range n).map (fun i => scK (scn h i)) ∧ (∀ q ∈ xs, KAt H' q.1 q.2.1) ∧ ((List.range n).map (scn h)).Nodup ∧ Scs H' h ys (List.range n) ∧ Same H H',
      ⟨_, 0, [], rfl, rfl, co2'.mono s3, ho2.mono s3, upd_same, rfl, fun q hq => (by cases hq), .nil, .nil, s2.trans s3⟩, ?_⟩
    clear co2' ho2 s2 s3 hd
    rintro m ys σ H3 ⟨n, xs, rfl, rfl, co3, ho3, eD, ekeys, hK, nd, hS, s3⟩
    have hn := nd_le hT h6 nd
    obtain ⟨dx3, c1, c2, c3, w1, w2, w3, w4⟩ := id co3
    have hxl : xs.length = n := by
      have := congrArg List.length ekeys
      rw [List.length_map, List.length_map, List.length_range] at this
      exact this
    refine ⟨_, rfl, p, dx3, _, rfl, w1, by rfl, p, hp, _, _, _, rfl, co3, by omega, fun H4 a4 s4 sc4 => ?_⟩
    have eD4 := s4 _ _ eD
    have hK4 : ∀ q ∈ xs, KAt H4 q.1 q.2.1 := fun q hq => (hK q hq).mono fun t zs z => s4 _ _ z
    have esc : scOf ((per h.ts : Nat) : Int) (n : Int) (stt h (n + 1)) = scn h n := rfl
    rw [esc] at sc4
    refine ⟨_, rfl, d, a4, xs, scK (scn h n), rfl, rfl, eD4, hK4, scAt_key sc4, _, rfl, ?_⟩
    rw [atKey_some, ekeys]
    have co4 := co3.mono s4
    have ho4 := ho3.mono s4
    have hS4 := hS.mono fun t zs z => s4 _ _ z
    have s04 := s3.trans s4
    have w14 := s4 _ _ w1
    by_cases hin : scn h n ∈ (List.range n).map (scn h)
    · rw [decide_eq_true (key_in.mpr hin)]
      refine iteF ⟨?_, _, rfl, p, dx3, _, rfl, w14, by rfl, p, hp, _, _, _, rfl, co4, by omega, fun H5 a5 s5 sc5 => ?_⟩
      · rw [hS4.len, List.length_range]; exact Nat.lt_of_le_of_lt hn (by decide)
      rw [esc] at sc5
      have hS5 := hS4.mono fun t zs z => s5 _ _ z
      refine ⟨ky H5 ys a5 n (s04.trans s5) hn hS5 sc5, k H5 _ n (s04.trans s5) ⟨nd, hin⟩ hn ?_⟩
      rw [List.range_succ]
      exact hS5.snoc sc5
    · rw [decide_eq_false (fun z => hin (key_in.mp z))]
      have nd' := nd_succ nd hin
      have hn' := nd_le hT h6 nd'
      refine iteT ⟨fun ys' σ' H' => ∃ (n' : Nat) (xs' : NXs), n' = n + 1 ∧ σ' = [some (.ref hp), some (.ref p), some (.ref d)] ∧ CoAt CC H' p hp ((per h.ts : Nat) : Int) (n' : Int) (stt h (n' + 1)) ∧ HoAt K CH H' hp h ∧ H' d = some (DnO P w d xs') ∧
        xs'.map (·.1) = (List.range n').map (fun i => scK (scn h i)) ∧ (∀ q ∈ xs', KAt H' q.1 q.2.1) ∧ ((List.range n').map (scn h)).Nodup ∧ Scs H' h ys' (List.range n') ∧ Same H H', fun ys' σ' H' ⟨n', xs', e, r⟩ => ⟨196609 - n', by omega, n', xs', rfl, r⟩, ?_⟩
      -- the scene is noted
      refine ⟨_, rfl, _, rfl, p, dx3, _, rfl, w14, by rfl, p, hp, _, _, _, rfl, co4, by omega, fun H5 a5 s5 sc5 => ?_⟩
      rw [esc] at sc5
      have eD5 := s5 _ _ eD4
      have hK5 : ∀ q ∈ xs, KAt H5 q.1 q.2.1 := fun q hq => (hK4 q hq).mono fun t zs z => s5 _ _ z
      have hnone : atKey xs (scK (scn h n)) = none := by
        have := atKey_some xs (scK (scn h n))
        rw [ekeys, decide_eq_false (fun z => hin (key_in.mp z))] at this
        cases z : atKey xs (scK (scn h n)) with
        | none => rfl
        | some v => rw [z] at this; cases this
      refine ⟨d, a5, xs, scK (scn h n), rfl, rfl, eD5, hK5, scAt_key sc5, hnone, by rw [hxl]; exact Nat.lt_of_le_of_lt hn (by decide), ?_⟩
      have tK := dn_tup (o := DnO P w d (xs ++ [(scK (scn h n), a5, Value.bool true)])) eD5
      have kD : Kp d H5 (upd H5 d (DnO P w d (xs ++ [(scK (scn h n), a5, Value.bool true)]))) := kp_upd
      have co6 : CoAt CC (upd H5 d (DnO P w d (xs ++ [(scK (scn h n), a5, Value.bool true)]))) p hp ((per h.ts : Nat) : Int) (n : Int) (stt h (n + 1)) := by
        obtain ⟨e5, q1, q2, q3, z1, z2, z3, z4⟩ := co4.mono s5
        have nl : ∀ a zs, H5 a = some (.lst zs) → a ≠ d := fun a zs hz z => by rw [z, eD5] at hz; cases hz
        exact ⟨e5, q1, q2, q3, kD _ _ np3 z1, kD _ _ (nl _ _ z2) z2, kD _ _ (nl _ _ z3) z3, kD _ _ (nl _ _ z4) z4⟩
      have ho6 : HoAt K CH (upd H5 d (DnO P w d (xs ++ [(scK (scn h n), a5, Value.bool true)]))) hp h := by
        obtain ⟨⟨e5, q1, q2, q3, q4, z1, z2, z3, z4, z5⟩⟩ := ho4.mono s5
        have nsq : ∀ a zs, SqT K H5 a zs → SqT K (upd H5 d (DnO P w d (xs ++ [(scK (scn h n), a5, Value.bool true)]))) a zs := fun a zs hz => by
          rcases hz with (hz | ⟨o, hz⟩) | hz
          · exact .inl (.inl (tK _ _ hz))
          · exact .inl (.inr ⟨o, kD _ _ (fun z => by rw [z, eD5] at hz; cases hz) hz⟩)
          · exact .inr hz
        exact ⟨⟨e5, q1, q2, q3, q4, kD _ _ (fun z => by rw [z, eD5] at z1; cases z1) z1, nsq _ _ z2, nsq _ _ z3, nsq _ _ z4, z5.mono tK⟩⟩
      have hK6 : ∀ q ∈ xs ++ [(scK (scn h n), a5, Value.bool true)], KAt (upd H5 d (DnO P w d (xs ++ [(scK (scn h n), a5, Value.bool true)]))) q.1 q.2.1 := fun q hq => by
        rcases List.mem_append.mp hq with hq | hq
        · exact (hK5 q hq).mono tK
        · rw [List.mem_singleton.mp hq]; exact (scAt_key sc5).mono tK
      have hS6 := (hS4.mono fun t zs z => s5 _ _ z).mono tK
      have s06 : Same H (upd H5 d (DnO P w d (xs ++ [(scK (scn h n), a5, Value.bool true)]))) := fun b o e => kD _ _ (ne_of_none e hHd) (s5 _ _ (s04 _ _ e))
      have eD6 : (upd H5 d (DnO P w d (xs ++ [(scK (scn h n), a5, Value.bool true)]))) d = some (DnO P w d (xs ++ [(scK (scn h n), a5, Value.bool true)])) := upd_same
      have ek6 : (xs ++ [(scK (scn h n), a5, Value.bool true)]).map (·.1) = (List.range (n + 1)).map (fun i => scK (scn h i)) := by
        rw [List.map_append, ekeys, List.range_succ, List.map_append]; rfl
      generalize xs ++ [(scK (scn h n), a5, Value.bool true)] = xs6 at co6 ho6 hK6 hS6 s06 eD6 ek6
      generalize upd H5 d (DnO P w d xs6) = H6 at co6 ho6 hK6 hS6 s06 eD6
      clear tK kD co4 ho4 hS4 hK4 hK5 eD4 eD5 sc4 sc5 s04 w14 hK hS co3 ho3 eD ekeys s4 s5 w1 w2 w3 w4
      obtain ⟨dx6, c1, c2, c3, w1, w2, w3, w4⟩ := id co6
      -- it is yielded
      refine ⟨by rw [hS6.len, List.length_range]; exact Nat.lt_of_le_of_lt hn (by decide), _, rfl, p, dx6, _, rfl, w1, by rfl, p, hp, _, _, _, rfl, co6, by omega, fun H7 a7 s7 sc7 => ?_⟩
      rw [esc] at sc7
      have hS7 : Scs H7 h (ys ++ [.ref a7]) (List.range (n + 1)) := by
        rw [List.range_succ]
        exact (hS6.mono fun t zs z => s7 _ _ z).snoc sc7
      refine ⟨ky H7 ys a7 n (s06.trans s7) hn (hS6.mono fun t zs z => s7 _ _ z) sc7, ?_⟩
      -- the next tick
      have co7 := co6.mono s7
      have ho7 := ho6.mono s7
      have g := gd_stt h (n + 1)
      refine ⟨_, rfl, p, dx6, _, rfl, s7 _ _ w1, by rfl, p, hp, (n : Int), stt h (n + 1), h, rfl, co7, ho7, nhp, hT, h6, g.hi, (hhl (n + 1)).1, (hhl (n + 1)).2, fun H8 e8 k8 co8 _ _ => ?_⟩
      have tK8 := kp_tup2 k8 (s7 _ _ w1)
      refine ⟨n + 1, xs6, rfl, rfl, co8, ho7.kp k8 (s7 _ _ w1) nhp, k8 _ _ np3.symm (s7 _ _ eD6), ek6, fun q hq => ((hK6 q hq).mono fun t zs z => s7 _ _ z).mono tK8, nd', hS7.mono tK8, fun b o e => k8 _ _ (ne_of_none e hpn) (s7 _ _ (s06 _ _ e))⟩
end
end Dk

set_option Elab.async false
set_option linter.all false
set_option maxRecDepth 100000
set_option maxHeartbeats 2000000
set_option autoImplicit false
namespace Gq
open PySem PySem.Spec PyProof.Rows GenW L2
/-- an expression whose value is told with the state left as it is -/
structure Ex1 (X : Cx) (e : Expr) (te : L2.St → Hp → V → Prop) : Prop where
  run : ∀ (pins : List (Addr × Obj)) (σ : L2.St) (H : Hp) (s : Shared) (x : V), Inv X pins σ H s → te σ H x → ∃ u, RelV x u ∧ ∀ (Q : Value → Shared → Prop) (E : Value → Shared → Prop), Q u s → wpAny (model X.prog X.w) X.A (eval e X.env) Q E s
section
variable {X : Cx}
theorem ex_var {i : Nat} {x : Str} {pos : Pos} (hN : X.N[i]? = some x) (hv : Vis X.env.scope x) (hd : (x == ("__debug__" : Str)) = false := by decide) (hcd : (x == ("__classdict__" : Str)) = false := by decide) : Ex1 X (.Name x pos) (fun σ _ v => σ[i]? = some (some v)) := by
  refine ⟨fun pins σ H s v I h => ?_⟩
  obtain ⟨m, hn, hl⟩ := I.loc
  obtain ⟨u, r, l⟩ := hl i x v hN h hv
  refine ⟨u, r, fun Q E q => ?_⟩
  rcases l with ⟨hk, hm⟩ | ⟨hk, c, hc, hcell⟩
  · exact wpAny_Name (wpAny_loadName_local I.ok.kind hk hn hm q) hd
  · rcases hk with hk | hk
    · exact wpAny_Name (wpAny_loadName_cell I.ok.kind hk hc hcell q) hd
    · exact wpAny_Name (wpAny_loadName_free I.ok.kind hk hc hcell q hcd) hd
theorem ex_glob {x : Str} {v : V} {u : Value} {pos : Pos} (hg : Gl X x) (hm : X.mg x = some u) (r : RelV v u) (hd : (x == ("__debug__" : Str)) = false := by decide) : Ex1 X (.Name x pos) (fun _ _ y => y = v) :=
  ⟨fun pins σ H s y I e => ⟨u, by rw [e]; exact r, fun Q E q => ld_glob I hg hm q hd⟩⟩
theorem ex_ixT {K : PySem.W.Frag} {a b : Expr} {pos : Pos} {ta tb : L2.St → Hp → V → Prop} (hK : X.K = K) (ha : Ex1 X a ta) (hb : Ex1 X b tb) (hs : PlainIx b) : Ex1 X (.Subscript a b pos) (fun σ H y => ∃ p xs i, ta σ H (.ref p) ∧ tb σ H (.int i) ∧ SqT K H p xs ∧ atI xs i = some y) := by
  subst hK
  refine ⟨fun pins σ H s y I h => ?_⟩
  obtain ⟨p, xs, i, h1, h2, h3, h4⟩ := h
  obtain ⟨u1, r1, q1⟩ := ha.run pins σ H s _ I h1
  obtain ⟨u2, r2, q2⟩ := hb.run pins σ H s _ I h2
  cases r1
  obtain ⟨t, rfl⟩ := r2
  obtain ⟨its, r, pl, hz⟩ := I.tuple h3
  obtain ⟨j, g1, g2, g3, g4, g5⟩ := atI_get h4
  obtain ⟨w, ew, rw'⟩ := r.get g2
  have hl := r.length
  have hn := line63
  refine ⟨w, rw', fun Q E q => ?_⟩
  refine Subscript_ (q1 _ _ (q2 _ _ ?_))
  exact subscriptTail_builtinR (x := w) pl.typeIs slot_tuple_getitem.lookup (getItem_tuple (j := j) (Q := fun r s' => r = w ∧ Q r s') pl (by omega) (by omega) (by rw [List.size_toArray, ← hl]; exact g1) (by simpa using ew) ⟨rfl, q⟩) (hs _ _)
end
end Gq

set_option Elab.async false
set_option linter.all false
set_option maxRecDepth 100000
set_option maxHeartbeats 2000000
set_option autoImplicit false
namespace Gq
open PySem PySem.Spec PyProof.Rows GenW L2
/-- an address that stands for nothing below the heap's size -/
def Dead (b : Addr) (h : Heap) : Prop := b < h.objs.size ∧ h.get? b = none
theorem dead_push {b : Addr} {h : Heap} {o : Obj} (d : Dead b h) : Dead b (h.push o) := by
  refine ⟨by rw [Heap.size_push]; exact Nat.lt_succ_of_lt d.1, ?_⟩
  cases q : (h.push o).get? b with
  | none => rfl
  | some u =>
    obtain ⟨e1, e2⟩ := Heap.get?_some_iff.mp q
    have e3 : h.objs[b]? = some u := by
      have e4 : (h.push o).objs = h.objs.push o := by cases h; rfl
      rw [e4, Array.getElem?_push_lt d.1] at e1
      rw [Array.getElem?_eq_getElem d.1]; exact e1
    have := Heap.get?_some_iff.mpr ⟨e3, e2⟩
    rw [d.2] at this; cases this
theorem dead_update {b a : Addr} {h : Heap} {f : Obj → Obj} (d : Dead b h) (ha : (h.get? a).isSome = true) : Dead b (h.update a f) := by
  have n : a ≠ b := fun z => by rw [z, d.2] at ha; cases ha
  refine ⟨?_, by rw [Heap.get?_update_other _ _ n]; exact d.2⟩
  have e : (h.update a f).objs.size = h.objs.size := by
    unfold Heap.update
    first | simp | (split <;> simp) | rfl
  rw [e]; exact d.1
theorem runs_dead {M : Model} {b : Addr} {Γ : PySem.Ctx} {p : Pos} {t : Sem PySem.Fin} {fs : List Frame} {s s' : Shared} {e : End} (h : Runs M Γ p t fs s e s') : Dead b s.heap → Dead b s'.heap := by
  induction h with
  | update ha _ ih => exact fun d => ih (dead_update d ha)
  | alloc _ ih => exact fun d => ih (dead_push d)
  | call _ _ ih1 ih2 => exact fun d => ih2 (ih1 d)
  | resumeFresh _ _ _ _ ih1 ih2 => exact fun d => ih2 (ih1 d)
  | resumeSuspended _ _ _ _ ih1 ih2 => exact fun d => ih2 (ih1 d)
  | segRet _ _ ih1 ih2 => exact fun d => ih2 (ih1 d)
  | segGen _ _ ih1 ih2 => exact fun d => ih2 (ih1 d)
  | segSuspGen _ _ _ _ ih1 ih2 => exact fun d => ih2 (ih1 d)
  | _ => first | exact id | assumption
end Gq
namespace Gq
open PySem PySem.Spec PyProof.Rows GenW L2
theorem codeAny_dead {M : Model} {A : Around} {c : Code} {R : Result → Shared → Prop} {s : Shared} (h : codeAny M A c R s) : codeAny M A c (fun r s' => (∀ b, Dead b s.heap → Dead b s'.heap) ∧ R r s') s := by
  intro Γ p hc hΓ
  obtain ⟨r, s', hr, hR⟩ := h Γ p hc hΓ
  exact ⟨r, s', hr, fun b d => runs_dead hr d, hR⟩
end Gq

set_option Elab.async false
set_option linter.all false
set_option maxRecDepth 100000
set_option maxHeartbeats 2000000
set_option autoImplicit false
namespace Gq
open PySem PySem.Spec PyProof.Rows GenW L2
/-- what stands now and didn't then is younger -/
def Young (sc s : Shared) : Prop := ∀ b o, s.heap.get? b = some o → sc.heap.get? b = none → sc.heap.objs.size ≤ b
theorem young_of {sc s : Shared} (h : ∀ b, Dead b sc.heap → Dead b s.heap) : Young sc s := fun b o e n => by
  by_cases c : sc.heap.objs.size ≤ b
  · exact c
  · have := (h b ⟨Nat.lt_of_not_le c, n⟩).2
    rw [e] at this; cases this
/-- an expression whose value is a generator that has not begun -/
abbrev TGq := L2.St → Hp → Nat → (List V → V → Hp → Prop) → (List V → Hp → Prop) → (Hp → Prop) → Prop
structure PGq (X : Cx) (k : Nat) (e : Expr) (tg : TGq) : Prop where
  run : ∀ (pins : List (Addr × Obj)) (s : Shared) (σ : L2.St) (H : Hp) (N : Nat) (Yl : List V → V → Hp → Prop) (Q : List V → Hp → Prop) (K : Hp → Prop), Inv X pins σ H s → tg σ H N Yl Q K →
    wpAny (model X.prog X.w) X.A (eval e X.env) (fun u s' => ∃ H1 sc, K H1 ∧ Inv X pins σ H1 sc ∧ Born X.prog X.w k X.stack H1 sc N Yl Q u s' ∧ Young sc s') X.xe s
section
variable {X : Cx} {k : Nat} {f : Addr} {fd : FuncData} {ps : List Str} {sp : SpQ}
theorem run_gd {pins : List (Addr × Obj)} {σ : L2.St} {H : Hp} {s : Shared} {us : List Value} {vs : List V} {N : Nat} {Yl : List V → V → Hp → Prop} {Q : List V → Hp → Prop} {E1 : Value → Shared → Prop} (F : GdOk X.prog X.w X.K X.mg X.base k f fd ps sp) (hr : Room k X.A) (hb : Binds X.K fd ps [])
    (I : Inv X pins σ H s) (r : Vals vs us) (h : sp vs H N Yl Q) : wpAny (model X.prog X.w) X.A (call (.ref f) us) (fun u s' => Born X.prog X.w k X.stack H s N Yl Q u s' ∧ Young s s') E1 s := by
  have hl : us.length = ps.length := by rw [← r.length]; exact F.len _ _ _ _ _ h
  have hb' : BindsTo s fd ⟨us, []⟩ (ps.zip us) := by
    have z := hb s us I.kIn (by rw [List.append_nil]; exact hl)
    rw [List.append_nil] at z
    exact z
  refine wpAny_call (codeAny_mono (codeAny_dead (F.run X.A X.stack s H ⟨us, []⟩ us vs N Yl Q hr I.env0 hb' r h)) fun res s' hq => ?_)
  obtain ⟨hd, hq⟩ := hq
  cases res with
  | error e => exact hq.elim
  | ok fl =>
    cases fl with
    | ret u => exact ⟨hq, young_of hd⟩
    | next => exact hq.elim
    | brk => exact hq.elim
    | cont => exact hq.elim
def tCq (sp : SpQ) (t : TA) : TGq := fun σ H N Yl Q K => t σ H fun vs H1 => K H1 ∧ sp vs H1 N Yl Q
theorem pgq_call {x : Str} {p pos : Pos} {e : Expr} {es : List Expr} {t : TA} (F : GdOk X.prog X.w X.K X.mg X.base k f fd ps sp) (hr : Room k X.A) (hg : Gl X x) (hm : X.mg x = some (.ref f)) (hk : PySem.W.keepIn X.K (.ref f) = true) (hb : Binds X.K fd ps []) (ha : PA X (e :: es) t)
    (hd : (x == ("__debug__" : Str)) = false := by decide) (he : starEach (e :: es) X.env = (false, eval e X.env) :: starEach es X.env := by rfl) (hp : (backTo pos (starEach es X.env)).any (·.1) = false := by rfl) : PGq X k (.Call (.Name x p) (e :: es) [] pos) (tCq sp t) := by
  refine ⟨fun pins s σ H N Yl Q K I h => ?_⟩
  refine wpAny_Call_Name_kw (ld_glob I hg hm ?_ hd)
  exact PySem.W.callWith_K (h₀ := X.base) I.ok.mod.kin hk (thn (ha.run pos pins s σ H _ I h) fun us s1 ⟨vs, H1, I1, r, qk, q⟩ => ⟨I1.kIn, thn (run_gd F hr hb I1 r q) fun u s' z => ⟨H1, s1, qk, I1, z.1, z.2⟩⟩) he hp
/-- behind the call: the caller's state stands -/
theorem born_inv {pins : List (Addr × Obj)} {σ : L2.St} {H : Hp} {sc s' : Shared} (I : Inv X pins σ H sc) (os : s'.os = sc.os) (ba : AllBare s'.gens) (kp : ∀ b o, sc.heap.get? b = some o → s'.heap.get? b = some o) : Inv X pins σ H s' :=
  I.call' (ch := []) os (Un.kept kp) (I.hok.kept kp) ba fun b z => by simp at z
end
end Gq

set_option Elab.async false
set_option linter.all false
set_option maxRecDepth 100000
set_option maxHeartbeats 2000000
set_option autoImplicit false
namespace Gq
open PySem PySem.Spec PyProof.Rows GenW L2
/-- the block's Inv once the generator has run on -/
theorem turn_inv {B : Cx} {st : List Env} {σ : L2.St} {H1 Hg Hg' : Hp} {D : Addr} {rs : List V} {sc s5 s6 t : Shared}
    (hst : B.fs = frs st) (hpn : B.pn = []) (hH : ∀ b, b ≠ D → B.H_0 b = H1 b) (hD0 : ∀ u, B.H_0 D = some u → ∃ xs, u = .lst xs) (hDn : B.H_0 D ≠ none) (k3 : ∀ b o, sc.heap.get? b = some o → B.s_0.heap.get? b = some o) (y3 : ∀ b o, B.s_0.heap.get? b = some o → sc.heap.get? b = none → b = D ∨ b ∈ B.ex)
    (o3 : B.s_0.os = sc.os) (hc : ∀ x c, B.env.cells.lookup x = some c → ∃ v, sc.heap.IsCell c v) (I5 : Inv B [] σ (upd Hg D (.lst rs)) s5) (nD : H1 D = none) (U5 : Un (frs st) [] H1 Hg sc.heap s5.heap) (S5 : Same H1 Hg)
    (sn : Seen B.prog B.w st H1 sc [D, B.env.locals] t Hg' s6) (ht : t.heap = s5.heap) : Inv B [] σ (upd Hg' D (.lst rs)) s6 := by
  obtain ⟨gD, oD, tD, s6D⟩ := sn.mine D (by simp)
  obtain ⟨gL, oL, tL, s6L⟩ := sn.mine B.env.locals (by simp)
  rw [ht] at tD tL
  have un := sn.un
  have nL : B.env.locals ≠ D := fun z => by
    have := I5.free
    rw [z, upd_same] at this; cases this
  have cellc : ∀ {c : Addr} {v : Option Value}, (∃ x, B.env.cells.lookup x = some c) → s5.heap.IsCell c v → s6.heap.IsCell c v := by
    rintro c v ⟨x, e⟩ h5
    obtain ⟨v0, ob, ho, hd⟩ := hc x c e
    have nc : H1 c = none := by
      have z := I5.freeC x c e
      cases q : H1 c with
      | none => rfl
      | some u =>
        have z2 := S5 _ _ q
        have : c ≠ D := fun w => by rw [w, nD] at q; cases q
        rw [upd_ne this, z2] at z; cases z
    obtain ⟨sl5, e5⟩ := U5.any ho nc (by simp)
    obtain ⟨sl6, e6⟩ := un.any ho nc (by simp)
    obtain ⟨ob5, ho5, hd5⟩ := h5
    rw [e5] at ho5
    cases ho5
    exact ⟨_, e6, hd5⟩
  refine ⟨I5.ok, by rw [sn.os, o3], sn.bare, ?_, ?_, fun x c e => ?_, by rw [upd_ne nL]; exact gL, fun x c e => ?_, fun p hp => ?_, fun b u q => ?_, I5.len⟩
  · rw [hst]
    have insc : ∀ b o, B.s_0.heap.get? b = some o → b ≠ D → b ∉ B.ex → sc.heap.get? b = some o := fun b o e n1 n2 => by
      cases q : sc.heap.get? b with
      | none => exact ((y3 b o e q).elim n1 n2).elim
      | some o' => rw [k3 b o' q] at e; exact e
    have nd : ∀ b, B.H_0 b = none → b ≠ D := fun b n z => hDn (by rw [← z]; exact n)
    refine ⟨fun b o e n hb hx => ?_, fun b o e n hb hx => ?_, fun b o e n hx => ?_, fun b o e hx => ?_, fun b xs e => ?_, fun b o u e => ?_, fun b ps e => ?_⟩
    · exact un.keep b o (insc b o e (nd b n) hx) (by rw [← hH b (nd b n)]; exact n) hb (by simp)
    · exact un.slot b o (insc b o e (nd b n) hx) (by rw [← hH b (nd b n)]; exact n) hb (by simp)
    · rw [upd_ne (nd b n)]; exact un.free b o (insc b o e (nd b n) hx) (by rw [← hH b (nd b n)]; exact n) (by simp)
    · by_cases z : b = D
      · subst z; exact ⟨_, s6D⟩
      · exact un.there b o (insc b o e z hx) (by simp)
    · have z : b ≠ D := fun z => by rw [z] at e; obtain ⟨_, w⟩ := hD0 _ e; cases w
      rw [upd_ne z]; exact un.tups b xs (by rw [← hH b z]; exact e)
    · have z : b ≠ D := fun z => by rw [z] at e; obtain ⟨_, w⟩ := hD0 _ e; cases w
      rw [upd_ne z]; exact un.frzs b o u (by rw [← hH b z]; exact e)
    · have z : b ≠ D := fun z => by rw [z] at e; obtain ⟨_, w⟩ := hD0 _ e; cases w
      rw [upd_ne z]; exact un.tbls b ps (by rw [← hH b z]; exact e)
  · obtain ⟨m, hn, hl⟩ := I5.loc
    refine ⟨m, ?_, fun i x v e1 e2 e3 => ?_⟩
    · obtain ⟨ob, es, ep, ho, r⟩ := hn
      rw [tL] at ho
      cases ho
      exact ⟨_, es, ep, s6L, r⟩
    · obtain ⟨u, r, l⟩ := hl i x v e1 e2 e3
      refine ⟨u, r, ?_⟩
      rcases l with l | ⟨l1, c, l2, l3⟩
      · exact .inl l
      · exact .inr ⟨l1, c, l2, cellc ⟨x, l2⟩ l3⟩
  · obtain ⟨v, h5⟩ := I5.cell x c e
    exact ⟨v, cellc ⟨x, e⟩ h5⟩
  · obtain ⟨v0, ob, ho, hd⟩ := hc x c e
    have z := I5.freeC x c e
    have cD : c ≠ D := fun w => by rw [w, upd_same] at z; cases z
    rw [upd_ne cD] at z ⊢
    have nc : H1 c = none := by
      cases q : H1 c with
      | none => rfl
      | some u => rw [S5 _ _ q] at z; cases z
    exact un.free c ob ho nc (by simp)
  · rw [hpn] at hp; simp at hp
  · by_cases z : b = D
    · subst z
      rw [upd_same] at q
      cases q
      obtain ⟨hz, its, n, rv, e⟩ := I5.hok b _ upd_same
      rw [tD] at e
      cases e
      exact ⟨hz, its, n, rv, s6D⟩
    · rw [upd_ne z] at q
      exact (sn.ok b u q).stay (fun _ _ _ w => w) (fun d w => by rw [upd_ne (ne_of_none w gD)]; exact w) fun d xs w => by rw [upd_ne (ne_of_none w gD)]; exact w
end Gq

set_option Elab.async false
set_option linter.all false
set_option maxRecDepth 100000
set_option maxHeartbeats 2000000
set_option autoImplicit false
namespace Gq
open PySem PySem.Spec PyProof.Rows GenW L2
section
variable {X : Cx}
/-- a local name is set: the state told exactly -/
theorem named {pins : List (Addr × Obj)} {σ : L2.St} {H : Hp} {s : Shared} {i : Nat} {x : Str} {v : V} {u : Value} {m : Str → Option Value} {h' : Heap} {tk : Nat} (I : Inv X pins σ H s) (hN : X.N.Nodup) (hi : X.N[i]? = some x) (hk : X.env.scope.names.lookup x = some .local) (r : RelV v u)
    (hm : s.heap.Ns X.env.locals m) (hl : ∀ (j : Nat) (y : Str) (v' : V), X.N[j]? = some y → σ[j]? = some (some v') → Vis X.env.scope y → ∃ u', RelV v' u' ∧ Look X.env s.heap m y u')
    (hn : h'.Ns X.env.locals (fun y => if y = x then some u else m y)) (sb : Heap.SameBut X.env.locals s.heap h') : Inv X pins (σ.set i (some v)) H { s with heap := h', toks := tk } := by
  have same : ∀ {b : Addr} {o : Obj}, b ≠ X.env.locals → s.heap.get? b = some o → h'.get? b = some o := fun n e => (sb.2 _ n).trans e
  have low : ∀ {b : Addr} {o : Obj}, X.s_0.heap.get? b = some o → b ≠ X.env.locals := fun e => Nat.ne_of_lt (Nat.lt_of_lt_of_le (Heap.lt_size e) I.ok.above)
  have nl : ∀ {b : Addr} {w : HO}, H b = some w → b ≠ X.env.locals := fun {b w} e z => by
    have := I.free
    rw [← z, e] at this; cases this
  have iz : i < σ.length := by rw [I.len]; exact (List.getElem?_eq_some_iff.mp hi).1
  refine ⟨I.ok, I.os, I.bare, ⟨fun b o e n hb hx => same (low e) (I.base.keep b o e n hb hx), fun b o e n hb hx => ?_, I.base.free, fun b o e hx => ?_, I.base.tups, I.base.frzs, I.base.tbls⟩,
    ⟨_, hn, fun j y v' e1 e2 e3 => ?_⟩, fun y c e => ?_, I.free, I.freeC, fun p hp => ?_, fun b w e => ?_, by simpa using I.len⟩
  · obtain ⟨sl, e1⟩ := I.base.slot b o e n hb hx
    exact ⟨sl, same (low e) e1⟩
  · obtain ⟨o', e1⟩ := I.base.there b o e hx
    exact ⟨o', same (low e) e1⟩
  · by_cases hj : j = i
    · subst hj
      rw [hi] at e1; cases e1
      rw [List.getElem?_set_self iz] at e2
      cases e2
      exact ⟨u, r, .inl ⟨hk, by simp⟩⟩
    · rw [List.getElem?_set_ne (Ne.symm hj)] at e2
      obtain ⟨u', r', q⟩ := hl j y v' e1 e2 e3
      refine ⟨u', r', ?_⟩
      rcases q with ⟨k, e⟩ | ⟨k, c, e, z⟩
      · have : y ≠ x := fun e => hj (nodup_ix hN e1 (e ▸ hi))
        exact .inl ⟨k, by simp [this, e]⟩
      · exact .inr ⟨k, c, e, z.sameBut sb (I.cne y c e)⟩
  · obtain ⟨w', z⟩ := I.cell y c e
    exact ⟨w', z.sameBut sb (I.cne y c e)⟩
  · obtain ⟨e, n, ne, nf, d⟩ := I.pin p hp
    exact ⟨same ne e, n, ne, nf, d⟩
  · refine (I.hok b w e).stay (fun c w' hc q => (sb.2 c ?_).trans q) (fun _ q => q) fun _ _ q => q
    rintro rfl
    rcases hc with rfl | hc
    · exact nl e rfl
    · exact nl hc rfl
/-- one turn's work in a comprehension: the item under its name, elt, the append -/
theorem turn_work {pins : List (Addr × Obj)} {σ : L2.St} {H : Hp} {s : Shared} {i : Nat} {x : Str} {px : Pos} {v y : V} {u : Value} {elt : Expr} {te : L2.St → Hp → V → Prop} {D : Addr} {rs : List V} {Q : Shared → Prop} {E E2 E3 : Value → Shared → Prop}
    (I : Inv X pins σ H s) (hN : X.N.Nodup) (hi : X.N[i]? = some x) (hk : X.env.scope.names.lookup x = some .local) (r : RelV v u) (he : Ex1 X elt te)
    (hD : H D = some (.lst rs)) (hz : rs.length < sizeLine) (ht : te (σ.set i (some v)) H y)
    (h : ∀ s', Inv X pins (σ.set i (some v)) (upd H D (.lst (rs ++ [y]))) s' → s'.gens = s.gens → s'.os = s.os → (∀ b o, b ∉ [D, X.env.locals] → s.heap.get? b = some o → s'.heap.get? b = some o) →
      (∃ its n, s'.heap.get? D = some { cls := .type "list", data := .seq its n }) → Q s') :
    wpAny (model X.prog X.w) X.A (assign (.Name x px) X.env u) (fun _ s2 => wpAny (model X.prog X.w) X.A (eval elt X.env) (fun z s4 => wpAny (model X.prog X.w) X.A (call (.builtin "list.append") [.ref D, z]) (fun _ s5 => Q s5) E3 s4) E2 s2) E s := by
  obtain ⟨m, hn, hl⟩ := id I.loc
  have hcls : (X.env.scope.kind == .class || (X.env.scope.kind == .module && X.env.locals != X.env.globals)) = false := by rw [I.ok.kind]; rfl
  refine wpAny_assign_Name (wpAny_storeName_local hk hn (fun h' hn' sb => ?_) hcls)
  have I2 := named (tk := s.toks + 1) I hN hi hk r hn hl hn' sb
  obtain ⟨w, rw', q⟩ := he.run pins _ H _ y I2 ht
  refine q _ _ ?_
  obtain ⟨hz', its, n, ri, e⟩ := I2.hok D _ hD
  have hlen := ri.length
  refine append_at (hsz := by rw [List.size_toArray]; omega) e fun h2 sb2 ho' => ?_
  refine h _ (I2.write (t' := s.toks + 1) (by rw [hD]; trivial) (.inl rfl) (fun b u hb q => (sb2.2 b hb).trans q) ⟨_, ho'⟩ ⟨by rw [List.length_append]; exact hz, its ++ [w], n + 1, ri.append (.cons rw' .nil), ?_⟩) rfl rfl (fun b o nb e0 => ?_) ⟨_, _, ho'⟩
  · rw [ho']
    simp
  · have n1 : b ≠ D := fun z => nb (by simp [z])
    have n2 : b ≠ X.env.locals := fun z => nb (by simp [z])
    exact (sb2.2 b n1).trans ((sb.2 b n2).trans e0)
end
end Gq

set_option Elab.async false
set_option linter.all false
set_option maxRecDepth 100000
set_option maxHeartbeats 2000000
set_option autoImplicit false
namespace Gq
open PySem PySem.Spec PyProof.Rows GenW L2
/-- the new list and the block's frame stand, and are no cells -/
theorem stand_of {B : Cx} {pins : List (Addr × Obj)} {σ : L2.St} {H : Hp} {s : Shared} {D : Addr} {rs : List V} (I : Inv B pins σ H s) (hD : H D = some (.lst rs)) : Stand [D, B.env.locals] s := by
  intro b hb
  rcases List.mem_cons.mp hb with z | z
  · subst z
    obtain ⟨_, its, n, _, e⟩ := I.hok _ _ hD
    exact ⟨_, e, fun v h => by cases h⟩
  · have z : b = B.env.locals := by simpa using z
    subst z
    obtain ⟨m, hn, _⟩ := I.loc
    obtain ⟨ob, es, ep, ho, hd, _⟩ := hn
    exact ⟨ob, ho, fun v h => by rw [hd] at h; cases h⟩
/-- gens, heap by what stood: the block's state stays -/
theorem regen {B : Cx} {σ : L2.St} {H : Hp} {s s' : Shared} (I : Inv B [] σ H s) (os : s'.os = s.os) (ba : AllBare s'.gens) (kp : ∀ b o, s.heap.get? b = some o → s'.heap.get? b = some o) : Inv B [] σ H s' :=
  I.call' (ch := []) os (Un.kept kp) (I.hok.kept kp) ba fun b z => by simp at z
/-- what next() of the generator is told with -/
abbrev R0 (P : Program) (w : World) (st : List Env) (H1 : Hp) (sc : Shared) (ch : List Addr) (N : Nat) (Q : List V → Hp → Prop) : GenEnd := fun n t r s =>
  ((r = .ok (.ret .none) ∨ r = .ok .next) ∧ ∃ ys H', n + ys.length = N ∧ Seen P w st H1 sc ch t H' s ∧ Q ys H') ∨ ∃ e, r = .error e ∧ (fun (_ : Value) (_ : Shared) => False) e s
/-- before a turn: n items may come yet -/
structure Bt (B : Cx) (st : List Env) (H1 : Hp) (sc : Shared) (N : Nat) (Yl : List V → V → Hp → Prop) (Q : List V → Hp → Prop) (a D : Addr) (g : Nat) (σ : L2.St) (Wn : Nat → List V → Prop) (n : Nat) (Hg : Hp) (rs : List V) (gs : GenState) (s : Shared) : Prop where
  le : n ≤ N
  inv : Inv B [] σ (upd Hg D (.lst rs)) s
  isg : s.heap.IsGen a g
  at_ : s.gens[g]? = some gs
  go : gs.Goes (model B.prog B.w) B.A.in1 (R0 B.prog B.w st H1 sc [D, B.env.locals] N Q) (Item B.prog B.w st H1 sc [D, B.env.locals] N Yl a g) n (.send .none) (s.setGen g .running)
  un : Un (frs st) [] H1 Hg sc.heap s.heap
  same : Same H1 Hg
  w : Wn (N - n) rs
theorem gq_loop {B : Cx} {st : List Env} {H1 : Hp} {sc : Shared} {N : Nat} {Yl : List V → V → Hp → Prop} {Q : List V → Hp → Prop} {a D : Addr} {g i : Nat} {σ : L2.St} {Wn : Nat → List V → Prop} {x : Str} {px pos : Pos} {elt iter : Expr} {scope : Scope} {te : L2.St → Hp → V → Prop} {R : Result → Shared → Prop}
    (hh : B.A.handled = none) (hd : B.A.depth < recursionLimit) (hN : B.N.Nodup) (hi : B.N[i]? = some x) (hk : B.env.scope.names.lookup x = some .local) (hw : ∀ v, σ[i]? ≠ some (some v)) (he : Ex1 B elt te)
    (hst : B.fs = frs st) (hpn : B.pn = []) (hH : ∀ b, b ≠ D → B.H_0 b = H1 b) (hD0 : ∀ u, B.H_0 D = some u → ∃ xs, u = .lst xs) (hDn : B.H_0 D ≠ none) (k3 : ∀ b o, sc.heap.get? b = some o → B.s_0.heap.get? b = some o) (y3 : ∀ b o, B.s_0.heap.get? b = some o → sc.heap.get? b = none → b = D ∨ b ∈ B.ex)
    (o3 : B.s_0.os = sc.os) (hc : ∀ x c, B.env.cells.lookup x = some c → ∃ v, sc.heap.IsCell c v) (nD : H1 D = none) (nsD : sc.heap.get? D = none) (nsC : sc.heap.get? B.env.locals = none) (aD : a ≠ D) (aC : a ≠ B.env.locals)
    (hs : ∀ ys x Hg rs, ys.length < N → Yl ys x Hg → Hg D = none → Wn ys.length rs → Same H1 Hg ∧ rs.length < sizeLine ∧ ∃ y, te (σ.set i (some x)) (upd Hg D (.lst rs)) y ∧ Wn (ys.length + 1) (rs ++ [y]))
    (hend : ∀ ys Hg rs s', ys.length ≤ N → Q ys Hg → Wn ys.length rs → Hg D = none → Inv B [] σ (upd Hg D (.lst rs)) s' → Un (frs st) [] H1 Hg sc.heap s'.heap → R (.ok .next) s')
    (n : Nat) {Hg : Hp} {rs : List V} {gs : GenState} {s : Shared} (b0 : Bt B st H1 sc N Yl Q a D g σ Wn n Hg rs gs s) :
    codeAny (model B.prog B.w) B.A (.compLoop (.ListComp elt [⟨.Name x px, iter, [], 0⟩] scope pos) 0 (.ref a) (.ref D) B.env) R s := by
  refine compLoop_any (fun n s' => ∃ Hg rs gs, Bt B st H1 sc N Yl Q a D g σ Wn n Hg rs gs s') (fun n s5 hb => ?_) n ⟨Hg, rs, gs, b0⟩
  obtain ⟨Hg, rs, gs, b⟩ := hb
  have hgl : g + 1 ≤ s5.gens.size := (Array.getElem?_eq_some_iff.mp b.at_).1
  refine wpAny_gsz hgl (next_genG (Er := fun _ _ => False) hh b.inv.nolimit hd b.isg b.at_ b.go (fun v s1 gs' hbare hv => ?_) (fun s1 hp h' hk' => ?_) fun e s1 he' => he'.elim)
  · intro hsz
    obtain ⟨ys, xv, Hg', hn, rx, sn, hg1, hy, hk'⟩ := hv
    have I6 := turn_inv (t := s5.setGen g .running) hst hpn hH hD0 hDn k3 y3 o3 hc b.inv nD b.un b.same sn rfl
    have gD : Hg' D = none := (sn.mine D (by simp)).1
    have hlt : ys.length < N := by omega
    have I6' : Inv B [] σ (upd Hg' D (.lst rs)) (s1.setGen g gs') := regen I6 rfl (allBare_setGen sn.bare hbare) fun _ _ e => e
    cases n with
    | zero => exact (hk' s1 ⟨rfl, sn.bare, fun _ _ _ e => e, stand_of I6 upd_same⟩).elim
    | succ m =>
      have hm : m + 1 + ys.length = N := by simpa using hn
      have ew : N - (m + 1) = ys.length := by omega
      have wn : Wn ys.length rs := by have := b.w; rw [ew] at this; exact this
      obtain ⟨sm, hz, y, ht, wy⟩ := hs ys xv Hg' rs hlt hy gD wn
      obtain ⟨o, nm, qn, ho, oc, od, osl⟩ := hg1
      refine go_of (s := s1.setGen g gs') ho oc od (by decide) ?_
      refine thn (turn_work I6' hN hi hk rx he upd_same hz ht fun s8 I8 e1 e2 kp hDl => ?_) fun _ s2 h2 => wpAny_tests_nil (by rw [if_pos rfl]; exact h2)
      have I8 : Inv B [] (σ.set i (some xv)) (upd Hg' D (.lst (rs ++ [y]))) s8 := by
        have q := I8
        have : upd (upd Hg' D (.lst rs)) D (.lst (rs ++ [y])) = upd Hg' D (.lst (rs ++ [y])) := by
          funext c
          by_cases z : c = D
          · subst z; rw [upd_same, upd_same]
          · rw [upd_ne z, upd_ne z, upd_ne z]
        rw [this] at q
        exact q
      have hi1 : i < σ.length := by
        have := I6.len
        rw [this]; exact (List.getElem?_eq_some_iff.mp hi).1
      have I9 : Inv B [] σ (upd Hg' D (.lst (rs ++ [y]))) s8 := I8.weak (by simp) fun j v e => by
        by_cases z : j = i
        · subst z; exact absurd e (hw v)
        · rw [List.getElem?_set_ne (Ne.symm z)]; exact e
      have kp1 : ∀ c oo, c ∉ [D, B.env.locals] → s1.heap.get? c = some oo → s8.heap.get? c = some oo := kp
      have hsz1 : g < s1.gens.size := by
        have q : (s1.setGen g gs').gens.size = s1.gens.size := setGen_size _ _ _
        have hsz' : g + 1 ≤ (s1.setGen g gs').gens.size := hsz
        omega
      have g8 : s8.gens[g]? = some gs' := by rw [e1]; exact setGen_at hsz1
      have st8 : Stand [D, B.env.locals] s8 := stand_of I9 upd_same
      refine ⟨m, Nat.lt_succ_self _, Hg', rs ++ [y], gs', by omega, I9, ⟨o, nm, qn, kp1 a o (by simp [aD, aC]) ho, oc, od, osl⟩, g8, ?_, ?_, sm, ?_⟩
      · exact hk' (s8.setGen g .running) ⟨e2, allBare_setGen I9.bare rfl, kp1, st8⟩
      · have out : ∀ {c : Addr} {oo : Obj}, sc.heap.get? c = some oo → c ∉ [D, B.env.locals] := fun {c oo} e z => by
          rcases List.mem_cons.mp z with z | z
          · rw [z, nsD] at e; cases e
          · have z : c = B.env.locals := by simpa using z
            rw [z, nsC] at e; cases e
        refine ⟨fun c oo e n1 h1 h2 => kp1 c _ (out e) (sn.un.keep c oo e n1 h1 h2), fun c oo e n1 h1 h2 => ?_, sn.un.free, fun c oo e h2 => ?_, sn.un.tups, sn.un.frzs, sn.un.tbls⟩
        · obtain ⟨sl, q⟩ := sn.un.slot c oo e n1 h1 h2
          exact ⟨sl, kp1 c _ (out e) q⟩
        · obtain ⟨o', q⟩ := sn.un.there c oo e h2
          exact ⟨o', kp1 c _ (out e) q⟩
      · have : N - m = ys.length + 1 := by omega
        rw [this]; exact wy
  · intro hsz
    obtain ⟨ys, Hg', hn, sn, hQ⟩ := hp
    have I6 := turn_inv (t := s5.setGen g .running) hst hpn hH hD0 hDn k3 y3 o3 hc b.inv nD b.un b.same sn rfl
    have gD : Hg' D = none := (sn.mine D (by simp)).1
    have ew : N - n = ys.length := by omega
    have wn : Wn ys.length rs := by have := b.w; rw [ew] at this; exact this
    exact hend ys Hg' rs _ (by omega) hQ wn gD (regen I6 rfl (allBare_setGen sn.bare rfl) hk') (sn.un.trans (Un.kept hk'))
end Gq

set_option Elab.async false
set_option linter.all false
set_option maxRecDepth 100000
set_option maxHeartbeats 2000000
set_option autoImplicit false
namespace Gq
open PySem PySem.Spec PyProof.Rows GenW L2
section
variable {X : Cx} {k : Nat}
/-- [elt for x in g(..)]: Wn by the number of items and the results so far -/
def tGc (tg : TGq) (te : L2.St → Hp → V → Prop) (i : Nat) (vs : List Nat) : TE := fun σ H Qv => ∃ (N : Nat) (Yl : List V → V → Hp → Prop) (Qe : List V → Hp → Prop) (K : Hp → Prop), tg σ H N Yl Qe K ∧ ∀ H1, K H1 → ∀ D, H1 D = none → ∃ Wn : Nat → List V → Prop, Wn 0 [] ∧
  (∀ ys x Hg rs, ys.length < N → Yl ys x Hg → Hg D = none → Wn ys.length rs → Same H1 Hg ∧ rs.length < sizeLine ∧ ∃ y, te ((wipe σ vs).set i (some x)) (upd Hg D (.lst rs)) y ∧ Wn (ys.length + 1) (rs ++ [y])) ∧
  ∀ ys Hg rs, ys.length ≤ N → Qe ys Hg → Wn ys.length rs → Hg D = none → Qv (.ref D) (upd Hg D (.lst rs))
theorem gc_core {pins : List (Addr × Obj)} {s : Shared} {σ : L2.St} {H : Hp} {Qv : VK} {use : Option (Value → Sem Unit)} {Qf : Value → Shared → Prop} {pos' : Pos} {elt iter : Expr} {x : Str} {i : Nat} {px pos : Pos} {scope : Scope} {own : List (Str × Nat)} {tg : TGq} {te : L2.St → Hp → V → Prop} (I : Inv X pins σ H s) (hr : Room (k + 1) X.A) (hN : X.N.Nodup) (hg : PGq X k iter tg) (ok : BlkOk X.N X.env.scope scope own)
    (hi : X.N[i]? = some x) (hix : i ∈ own.map (·.2)) (hk : scope.names.lookup x = some .local) (hnc : ∀ y ∈ scope.names, y.2 ≠ .cell)
    (he : ∀ (s : Shared) (H : Hp) (C : Addr) (cl : List (Str × Addr)) (fp : List Addr), Ex1 (X.blk s H scope (compEnvC scope cl C X.env) fp) elt te) (hs : ∀ x, foldedSetIterable iter X.env x = pure x)
    (h : tGc tg te i (own.map (·.2)) σ H Qv)
    (hRR : ∀ D C s' m H', Inv X pins σ H' s' → Qv (.ref D) H' → s'.heap.Ns C m → FpOk X pins H' C → compPost (model X.prog X.w) X.A X.xe use Qf (.ref D) C (.ok .next) s') :
    wpAny (model X.prog X.w) X.A (comprehension (.ListComp elt [⟨.Name x px, iter, [], 0⟩] scope pos) scope X.env pos' (newList []) false (eval iter X.env) use) Qf X.xe s := by
  obtain ⟨N, Yl, Qe, K, htg, hcon⟩ := h
  have hfree : ∀ y ∈ scope.names, y.2 = .free → ∃ c, X.env.cells.lookup y.1 = some c := fun y hy e => by
    rcases ok.free y hy e with k | k
    · exact I.ok.has _ (.inl k)
    · exact I.ok.has _ (.inr k)
  refine wpAny_comprehension_free (use := use) rfl hs (closure_ok hfree) ok.kind (fun y hy e => by rw [ok.uniq y hy, e])
    (thn (hg.run pins s σ H N Yl Qe K I htg) fun u s1 hx => ?_)
  obtain ⟨H1, sc, hK, Isc, born, young⟩ := hx
  obtain ⟨a, g, c, rfl, ha1, ha2, hisg, hgs, hos, hba, hlim, hkp, wake⟩ := born
  refine wpAny_pyIter_gen hisg ?_
  have I1 : Inv X pins σ H1 s1 := born_inv Isc hos hba hkp
  refine wpAny_newObj_type (newEnv_comp ?_) (by show 0 ≤ sizeLine; decide)
  generalize hD : s1.heap.objs.size = D
  have hDn : H1 D = none := I1.hok.fresh (Nat.le_of_eq hD)
  obtain ⟨Wn, w0, hstep, hfin⟩ := hcon H1 hK D hDn
  generalize hs3 : ({ s1 with heap := s1.heap.push { cls := .type "list", data := .seq ([] : List Value).toArray } } : Shared) = s3
  have h3 : s3.heap = s1.heap.push { cls := .type "list", data := .seq ([] : List Value).toArray } := by rw [← hs3]
  have I3 : Inv X pins σ (upd H1 D (.lst [])) s3 := by
    rw [← hs3]
    refine I1.laid (t' := s1.toks) (fun b o e => Heap.get?_push_of_some _ e) (Nat.le_of_eq hD) ⟨Nat.zero_le _, [], 0, .nil, ?_⟩
    rw [← hD]
    exact Heap.get?_push_size _ rfl
  have z3 : s3.heap.objs.size = D + 1 := by rw [h3, Heap.size_push, hD]
  have scD : sc.heap.objs.size ≤ D := by
    rw [← hD]
    exact Nat.le_of_lt (Nat.lt_of_le_of_lt ha1 ha2)
  have haD : a < D := by rw [← hD]; exact ha2
  -- what the call made
  generalize hfp : (List.range s3.heap.objs.size).filter (fun b => decide (sc.heap.objs.size ≤ b) && decide (b ≠ D)) = fp
  have mfp : ∀ b, b ∈ fp ↔ (b < s3.heap.objs.size ∧ sc.heap.objs.size ≤ b ∧ b ≠ D) := fun b => by
    rw [← hfp, List.mem_filter, List.mem_range, Bool.and_eq_true, decide_eq_true_eq, decide_eq_true_eq]
  have f3 : ∀ b ∈ fp, FpOk X pins (upd H1 D (.lst [])) b ∧ b < s3.heap.objs.size := fun b hb => by
    obtain ⟨q1, q2, q3⟩ := (mfp b).mp hb
    refine ⟨Isc.fpOk q2 ?_, q1⟩
    rw [upd_ne q3]
    exact Isc.hok.fresh q2
  have I4 := block_start I3 ok hN f3
  have pe := he s3 (upd H1 D (.lst [])) s3.heap.objs.size (cellsFrom (s3.heap.objs.size + 1) scope.names (cloFrom X.env.cells scope.names [])) fp
  show codeAny _ _ (.compStart (.ListComp elt [⟨.Name x px, iter, [], 0⟩] scope pos) 0 (.ref a) (.ref D) (compEnvC scope (cellsFrom (s3.heap.objs.size + 1) scope.names (cloFrom X.env.cells scope.names [])) s3.heap.objs.size X.env)) (compPost (model X.prog X.w) X.A X.xe use Qf (.ref D) s3.heap.objs.size) { s3 with heap := pushCells (s3.heap.push { cls := .type "dict", data := .dict #[] }) scope.names }
  have kp4 : ∀ b o, s1.heap.get? b = some o → (pushCells (s3.heap.push { cls := .type "dict", data := .dict #[] }) scope.names).get? b = some o := fun b o e =>
    pushCells_keeps _ _ _ _ (Heap.get?_push_of_some _ (by rw [h3]; exact Heap.get?_push_of_some _ e))
  have hce' : ∀ y c, (cellsFrom (s3.heap.objs.size + 1) scope.names (cloFrom X.env.cells scope.names [])).lookup y = some c → ∃ v, sc.heap.IsCell c v := fun y c e => by
    rw [← Heap.size_push s3.heap { cls := .type "dict", data := .dict #[] }] at e
    rcases cells_mem (PySem.mem_of_lookup e) with z | ⟨z, _, _⟩
    · rcases cloFrom_mem z with z | ⟨z1, z2⟩
      · simp at z
      · obtain ⟨c', e'⟩ := hfree _ z1 rfl
        have e' : X.env.cells.lookup y = some c' := e'
        rw [e'] at z2
        have z2 : c = c' := z2
        rw [z2]
        exact Isc.cell y c' e'
    · exact absurd rfl (hnc _ z)
  have hkr : (relS scope X.env.scope).names.lookup x = some .local := lookup_relS_keep (by intro h; cases h) hk
  generalize hce : compEnvC scope (cellsFrom (s3.heap.objs.size + 1) scope.names (cloFrom X.env.cells scope.names [])) s3.heap.objs.size X.env = ce at I4 pe ⊢
  have cL : ce.locals = s3.heap.objs.size := by subst hce; rfl
  have cC : ce.cells = cellsFrom (s3.heap.objs.size + 1) scope.names (cloFrom X.env.cells scope.names []) := by subst hce; rfl
  have cS : ce.scope = relS scope X.env.scope := by subst hce; rfl
  generalize hs4 : ({ s3 with heap := pushCells (s3.heap.push { cls := .type "dict", data := .dict #[] }) scope.names } : Shared) = s4 at I4 ⊢
  have g4 : s4.gens = s1.gens := by rw [← hs4, ← hs3]
  have o4 : s4.os = s1.os := by rw [← hs4, ← hs3]
  have kp4 : ∀ b o, s1.heap.get? b = some o → s4.heap.get? b = some o := fun b o e => by rw [← hs4]; exact kp4 b o e
  have gnone : ∀ b, sc.heap.objs.size ≤ b → sc.heap.get? b = none := fun b hb => by
    cases q : sc.heap.get? b with
    | none => rfl
    | some o => exact absurd (Nat.lt_of_lt_of_le (Heap.lt_size q) hb) (Nat.lt_irrefl _)
  have hupd : ∀ b, b ≠ D → (upd H1 D (.lst [])) b = H1 b := fun b n => upd_ne n
  have loop : codeAny (model X.prog X.w) X.A (.compLoop (.ListComp elt [⟨.Name x px, iter, [], 0⟩] scope pos) 0 (.ref a) (.ref D) ce) (compPost (model X.prog X.w) X.A X.xe use Qf (.ref D) s3.heap.objs.size) s4 := by
    refine gq_loop (B := X.blk s3 (upd H1 D (.lst [])) scope ce fp) (st := X.stack) (H1 := H1) (sc := sc) (N := N) (Yl := Yl) (Q := Qe) (g := g) (σ := wipe σ (own.map (·.2))) (Wn := Wn) (te := te) hr.hd (by have := hr.dp; show X.A.depth < _; omega) hN hi
      (by show ce.scope.names.lookup x = _; rw [cS]; exact hkr) (fun v e => (wipe_some e).2 hix) pe rfl rfl hupd (fun u e => ⟨[], by have e : (upd H1 D (.lst [])) D = some u := e; rw [upd_same] at e; exact (Option.some.inj e).symm⟩) (by show (upd H1 D (.lst [])) D ≠ none; rw [upd_same]; intro h; cases h)
      (fun b o e => by show s3.heap.get? b = some o; rw [h3]; exact Heap.get?_push_of_some _ (hkp b o e)) (fun b o e n => ?_) (by show s3.os = sc.os; rw [← hs3]; exact hos) (fun y c e => hce' y c (by rw [← cC]; exact e)) hDn (gnone D scD) (gnone _ (by show _ ≤ ce.locals; rw [cL, z3]; exact Nat.le_succ_of_le scD)) (Nat.ne_of_lt haD) (by show a ≠ ce.locals; rw [cL, z3]; exact Nat.ne_of_lt (Nat.lt_succ_of_lt haD))
      (fun ys xv Hg rs q1 q2 q3 q4 => hstep ys xv Hg rs q1 q2 q3 q4) (fun ys Hg rs s6 q1 q2 q3 q4 I6 un6 => ?_) N (Hg := H1) (rs := []) (gs := .fresh c) ?_
    · have e : s3.heap.get? b = some o := e
      by_cases z : b = D
      · exact .inl z
      · refine .inr ((mfp b).mpr ⟨Heap.lt_size e, ?_, z⟩)
        have e1 : s1.heap.get? b = some o := by
          rw [h3] at e
          exact (Heap.get?_push_ne _ _ _ (by rw [hD]; exact z)).symm.trans e
        exact young b o e1 n
    · have I7 : Inv X pins σ (upd Hg D (.lst rs)) s6 := I3.call' (ch := fp) I6.os I6.base I6.hok I6.bare fun b hb => ⟨(f3 b hb).1.2.2.2.1, (f3 b hb).1.2.1, (f3 b hb).1.2.2.2.2.1, (f3 b hb).1.2.2.2.2.2⟩
      have nC : (upd Hg D (.lst rs)) s3.heap.objs.size = none := by
        have z : (upd Hg D (.lst rs)) ce.locals = none := I6.free
        rw [cL] at z
        exact z
      obtain ⟨m, hn, _⟩ := I6.loc
      have hn : s6.heap.Ns ce.locals m := hn
      rw [cL] at hn
      exact hRR D _ s6 m _ I7 (hfin ys Hg rs q1 q2 q3 q4) hn (I3.fpOk (Nat.le_refl _) nC)
    · have st4 : Stand [D, ce.locals] s4 := stand_of I4 upd_same
      refine ⟨Nat.le_refl _, I4, hisg.keeps kp4, by rw [g4]; exact hgs, ⟨rfl, ?_⟩, Un.kept fun b o e => kp4 b o (hkp b o e), fun _ _ e => e, by rw [Nat.sub_self]; exact w0⟩
      refine seg_imp (fun n t r s' z => ?_) (fun n t v s' kap kap' hkk hY => ?_) N (wake X.A.in1 [D, ce.locals] (s4.setGen g .running) hr.in1 I.env0.1 (fun b hb => ?_) kp4 st4 (o4.trans hos) (allBare_setGen (by rw [g4]; exact hba) rfl))
      · exact .inl z
      · obtain ⟨ys, xv, H', q1, q2, q3, q4, q5, q6⟩ := hY
        exact ⟨ys, xv, H', q1, q2, q3, q4, q5, fun s'' z => hkk _ _ (q6 s'' z)⟩
      · rcases List.mem_cons.mp hb with z | z
        · rw [z]; omega
        · have z : b = ce.locals := by simpa using z
          rw [z, cL, z3]; omega
  exact codeAny_compStart_list loop (wpAny_pyIter_gen (hisg.keeps kp4) loop)
theorem pe_gc {elt iter : Expr} {x : Str} {i : Nat} {px pos : Pos} {scope : Scope} {own : List (Str × Nat)} {tg : TGq} {te : L2.St → Hp → V → Prop} (hr : Room (k + 1) X.A) (hN : X.N.Nodup) (hg : PGq X k iter tg) (ok : BlkOk X.N X.env.scope scope own)
    (hi : X.N[i]? = some x) (hix : i ∈ own.map (·.2)) (hk : scope.names.lookup x = some .local) (hnc : ∀ y ∈ scope.names, y.2 ≠ .cell)
    (he : ∀ (s : Shared) (H : Hp) (C : Addr) (cl : List (Str × Addr)) (fp : List Addr), Ex1 (X.blk s H scope (compEnvC scope cl C X.env) fp) elt te) (hs : ∀ x, foldedSetIterable iter X.env x = pure x := by intro _; rfl) :
    PE X (.ListComp elt [⟨.Name x px, iter, [], 0⟩] scope pos) (tGc tg te i (own.map (·.2))) := by
  refine ⟨fun pins s σ H Q I h => ?_⟩
  rw [eval_ListComp]
  refine gc_core I hr hN hg ok hi hix hk hnc he hs h fun D C s' m H' I' q hn f => ⟨m, hn, fun h'' sb => ?_⟩
  obtain ⟨f0, f1, f2, f3, f4, f5⟩ := f
  exact ⟨.ref D, H', I'.turned (t' := s'.toks) (fun b o hb e => (sb.2 b hb).trans e) f0 f1 f3 f4 f5, rfl, q⟩
/-- name = [..] on one line, the name a local -/
theorem ps_setGc {j : Nat} {y : Str} {py spos : Pos} {elt iter : Expr} {x : Str} {i : Nat} {px pos : Pos} {scope : Scope} {own : List (Str × Nat)} {tg : TGq} {te : L2.St → Hp → V → Prop} (hy : X.N[j]? = some y) (hyl : X.env.scope.names.lookup y = some .local) (hsw : swapsWith (.ListComp elt [⟨.Name x px, iter, [], 0⟩] scope pos) (some (.Name y py)) spos.line X.env = pure true) (hr : Room (k + 1) X.A) (hN : X.N.Nodup) (hg : PGq X k iter tg) (ok : BlkOk X.N X.env.scope scope own)
    (hi : X.N[i]? = some x) (hix : i ∈ own.map (·.2)) (hk : scope.names.lookup x = some .local) (hnc : ∀ y ∈ scope.names, y.2 ≠ .cell)
    (he : ∀ (s : Shared) (H : Hp) (C : Addr) (cl : List (Str × Addr)) (fp : List Addr), Ex1 (X.blk s H scope (compEnvC scope cl C X.env) fp) elt te) (hs : ∀ x, foldedSetIterable iter X.env x = pure x := by intro _; rfl) :
    PS X (.Assign [.Name y py] (.ListComp elt [⟨.Name x px, iter, [], 0⟩] scope pos) spos) (tAsg (tGc tg te i (own.map (·.2))) (gName j)) := by
  refine ⟨fun pins s σ H D I h => ?_⟩
  rw [exec_Assign_Name_used _ _ _ _ hsw]
  refine wpAny_bind (wpAny_standAt (wpAny_bind ?_))
  show wpAny _ X.A (do let _ ← comprehension (.ListComp elt [⟨.Name x px, iter, [], 0⟩] scope pos) scope X.env (firstIterPos [⟨.Name x px, iter, [], 0⟩] pos) (newList []) false (eval iter X.env) (some (assign (.Name y py) X.env))) _ _ s
  have h : tGc tg te i (own.map (·.2)) σ H (fun x H1 => gName j x σ H1 D.nx) := h
  refine wpAny_bind (thn (gc_core (Qf := fun _ s' => SP X pins D .next s') I hr hN hg ok hi hix hk hnc he hs h fun L C s' m H' I' q hn f => ?_) fun _ s' hq => wpAny_pure (wpAny_pure hq))
  show wpAny _ _ (assign (.Name y py) X.env (.ref L)) _ _ _
  obtain ⟨f0, f1, f2, f3, f4, f5⟩ := f
  refine wpAny_assign_Name (store_ok2 (v := V.ref L) I' hN hy (.inl hyl) rfl (fun s2 I2 ⟨a, sb, ha⟩ => ?_) (.inr hyl))
  have haC : C ≠ a := by
    rcases ha with z | z
    · rw [z]; exact f1
    · exact fun e => f4 y a z e.symm
  exact ⟨m, hn.sameBut sb haC, fun h3 sb3 => ⟨_, H', I2.turned (t' := s2.toks) (fun b o hb e => (sb3.2 b hb).trans e) f0 f1 f3 f4 f5, q⟩⟩
end
end Gq

set_option Elab.async false
set_option linter.all false
set_option maxRecDepth 100000
set_option maxHeartbeats 2000000
set_option autoImplicit false
namespace Gq
open PySem PySem.Spec PyProof.Rows GenW L2
section
variable {X : Cx}
/-- x in a tuple of flat items, the state left as it is -/
theorem ex_inT {K : PySem.W.Frag} {a b : Expr} {pos : Pos} {ta tb : L2.St → Hp → V → Prop} (hK : X.K = K) (ha : Ex1 X a ta) (hb : Ex1 X b tb) (hm : behindInMarks .In b = false) :
    Ex1 X (.Compare a [.In] [b] pos) (fun σ H y => ∃ x p xs, ta σ H x ∧ tb σ H (.ref p) ∧ SqT K H p xs ∧ flatV x = true ∧ xs.all flatV = true ∧ y = .bl (inV x xs)) := by
  subst hK
  refine ⟨fun pins σ H s y I h => ?_⟩
  obtain ⟨x, p, xs, h1, h2, h3, fx, fs, rfl⟩ := h
  obtain ⟨u1, r1, q1⟩ := ha.run pins σ H s _ I h1
  obtain ⟨u2, r2, q2⟩ := hb.run pins σ H s _ I h2
  cases r2
  obtain ⟨its, r, pl, hz⟩ := I.tuple h3
  refine ⟨.bool (inV x xs), rfl, fun Q E q => wpAny_Compare1 (q1 _ _ (q2 _ _ ?_)) hm⟩
  refine SeqAt.in_tupleAt (eqU x) pl (fun w hw => mem_eqAt r1 fx r fs w (by simpa using hw)) ?_
  rw [show its.toArray.any (eqU x) = its.any (eqU x) by simp, any_eqU r fs]
  exact q
end
end Gq

set_option Elab.async false
set_option linter.all false
set_option maxRecDepth 100000
set_option maxHeartbeats 2000000
set_option autoImplicit false
namespace Dk
open PySem PySem.Spec PyProof.Rows L2 TL
/-- [elt for scene in scenes_of(house)] -/
theorem gc_scenes {K : PySem.W.Frag} {CH : Addr} {t : TA} {te : L2.St → Hp → V → Prop} {i : Nat} {vs : List Nat} {σ : L2.St} {H : Hp} {hp : Addr} {h : Hd} {f : Sc → V} {Qv : VK}
    (ht : ∀ Q : List V → Hp → Prop, Q [.ref hp] H → t σ H Q) (hho : HoAt K CH H hp h) (hT : Tabs h.ts) (h6 : h.ts.length ≤ 6)
    (hte : ∀ (H' : Hp) (a : Addr) (n : Nat), Same H H' → ScAt H' a (scn h n) → te ((wipe σ vs).set i (some (.ref a))) H' (f (scn h n)))
    (hQ : ∀ (D : Addr) (H' : Hp) (n : Nat), H D = none → Same H H' → IsRep h n → n ≤ 196608 → H' D = some (.lst ((List.range (n + 1)).map fun m => f (scn h m))) → Qv (.ref D) H') :
    Gq.tGc (Gq.tCq (spScQ K CH) t) te i vs σ H Qv := by
  refine ⟨200000, fun ys x Hg => ∃ a, x = .ref a ∧ Same H Hg ∧ ys.length ≤ 196608 ∧ ScAt Hg a (scn h ys.length), fun ys Hg => ∃ n, ys.length = n + 1 ∧ Same H Hg ∧ IsRep h n ∧ n ≤ 196608, fun H1 => H1 = H, ht _ ⟨rfl, hp, h, rfl, hho, hT, h6, rfl, fun H' ys a n s hn hs sc => ?_, fun H' ys n s hr hn hs => ?_⟩, fun H1 e D nD => ?_⟩
  · have := hs.len
    rw [List.length_range] at this
    exact ⟨a, rfl, s, by omega, by rw [this]; exact sc⟩
  · have := hs.len
    rw [List.length_range] at this
    exact ⟨n, this, s, hr, hn⟩
  · subst e
    have su : ∀ {Hg : Hp} {rs : List V}, Same H1 Hg → Hg D = none → Same H1 (upd Hg D (.lst rs)) := fun {Hg rs} s n b o e => by
      rw [upd_ne (ne_of_none (s b o e) n)]; exact s b o e
    refine ⟨fun j rs => rs = (List.range j).map fun m => f (scn h m), rfl, fun ys x Hg rs hlt hy nD' hw => ?_, fun ys Hg rs hle hq hw nD' => ?_⟩
    · obtain ⟨a, rfl, s, hn, sc⟩ := hy
      refine ⟨s, ?_, f (scn h ys.length), hte _ a _ (su s nD') (sc.mono fun t zs z => by rw [upd_ne (ne_of_none z nD')]; exact z), ?_⟩
      · rw [hw, List.length_map, List.length_range]
        have : (196608 : Nat) < sizeLine := by decide
        omega
      · show _ = (List.range (ys.length + 1)).map _
        rw [hw, List.range_succ, List.map_append]; rfl
    · obtain ⟨n, en, s, hr, hn⟩ := hq
      refine hQ D _ n nD (su s nD') hr hn ?_
      rw [upd_same, hw, en]
end Dk

set_option Elab.async false
set_option linter.all false
set_option maxRecDepth 100000
set_option maxHeartbeats 2000000
namespace Dk
open PySem PySem.Spec PyProof.Rows L2 TL
def spSplitT (K : PySem.W.Frag) (CH : Addr) : Sp := fun vs H Q _ => ∃ (hp q : Addr) (h : Hd) (f : Nat → Bool) (n : Nat), vs = [.ref hp, .ref q] ∧ HoAt K CH H hp h ∧ Tabs h.ts ∧ h.ts.length ≤ 6 ∧ IsRep h n ∧ H q = some (.lst ((List.range (n + 1)).map fun m => V.bl (f m))) ∧
  ∀ (H' : Hp) (a e c : Addr) (b : Nat), Same H H' → IsCyc h b n → H' a = some (.tup [.ref e, .ref c]) → H' e = some (.lst (nV (eT f b))) → H' c = some (.lst (nV (cT f b n))) → H e = none → H c = none → e ≠ c → Q (.ref a) H'
def spWaitTk (K : PySem.W.Frag) (CH : Addr) : Sp := fun vs H Q _ => ∃ (hp : Addr) (h : Hd) (p : Int), vs = [.ref hp, .int p] ∧ HoAt K CH H hp h ∧ Tabs h.ts ∧ h.ts.length ≤ 6 ∧ 0 ≤ p ∧ p < (h.ts.length : Int) ∧
  ∀ (H' : Hp) (a e c : Addr) (b n : Nat), Same H H' → IsCyc h b n → H' a = some (.tup [.ref e, .ref c]) → H' e = some (.lst (nV (eT (waitsB h p) b))) → H' c = some (.lst (nV (cT (waitsB h p) b n))) → H e = none → H c = none → e ≠ c → Q (.ref a) H'
def spOpenTk (K : PySem.W.Frag) (CH : Addr) : Sp := fun vs H Q _ => ∃ (hp : Addr) (h : Hd), vs = [.ref hp] ∧ HoAt K CH H hp h ∧ Tabs h.ts ∧ h.ts.length ≤ 6 ∧
  ∀ (H' : Hp) (a e c : Addr) (b n : Nat), Same H H' → IsCyc h b n → H' a = some (.tup [.ref e, .ref c]) → H' e = some (.lst (nV (eT (opensB h) b))) → H' c = some (.lst (nV (cT (opensB h) b n))) → H e = none → H c = none → e ≠ c → Q (.ref a) H'
structure TxtWt (K : PySem.W.Frag) (mg : Str → Option Value) (fSp fWt fCp : Addr) (fdSp fdWt fdCp : FuncData) : Prop where
  gSp : mg "split_ticks" = some (.ref fSp)
  FSp : Fun K "split_ticks" "split_ticks" sSplit fSp fdSp
  bSp : Binds K fdSp ["house", "marks"] []
  gWt : mg "wait_ticks" = some (.ref fWt)
  FWt : Fun K "wait_ticks" "wait_ticks" sWaitT fWt fdWt
  bWt : Binds K fdWt ["house", "person"] []
  gCp : mg "check_person" = some (.ref fCp)
  FCp : Fun K "check_person" "check_person" sChkPerson fCp fdCp
  bCp : Binds K fdCp ["person", "persons"] []
  wtr : ∃ t, mg "WAITERS" = some (.int 1 t)
abbrev nSplit : List Str := ["house", "marks", "begin", "length", "tick"]
abbrev nWaitT : List Str := ["house", "person", "scene"]
section
variable {P : Program} {w : World} {K : PySem.W.Frag} {mg : Str → Option Value} {base : Heap} {CC CH fCi fAd fSn : Addr} {fdCi fdAd fdSn : FuncData} {fSo fFc : Addr} {fdSo fdFc : FuncData} {fHL : Addr} {fdHL : FuncData} {fSp fWt fCp : Addr} {fdSp fdWt fdCp : FuncData} {fII fIB fHO : Addr} {fdII fdIB fdHO : FuncData}
  {fCP pPe gPe pPs gPs : Addr} {fdCP fdPe fdPs : FuncData}
theorem scSplit : FnScope nSplit ["house", "marks"] (defScope sSplit) := ⟨rfl, rfl, rfl, by decide +kernel, rfl, by decide +kernel, by decide +kernel⟩
theorem at_marks {f : Nat → Bool} {n m : Nat} (h : m < n) : atI ((List.range n).map fun m => V.bl (f m)) (m : Int) = some (.bl (f m)) := by
  refine atI_nat ?_
  rw [List.getElem?_map, List.getElem?_range h]; rfl
theorem ok_split {f : Addr} {fd : FuncData} (F : Fun K "split_ticks" "split_ticks" sSplit f fd) (Z : TxtSc P w K mg base CC CH fCi fAd fSn fdCi fdAd fdSn) (FC : TxtFc K mg fSo fFc fdSo fdFc) (T : TxtA mg) : FnOk P w K mg base CX0 11 f fd ["house", "marks"] (spSplitT K CH) := by
  have GF : FnOk P w K mg base CX0 10 fFc fdFc ["house"] (spFind K CH) := ok_find Z FC T
  refine F.ok scSplit (fun vs H Q E h => ?_) (fun cdv A outer s H vs Q E hr h => ?_)
  · obtain ⟨hp, q, h, f, n, rfl, _⟩ := h
    rfl
  · obtain ⟨hp, q, h, f, n, rfl, hho, hT, h6, rp, eq, k⟩ := h
    refine ⟨_, pss_cons (ps_asg (pe_call GF hr rfl FC.gFc FC.FFc.kp FC.bFc .nil pass0 (pa_cons (pv 0) pa_nil)) (pg_tup rfl (pgs_cons (pg_name (i := 2) scSplit.nd rfl (.inl rfl)) (pgs_cons (pg_name (i := 3) scSplit.nd rfl (.inl rfl)) pgs_nil))))
      (pss_one (ps_ret (pe_tup (pa_cons (pe_lc (own := [("tick", 4)]) (g := gName 4) (by rfl) scSplit.nd (pi_range1 (by rfl) T.range (pa_cons (pv 2) pa_nil)) (blkOk_by (N := nSplit) (sc := defScope sSplit) (by decide +kernel)) (fun _ _ _ _ _ => (pg_name (i := 4) scSplit.nd rfl (Or.inl rfl))) (fun _ _ _ _ _ => by exact (pts_one (pt_val (pe_ix (ix_listK (K := K) rfl) (pv 1) (pv 4) (fun _ _ => rfl))))) (fun _ _ _ _ _ => (pv 4)))
        (pa_cons (pe_lc (own := [("tick", 4)]) (g := gName 4) (by rfl) scSplit.nd (pi_range2 (by rfl) T.range (pa_cons (pv 2) (pa_cons (pe_op op_add (pv 2) (pv 3)) pa_nil))) (blkOk_by (N := nSplit) (sc := defScope sSplit) (by decide +kernel)) (fun _ _ _ _ _ => (pg_name (i := 4) scSplit.nd rfl (Or.inl rfl))) (fun _ _ _ _ _ => by exact (pts_one (pt_val (pe_ix (ix_listK (K := K) rfl) (pv 1) (pv 4) (fun _ _ => rfl))))) (fun _ _ _ _ _ => (pv 4))) pa_nil))))), ?_⟩
    refine ⟨_, rfl, hp, h, rfl, hho, hT, h6, fun H1 a1 b n1 s1 cy ea => ?_⟩
    have en := rep_eq rp cy.rp
    subst en
    refine ⟨a1, _, rfl, SqT.of ea, rfl, _, _, rfl, _, _, rfl, rfl, ?_⟩
    have lt := cy.lt
    have le := cy.le
    have eq1 := s1 _ _ eq
    refine ⟨_, rfl, _, rfl, by omega, by omega, fun D hD => comp_rangeI (lo := 0) (n := ((b : Nat) : Int).toNat) (i := 4) hD (by omega) (fun k => f k) (fun k H2 Qb hk s2 q2 => ?_) (fun _ => rfl) (fun _ => rfl) fun H2 s2 e2 => ?_⟩
    · refine ⟨_, rfl, _, rfl, q, _, _, _, rfl, rfl, SqL.of (s2 _ _ eq1), ?_, _, rfl, q2 H2 (Same.refl H2)⟩
      rw [Int.zero_add]
      exact at_marks (by omega)
    have eq2 := s2 _ _ eq1
    have hD0 : H D = none := s1.free hD
    refine ⟨_, rfl, _, rfl, _, rfl, _, _, rfl, rfl, _, _, rfl, ⟨by omega, by omega, by omega, by omega⟩, fun D2 hD2 => comp_rangeI (lo := (b : Int)) (n := ((b : Int) + ((n : Int) - (b : Int)) - (b : Int)).toNat) (i := 4) hD2 (by omega) (fun k => f (b + k)) (fun k H3 Qb hk s3 q3 => ?_) (fun _ => rfl) (fun _ => rfl) fun H3 s3 e3 => ?_⟩
    · refine ⟨_, rfl, _, rfl, q, _, _, _, rfl, rfl, SqL.of (s3 _ _ eq2), ?_, _, rfl, q3 H3 (Same.refl H3)⟩
      rw [← Int.natCast_add]
      exact at_marks (by omega)
    refine ⟨by show 2 ≤ sizeLine; decide, fun t ht => ?_⟩
    have s4 := same_upd (o := .tup [.ref D, .ref D2]) ht
    have e4 := s4 _ _ (s3 _ _ e2)
    have e5 := s4 _ _ e3
    refine k _ t D D2 b ((s1.trans s2).trans (s3.trans s4)) cy upd_same ?_ ?_ hD0 ((s1.trans s2).free hD2) (ne_of_none e2 hD2)
    · rw [e4]
      have : ((b : Nat) : Int).toNat = b := by omega
      rw [this]
      unfold nV eT
      congr 2
      exact List.map_congr_left fun k _ => by rw [Int.zero_add]
    · rw [e5]
      have : ((b : Int) + ((n : Int) - (b : Int)) - (b : Int)).toNat = n - b := by omega
      rw [this]
      unfold nV cT
      rw [List.map_map]
      rfl
def teWaits (K : PySem.W.Frag) : L2.St → Hp → V → Prop := fun σ H y => ∃ x p xs, σ[1]? = some (some x) ∧ (∃ q ys i, σ[2]? = some (some (.ref q)) ∧ (V.int i) = (V.int 1) ∧ SqT K H q ys ∧ atI ys i = some (.ref p)) ∧ SqT K H p xs ∧ flatV x = true ∧ xs.all flatV = true ∧ y = .bl (inV x xs)
theorem waits_ex {X : Cx} {x1 x2 x3 : Str} {p1 p2 p3 p4 p5 : Pos} {t : Tok} (hN : X.N[1]? = some x1) (hv : Vis X.env.scope x1) (hN2 : X.N[2]? = some x2) (hv2 : Vis X.env.scope x2) (hg : Gl X x3) (ew : X.mg x3 = some (.int 1 t)) (h1 : (x1 == ("__debug__" : Str)) = false := by decide) (h2 : (x1 == ("__classdict__" : Str)) = false := by decide) (h3 : (x2 == ("__debug__" : Str)) = false := by decide) (h4 : (x2 == ("__classdict__" : Str)) = false := by decide) (h5 : (x3 == ("__debug__" : Str)) = false := by decide) :
    Gq.Ex1 X (.Compare (.Name x1 p1) [.In] [.Subscript (.Name x2 p2) (.Name x3 p3) p4] p5) (teWaits X.K) :=
  Gq.ex_inT rfl (Gq.ex_var (i := 1) hN hv h1 h2) (Gq.ex_ixT rfl (Gq.ex_var (i := 2) hN2 hv2 h3 h4) (Gq.ex_glob (v := .int 1) hg ew ⟨_, rfl⟩ h5) (fun _ _ => rfl)) rfl
theorem scWaitT : FnScope nWaitT ["house", "person"] (defScope sWaitT) := ⟨rfl, rfl, rfl, by decide +kernel, rfl, by decide +kernel, by decide +kernel⟩
theorem ok_waitt (WT : TxtWt K mg fSp fWt fCp fdSp fdWt fdCp) (Z : TxtSc P w K mg base CC CH fCi fAd fSn fdCi fdAd fdSn) (FC : TxtFc K mg fSo fFc fdSo fdFc) (T : TxtA mg) (TF : TxtF K mg fII fIB fHO fdII fdIB fdHO) (HP : TxtHp K mg CH fCP pPe gPe pPs gPs fdCP fdPe fdPs) (C' : TxtCo K mg CC CH fHL fdHL) :
    FnOk P w K mg base CX0 12 fWt fdWt ["house", "person"] (spWaitTk K CH) := by
  have GS : FnOk P w K mg base CX0 11 fSp fdSp ["house", "marks"] (spSplitT K CH) := ok_split WT.FSp Z FC T
  have GP : FnOk P w K mg base CX0 3 fCp fdCp ["person", "persons"] spCp := ok_cp WT.FCp TF
  have GPs : FnOk P w K mg base CX0 1 gPs fdPs ["self"] (spPersons K CH) := ok_persons HP C' T
  have GD : Gq.GdOk P w K mg base 6 fSo fdSo ["house"] (spScQ K CH) := gdq_scenes FC.FSo Z
  obtain ⟨tw, ew⟩ := WT.wtr
  refine WT.FWt.ok scWaitT (fun vs H Q E h => ?_) (fun cdv A outer s H vs Q E hr h => ?_)
  · obtain ⟨hp, h, p, rfl, _⟩ := h
    rfl
  · obtain ⟨hp, h, p, rfl, hho, hT, h6, hp0, hp1, k⟩ := h
    have hr3 : Room 3 (A.deeper (envOfC (Str.ofString "wait_ticks") (defScope sWaitT) s.heap.objs.size fWt cdv)) := hr.mono (by decide)
    have hr2 : Room 2 (A.deeper (envOfC (Str.ofString "wait_ticks") (defScope sWaitT) s.heap.objs.size fWt cdv)) := hr.mono (by decide)
    have hr6 : Room 6 (A.deeper (envOfC (Str.ofString "wait_ticks") (defScope sWaitT) s.heap.objs.size fWt cdv)) := hr.mono (by decide)
    have hr7 : Room 7 (A.deeper (envOfC (Str.ofString "wait_ticks") (defScope sWaitT) s.heap.objs.size fWt cdv)) := hr.mono (by decide)
    refine ⟨_, pss_cons (ps_expr (pe_call GP hr3 rfl WT.gCp WT.FCp.kp WT.bCp .nil pass0 (pa_cons (pv 1) (pa_cons (pe_prop (pv 0) C'.clH HP.poPs GPs hr2 HP.bPs .nil pass0 rfl) pa_nil))))
      (pss_one (ps_ret (pe_call GS hr rfl WT.gSp WT.FSp.kp WT.bSp .nil pass0 (pa_cons (pv 0) (pa_cons
        (Gq.pe_gc (own := [("scene", 2)]) (te := teWaits K) hr7 scWaitT.nd (Gq.pgq_call GD hr6 rfl FC.gSo FC.FSo.kp FC.bSo (pa_cons (pv 0) pa_nil)) (blkOk_by (N := nWaitT) (sc := defScope sWaitT) (by decide +kernel)) (i := 2) rfl (by decide) rfl (by decide +kernel)
          (fun _ _ _ _ _ => by exact waits_ex rfl (by first | exact .inr (.inl rfl) | exact .inr (.inr rfl) | exact .inl rfl) rfl (.inl rfl) (by rfl) ew)) pa_nil))))), ?_⟩
    obtain ⟨⟨d, bT, bC, bR, xs, g1, g2, g3, g4, g5⟩⟩ := id hho
    refine ⟨_, rfl, _, rfl, hp, d, _, rfl, g1, hp, h, rfl, hho, fun H1 s1 => ⟨p, _, rfl, hp0, hp1, fun H2 s2 => ?_⟩⟩
    have s12 := s1.trans s2
    have ho2 := hho.mono s12
    refine ⟨_, rfl, gc_scenes (f := fun x => V.bl (inV (.int p) (x.2.1.map V.int))) (fun Q' hQ => ⟨_, rfl, hQ⟩) ho2 hT h6 (fun H' a n s' sc => ?_) fun D H3 n hD s3 rp hn eD => ?_⟩
    · obtain ⟨b1, d1, e1, e2, e3⟩ := sc
      refine ⟨.int p, b1, _, rfl, ⟨a, _, 1, rfl, rfl, SqT.of e1, rfl⟩, SqT.of e2, rfl, ?_, rfl⟩
      rw [List.all_map]
      exact List.all_eq_true.mpr fun _ _ => rfl
    · refine ⟨hp, D, h, waitsB h p, n, rfl, ho2.mono s3, hT, h6, rp, ?_, fun H4 a e c b s4 cy ea ee ec he hc hne => ?_⟩
      · rw [eD]
        congr 2
        refine List.map_congr_left fun m _ => ?_
        show V.bl (inV (.int p) ((stt h (m + 1)).wait.map V.int)) = V.bl (waitsB h p m)
        rw [any_mem]
        rfl
      · exact k H4 a e c b n (s12.trans (s3.trans s4)) cy ea ee ec (s12.free (s3.free he)) (s12.free (s3.free hc)) hne
end
end Dk

set_option Elab.async false
set_option linter.all false
set_option maxRecDepth 100000
set_option maxHeartbeats 2000000
namespace Dk
open PySem PySem.Spec PyProof.Rows L2 TL
def spCntB (K : PySem.W.Frag) (CH : Addr) : Sp := fun vs H Q _ => ∃ (hp : Addr) (h : Hd) (p : Int) (m : Nat), vs = [.ref hp, .int p, .int (m : Int)] ∧ HoAt K CH H hp h ∧ Tabs h.ts ∧ h.ts.length ≤ 6 ∧ 0 ≤ p ∧ p < (h.ts.length : Int) ∧ (m : Int) ≤ lastT + 1 ∧
  ∀ (H' : Hp), Same H H' → Q (.int ((cntF (waitsB h p) m : Nat) : Int)) H'
/-- from first to last: from = first, to = last + 1 -/
def spCntW (K : PySem.W.Frag) (CH : Addr) : Sp := fun vs H Q _ => ∃ (hp : Addr) (h : Hd) (p : Int) (a b : Nat), vs = [.ref hp, .int p, .int (a : Int), .int (b : Int)] ∧ HoAt K CH H hp h ∧ Tabs h.ts ∧ h.ts.length ≤ 6 ∧ 0 ≤ p ∧ p < (h.ts.length : Int) ∧ (a : Int) ≤ lastT ∧ (b : Int) ≤ lastT ∧
  ∀ (H' : Hp), Same H H' → Q (.int (((if b < a then 0 else cntF (waitsB h p) (b + 1) - cntF (waitsB h p) a) : Nat) : Int)) H'
structure TxtCw (K : PySem.W.Frag) (mg : Str → Option Value) (fCb fCw fCt : Addr) (fdCb fdCw fdCt : FuncData) : Prop where
  gCb : mg "count_before" = some (.ref fCb)
  FCb : Fun K "count_before" "count_before" sCntB fCb fdCb
  bCb : Binds K fdCb ["house", "person", "limit"] []
  gCw : mg "count_waits" = some (.ref fCw)
  FCw : Fun K "count_waits" "count_waits" sCntW fCw fdCw
  bCw : Binds K fdCw ["house", "person", "first", "last"] []
  gCt : mg "check_tick" = some (.ref fCt)
  FCt : Fun K "check_tick" "check_tick" sChkTick fCt fdCt
  bCt : Binds K fdCt ["tick"] []
  divmod : mg "divmod" = none
abbrev nCntB : List Str := ["house", "person", "limit", "early", "cyclic", "begin", "length", "runs", "rest", "tick"]
section
variable {P : Program} {w : World} {K : PySem.W.Frag} {mg : Str → Option Value} {base : Heap} {CC CH fCi fAd fSn : Addr} {fdCi fdAd fdSn : FuncData} {fSo fFc : Addr} {fdSo fdFc : FuncData} {fHL : Addr} {fdHL : FuncData} {fSp fWt fCp : Addr} {fdSp fdWt fdCp : FuncData} {fII fIB fHO : Addr} {fdII fdIB fdHO : FuncData}
  {fCP pPe gPe pPs gPs : Addr} {fdCP fdPe fdPs : FuncData} {fCb fCw fCt : Addr} {fdCb fdCw fdCt : FuncData}
theorem scCntB : FnScope nCntB ["house", "person", "limit"] (defScope sCntB) := ⟨rfl, rfl, rfl, by decide +kernel, rfl, by decide +kernel, by decide +kernel⟩
theorem nat_filt (l : List Nat) (lim : Int) (m : Nat) (e : ∀ k : Nat, k ∈ l → (decide ((k : Int) < lim) = decide (k < m))) : (((l.map fun k : Nat => (k : Int)).filter fun p => decide (p < lim)).map V.int).length = (l.filter fun k => decide (k < m)).length := by
  rw [List.length_map, List.filter_map, List.length_map]
  congr 1
  exact List.filter_congr fun k hk => e k hk
theorem ok_cntb (CW : TxtCw K mg fCb fCw fCt fdCb fdCw fdCt) (WT : TxtWt K mg fSp fWt fCp fdSp fdWt fdCp) (Z : TxtSc P w K mg base CC CH fCi fAd fSn fdCi fdAd fdSn) (FC : TxtFc K mg fSo fFc fdSo fdFc) (T : TxtA mg) (TF : TxtF K mg fII fIB fHO fdII fdIB fdHO) (HP : TxtHp K mg CH fCP pPe gPe pPs gPs fdCP fdPe fdPs) (C' : TxtCo K mg CC CH fHL fdHL) :
    FnOk P w K mg base CX0 13 fCb fdCb ["house", "person", "limit"] (spCntB K CH) := by
  have GW : FnOk P w K mg base CX0 12 fWt fdWt ["house", "person"] (spWaitTk K CH) := ok_waitt WT Z FC T TF HP C'
  have GF : FnOk P w K mg base CX0 10 fFc fdFc ["house"] (spFind K CH) := ok_find Z FC T
  refine CW.FCb.ok scCntB (fun vs H Q E h => ?_) (fun cdv A outer s H vs Q E hr h => ?_)
  · obtain ⟨hp, h, p, m, rfl, _⟩ := h
    rfl
  · obtain ⟨hp, h, p, m, rfl, hho, hT, h6, hp0, hp1, hm, k⟩ := h
    have hr10 : Room 10 (A.deeper (envOfC (Str.ofString "count_before") (defScope sCntB) s.heap.objs.size fCb cdv)) := hr.mono (by decide)
    refine ⟨_, pss_cons (ps_asg (pe_call GW hr rfl WT.gWt WT.FWt.kp WT.bWt .nil pass0 (pa_cons (pv 0) (pa_cons (pv 1) pa_nil))) (pg_tup rfl (pgs_cons (pg_name (i := 3) scCntB.nd rfl (.inl rfl)) (pgs_cons (pg_name (i := 4) scCntB.nd rfl (.inl rfl)) pgs_nil))))
    (pss_cons (ps_asg (pe_call GF hr10 rfl FC.gFc FC.FFc.kp FC.bFc .nil pass0 (pa_cons (pv 0) pa_nil)) (pg_tup rfl (pgs_cons (pg_name (i := 5) scCntB.nd rfl (.inr rfl)) (pgs_cons (pg_name (i := 6) scCntB.nd rfl (.inl rfl)) pgs_nil))))
    (pss_cons (ps_if (pt_cmpR op_le (pv 2) (pv 5) (nomark _)) (pss_one (ps_ret (pe_callB call_len_seq (by rfl) T.len PySem.boot_len (pa_cons (pe_lc (own := [("tick", 9)]) (g := gName 9) (by rfl) scCntB.nd (pi_list (pv 3)) (blkOk_by (N := nCntB) (sc := defScope sCntB) (by decide +kernel)) (fun _ _ _ _ _ => (pg_name (i := 9) scCntB.nd rfl (Or.inl rfl))) (fun _ _ _ _ _ => (pts_one (pt_cmpR op_lt (pv 9) (pv 2) (nomark _)))) (fun _ _ _ _ _ => (pv 9))) pa_nil)))) pss_nil)
    (pss_cons (ps_asg (pe_callB call_divmod (by rfl) CW.divmod (by decide +kernel) (pa_cons (pe_op op_sub (pv 2) (pv 5)) (pa_cons (pv 6) pa_nil))) (pg_tup rfl (pgs_cons (pg_name (i := 7) scCntB.nd rfl (.inl rfl)) (pgs_cons (pg_name (i := 8) scCntB.nd rfl (.inr rfl)) pgs_nil))))
    (pss_one (ps_ret (pe_op op_add (pe_op op_add (pe_callB call_len_seq (by rfl) T.len PySem.boot_len (pa_cons (pv 3) pa_nil)) (pe_op op_mul (pv 7) (pe_callB call_len_seq (by rfl) T.len PySem.boot_len (pa_cons (pv 4) pa_nil)))) (pe_callB call_len_seq (by rfl) T.len PySem.boot_len (pa_cons (pe_lc (own := [("tick", 9)]) (g := gName 9) (by rfl) scCntB.nd (pi_list (pv 4)) (blkOk_by (N := nCntB) (sc := defScope sCntB) (by decide +kernel)) (fun _ _ _ _ _ => (pg_name (i := 9) scCntB.nd rfl (Or.inl rfl))) (fun _ _ _ _ _ => (pts_one (pt_cmpR op_lt (pv 9) (pe_op op_add (pv 5) (pv 8)) (nomark _)))) (fun _ _ _ _ _ => (pv 9))) pa_nil)))))))), ?_⟩
    refine ⟨_, rfl, _, rfl, hp, h, p, rfl, hho, hT, h6, hp0, hp1, fun H1 a e c b n s1 cy ea ee ec he hc hne => ?_⟩
    have lt := cy.lt
    have le := cy.le
    have hlt : lastT = 1000000000000000000 := rfl
    have lE := eT_len (waitsB h p) b
    have lC := cT_len (waitsB h p) b n
    refine ⟨a, _, rfl, SqT.of ea, rfl, _, _, rfl, _, _, rfl, rfl, ?_⟩
    refine ⟨_, rfl, hp, h, rfl, hho.mono s1, hT, h6, fun H2 a2 b2 n2 s2 cy2 ea2 => ?_⟩
    obtain ⟨rfl, rfl⟩ := cyc_eq cy cy2
    refine ⟨a2, _, rfl, SqT.of ea2, rfl, _, _, rfl, _, _, rfl, rfl, ?_⟩
    have s12 := s1.trans s2
    have ee2 := s2 _ _ ee
    have ec2 := s2 _ _ ec
    refine ⟨_, rfl, _, rfl, _, _, rfl, rfl, _, rfl, ite2 (fun cd => ?_) (fun cd => ?_)⟩
    · have cd := of_decide_eq_true cd
      rw [nV_map] at ee2
      refine ⟨_, rfl, e, rfl, ⟨_, SqL.of ee2⟩, fun D hD => comp_listI (i := 9) hD (SqL.of ee2) (by rw [List.length_map]; omega) (fun q => decide (q < (m : Int))) (fun q H3 Qb _ s3 qq => ⟨_, rfl, _, rfl, _, _, rfl, rfl, _, rfl, qq H3 (Same.refl H3)⟩) (fun _ => rfl) (fun _ => rfl) fun H3 s3 e3 => ?_⟩
      refine ⟨D, _, rfl, .inl (SqL.of e3), ?_⟩
      rw [nat_filt _ _ m (fun k _ => by by_cases z : k < m
                                        · rw [decide_eq_true z, decide_eq_true (by omega)]
                                        · rw [decide_eq_false z, decide_eq_false (by omega)]), cnt_take _ (by omega)]
      exact k H3 (s12.trans s3)
    · have hbm : b ≤ m := by
        have : ¬ ((m : Int) ≤ (b : Int)) := fun z => cd (decide_eq_true z)
        omega
      refine ⟨_, rfl, _, rfl, _, _, rfl, rfl, _, rfl, _, _, rfl, ⟨by omega, by omega⟩, fun t ht => ?_⟩
      refine ⟨t, _, rfl, SqT.of upd_same, rfl, _, _, rfl, _, _, rfl, rfl, ?_⟩
      have e1 : (m : Int) - (b : Int) = ((m - b : Nat) : Int) := by omega
      have e2 : (n : Int) - (b : Int) = ((n - b : Nat) : Int) := by omega
      have eq1 : ((m : Int) - (b : Int)) / ((n : Int) - (b : Int)) = (((m - b) / (n - b) : Nat) : Int) := by rw [e1, e2]; rfl
      have er1 : ((m : Int) - (b : Int)) % ((n : Int) - (b : Int)) = (((m - b) % (n - b) : Nat) : Int) := by rw [e1, e2]; rfl
      rw [eq1, er1]
      have s3 := same_upd (o := .tup [V.int (((m - b) / (n - b) : Nat) : Int), V.int (((m - b) % (n - b) : Nat) : Int)]) ht
      have ee3 := s3 _ _ ee2
      have ec3 := s3 _ _ ec2
      generalize upd H2 t (.tup [V.int (((m - b) / (n - b) : Nat) : Int), V.int (((m - b) % (n - b) : Nat) : Int)]) = H3 at s3 ee3 ec3
      have hq : (m - b) / (n - b) ≤ m := Nat.le_trans (Nat.div_le_self _ _) (Nat.sub_le _ _)
      refine ⟨_, rfl, e, _, rfl, .inl (SqL.of ee3), _, rfl, _, rfl, c, _, rfl, .inl (SqL.of ec3), _, _, rfl, rfl, .inl ⟨Int.lt_of_lt_of_le (by decide) (Int.natCast_nonneg _), Int.lt_of_le_of_lt (Int.ofNat_le.mpr hq) (by omega)⟩, _, _, rfl, rfl, ?_⟩
      rw [nV_map] at ec3
      refine ⟨_, rfl, c, rfl, ⟨_, SqL.of ec3⟩, fun D hD => comp_listI (i := 9) hD (SqL.of ec3) (by rw [List.length_map]; omega) (fun q => decide (q < (b : Int) + (((m - b) % (n - b) : Nat) : Int))) (fun q H4 Qb _ s4 qq => ⟨_, rfl, _, rfl, _, rfl, _, _, rfl, rfl, _, _, rfl, rfl, _, rfl, qq H4 (Same.refl H4)⟩) (fun _ => rfl) (fun _ => rfl) fun H4 s4 e4 => ?_⟩
      refine ⟨D, _, rfl, .inl (SqL.of e4), _, _, rfl, rfl, ?_⟩
      rw [nat_filt _ _ (b + (m - b) % (n - b)) (fun k _ => by by_cases z : k < b + (m - b) % (n - b)
                                                              · rw [decide_eq_true z, decide_eq_true (by omega)]
                                                              · rw [decide_eq_false z, decide_eq_false (by omega)]), nV_len, nV_len]
      have key := cnt_far hT cy (f := waitsB h p) (F := fun c => decide (p ∈ c.wait)) (fun _ => rfl) hbm
      have := k H4 (s12.trans (s3.trans s4))
      rw [key] at this
      have ez : (((eT (waitsB h p) b).length : Nat) : Int) + (((m - b) / (n - b) : Nat) : Int) * (((cT (waitsB h p) b n).length : Nat) : Int) + ((((cT (waitsB h p) b n).filter fun k => decide (k < b + (m - b) % (n - b))).length : Nat) : Int) = (((eT (waitsB h p) b).length + (m - b) / (n - b) * (cT (waitsB h p) b n).length + ((cT (waitsB h p) b n).filter fun k => decide (k < b + (m - b) % (n - b))).length : Nat) : Int) := by
        rw [Int.natCast_add, Int.natCast_add, Int.natCast_mul]
      show Q (.int _) H4
      rw [ez]
      exact this
theorem scCntW : FnScope ["house", "person", "first", "last"] ["house", "person", "first", "last"] (defScope sCntW) := ⟨rfl, rfl, rfl, by decide +kernel, rfl, by decide +kernel, by decide +kernel⟩
theorem ok_cntw (CW : TxtCw K mg fCb fCw fCt fdCb fdCw fdCt) (GT : FnOk P w K mg base CX0 3 fCt fdCt ["tick"] spTk) (WT : TxtWt K mg fSp fWt fCp fdSp fdWt fdCp) (Z : TxtSc P w K mg base CC CH fCi fAd fSn fdCi fdAd fdSn) (FC : TxtFc K mg fSo fFc fdSo fdFc) (T : TxtA mg) (TF : TxtF K mg fII fIB fHO fdII fdIB fdHO) (HP : TxtHp K mg CH fCP pPe gPe pPs gPs fdCP fdPe fdPs) (C' : TxtCo K mg CC CH fHL fdHL) :
    FnOk P w K mg base CX0 14 fCw fdCw ["house", "person", "first", "last"] (spCntW K CH) := by
  have GCB : FnOk P w K mg base CX0 13 fCb fdCb ["house", "person", "limit"] (spCntB K CH) := ok_cntb CW WT Z FC T TF HP C'
  have GP : FnOk P w K mg base CX0 3 fCp fdCp ["person", "persons"] spCp := ok_cp WT.FCp TF
  have GPs : FnOk P w K mg base CX0 1 gPs fdPs ["self"] (spPersons K CH) := ok_persons HP C' T
  refine CW.FCw.ok scCntW (fun vs H Q E h => ?_) (fun cdv A outer s H vs Q E hr h => ?_)
  · obtain ⟨hp, h, p, a, b, rfl, _⟩ := h
    rfl
  · obtain ⟨hp, h, p, a, b, rfl, hho, hT, h6, hp0, hp1, ha, hb, k⟩ := h
    have hr3 : Room 3 (A.deeper (envOfC (Str.ofString "count_waits") (defScope sCntW) s.heap.objs.size fCw cdv)) := hr.mono (by decide)
    have hr2 : Room 2 (A.deeper (envOfC (Str.ofString "count_waits") (defScope sCntW) s.heap.objs.size fCw cdv)) := hr.mono (by decide)
    refine ⟨_, pss_cons (ps_expr (pe_call GP hr3 rfl WT.gCp WT.FCp.kp WT.bCp .nil pass0 (pa_cons (pv 1) (pa_cons (pe_prop (pv 0) C'.clH HP.poPs GPs hr2 HP.bPs .nil pass0 rfl) pa_nil))))
    (pss_cons (ps_expr (pe_call GT hr3 rfl CW.gCt CW.FCt.kp CW.bCt .nil pass0 (pa_cons (pv 2) pa_nil)))
    (pss_cons (ps_expr (pe_call GT hr3 rfl CW.gCt CW.FCt.kp CW.bCt .nil pass0 (pa_cons (pv 3) pa_nil)))
    (pss_cons (ps_if (pt_cmpR op_lt (pv 3) (pv 2) (nomark _)) (pss_one (ps_ret pe_int)) pss_nil)
    (pss_one (ps_ret (pe_op op_sub (pe_call GCB hr rfl CW.gCb CW.FCb.kp CW.bCb .nil pass0 (pa_cons (pv 0) (pa_cons (pv 1) (pa_cons (pe_op op_add (pv 3) pe_int) pa_nil)))) (pe_call GCB hr rfl CW.gCb CW.FCb.kp CW.bCb .nil pass0 (pa_cons (pv 0) (pa_cons (pv 1) (pa_cons (pv 2) pa_nil)))))))))), ?_⟩
    obtain ⟨⟨d, bT, bC, bR, xs, g1, g2, g3, g4, g5⟩⟩ := id hho
    refine ⟨_, rfl, _, rfl, hp, d, _, rfl, g1, hp, h, rfl, hho, fun H1 s1 => ⟨p, _, rfl, hp0, hp1, fun H2 s2 => ?_⟩⟩
    refine ⟨_, rfl, _, rfl, by omega, ha, fun H3 s3 => ⟨_, rfl, _, rfl, by omega, hb, fun H4 s4 => ?_⟩⟩
    have s14 := (s1.trans s2).trans (s3.trans s4)
    have ho4 := hho.mono s14
    refine ⟨_, rfl, _, rfl, _, _, rfl, rfl, _, rfl, ite2 (fun cd => ?_) (fun cd => ?_)⟩
    · have cd := of_decide_eq_true cd
      have := k H4 s14
      rw [if_pos (by omega)] at this
      exact this
    · have cd : ¬ ((b : Int) < (a : Int)) := fun z => cd (decide_eq_true z)
      refine ⟨_, rfl, _, rfl, _, rfl, _, _, rfl, rfl, hp, h, p, b + 1, ?_, ho4, hT, h6, hp0, hp1, by omega, fun H5 s5 => ?_⟩
      · rw [Int.natCast_add]; rfl
      refine ⟨_, rfl, _, rfl, _, rfl, hp, h, p, a, rfl, ho4.mono s5, hT, h6, hp0, hp1, by omega, fun H6 s6 => ⟨_, _, rfl, rfl, ?_⟩⟩
      have := k H6 (s14.trans (s5.trans s6))
      rw [if_neg (by omega)] at this
      have hmn := cntF_mono (waitsB h p) (show a ≤ b + 1 by omega)
      rw [Int.natCast_sub hmn] at this
      exact this
end
end Dk

set_option Elab.async false
set_option linter.all false
set_option maxRecDepth 100000
set_option maxHeartbeats 2000000
namespace Dk
open PySem PySem.Spec PyProof.Rows L2 TL
/-- at home after tick t + k, for the first such k below n -/
def nextK (h : Hd) (p : Int) (t n : Nat) : Option Nat := (List.range n).find? fun k => decide (p ∈ (stt h (t + k + 1)).home)
def nextV (t : Nat) : Option Nat → V
  | some k => .int ((t : Int) + (k : Int))
  | none => .non
def spNext (K : PySem.W.Frag) (CH : Addr) : Sp := fun vs H Q _ => ∃ (hp : Addr) (h : Hd) (p : Int) (t : Nat), vs = [.ref hp, .int p, .int (t : Int)] ∧ HoAt K CH H hp h ∧ Tabs h.ts ∧ h.ts.length ≤ 6 ∧ 0 ≤ p ∧ p < (h.ts.length : Int) ∧ (t : Int) ≤ lastT ∧
  ∀ (H' : Hp) (b n : Nat), Same H H' → IsCyc h b n → Q (nextV t (nextK h p t n)) H'
theorem find_range {f : Nat → Bool} : ∀ {n k : Nat}, k < n → f k = true → (∀ j, j < k → f j = false) → (List.range n).find? f = some k := by
  intro n k hk hf hn
  rw [List.find?_eq_some_iff_append]
  refine ⟨hf, List.range k, (List.range (n - k - 1)).map (k + 1 + ·), ?_, fun a ha => ?_⟩
  · have e : n = k + (1 + (n - k - 1)) := by omega
    conv => lhs; rw [e, List.range_add, List.range_add, List.map_append]
    simp [Nat.add_assoc, List.map_map]
  · rw [hn a (List.mem_range.mp ha)]; rfl
theorem find_none {f : Nat → Bool} {n : Nat} (h : ∀ j, j < n → f j = false) : (List.range n).find? f = none := by
  rw [List.find?_eq_none]
  intro x hx
  rw [h x (List.mem_range.mp hx)]; decide
structure TxtNe (K : PySem.W.Frag) (mg : Str → Option Value) (fNe fCt fCa fCp : Addr) (fdNe fdCt fdCa fdCp : FuncData) : Prop where
  gNe : mg "next_entry" = some (.ref fNe)
  FNe : Fun K "next_entry" "next_entry" sNextE fNe fdNe
  bNe : Binds K fdNe ["house", "person", "tick"] []
  gCp : mg "check_person" = some (.ref fCp)
  FCp : Fun K "check_person" "check_person" sChkPerson fCp fdCp
  bCp : Binds K fdCp ["person", "persons"] []
abbrev nNextE : List Str := ["house", "person", "tick", "begin", "length", "course", "_"]
section
variable {P : Program} {w : World} {K : PySem.W.Frag} {mg : Str → Option Value} {base : Heap} {CC CH fCi fAd fSn : Addr} {fdCi fdAd fdSn : FuncData} {fSo fFc : Addr} {fdSo fdFc : FuncData} {fHL : Addr} {fdHL : FuncData} {fII fIB fHO : Addr} {fdII fdIB fdHO : FuncData}
  {fCP pPe gPe pPs gPs : Addr} {fdCP fdPe fdPs : FuncData} {fNe fCt fCa fCp : Addr} {fdNe fdCt fdCa fdCp : FuncData}
theorem scNextE : FnScope nNextE ["house", "person", "tick"] (defScope sNextE) := ⟨rfl, rfl, rfl, by decide +kernel, rfl, by decide +kernel, by decide +kernel⟩
theorem ok_next (NE : TxtNe K mg fNe fCt fCa fCp fdNe fdCt fdCa fdCp) (AS : TxtAs K mg fCt fCa fdCt fdCa) (Z : TxtSc P w K mg base CC CH fCi fAd fSn fdCi fdAd fdSn) (FC : TxtFc K mg fSo fFc fdSo fdFc) (T : TxtA mg) (TF : TxtF K mg fII fIB fHO fdII fdIB fdHO) (HP : TxtHp K mg CH fCP pPe gPe pPs gPs fdCP fdPe fdPs) (C' : TxtCo K mg CC CH fHL fdHL) :
    FnOk P w K mg base CX0 12 fNe fdNe ["house", "person", "tick"] (spNext K CH) := by
  have GT : FnOk P w K mg base CX0 3 fCt fdCt ["tick"] spTk := ok_tk AS TF
  have GA : FnOk P w K mg base CX0 11 fCa fdCa ["house", "tick"] (spAfter K CC CH) := ok_after AS.FCa Z FC T C'
  have GF : FnOk P w K mg base CX0 10 fFc fdFc ["house"] (spFind K CH) := ok_find Z FC T
  have GP : FnOk P w K mg base CX0 3 fCp fdCp ["person", "persons"] spCp := ok_cp NE.FCp TF
  have GPs : FnOk P w K mg base CX0 1 gPs fdPs ["self"] (spPersons K CH) := ok_persons HP C' T
  refine NE.FNe.ok scNextE (fun vs H Q E h => ?_) (fun cdv A outer s H vs Q E hr h => ?_)
  · obtain ⟨hp, h, p, t, rfl, _⟩ := h
    rfl
  · obtain ⟨hp, h, p, t, rfl, hho, hT, h6, hp0, hp1, ht, k⟩ := h
    have hr10 : Room 10 (A.deeper (envOfC (Str.ofString "next_entry") (defScope sNextE) s.heap.objs.size fNe cdv)) := hr.mono (by decide)
    have hr4 : Room 4 (A.deeper (envOfC (Str.ofString "next_entry") (defScope sNextE) s.heap.objs.size fNe cdv)) := hr.mono (by decide)
    have hr3 : Room 3 (A.deeper (envOfC (Str.ofString "next_entry") (defScope sNextE) s.heap.objs.size fNe cdv)) := hr.mono (by decide)
    have hr2 : Room 2 (A.deeper (envOfC (Str.ofString "next_entry") (defScope sNextE) s.heap.objs.size fNe cdv)) := hr.mono (by decide)
    refine ⟨_, pss_cons (ps_expr (pe_call GP hr3 rfl NE.gCp NE.FCp.kp NE.bCp .nil pass0 (pa_cons (pv 1) (pa_cons (pe_prop (pv 0) C'.clH HP.poPs GPs hr2 HP.bPs .nil pass0 rfl) pa_nil))))
      (pss_cons (ps_expr (pe_call GT hr3 rfl AS.gCt AS.FCt.kp AS.bCt .nil pass0 (pa_cons (pv 2) pa_nil)))
      (pss_cons (ps_asg (pe_call GF hr10 rfl FC.gFc FC.FFc.kp FC.bFc .nil pass0 (pa_cons (pv 0) pa_nil)) (pg_tup rfl (pgs_cons (pg_name (i := 3) scNextE.nd rfl (.inl rfl)) (pgs_cons (pg_name (i := 4) scNextE.nd rfl (.inl rfl)) pgs_nil))))
      (pss_cons (ps_set (i := 5) scNextE.nd rfl (.inl rfl) (pe_call GA hr rfl AS.gCa AS.FCa.kp AS.bCa .nil pass0 (pa_cons (pv 0) (pa_cons (pv 2) pa_nil))))
      (pss_cons (ps_for PassesOwn.never rfl (pi_range1 (by rfl) T.range (pa_cons (pe_op op_add (pv 3) (pv 4)) pa_nil)) (pg_name (i := 6) scNextE.nd rfl (.inl rfl))
        (pss_cons (ps_if (pt_cmpR op_in_seq (pv 1) (pe_fld (pv 5) rfl) (by rfl)) (pss_one (ps_ret (pe_fld (pv 5) rfl))) pss_nil)
        (pss_one (ps_expr (pe_meth0 (pv 5) Z.cl Z.mAd Z.GA hr4 Z.bAd .nil pass0)))))
      (pss_one (ps_ret pe_non)))))), ?_⟩
    obtain ⟨⟨d, bT, bC, bR, xs, g1, g2, g3, g4, g5⟩⟩ := id hho
    refine ⟨_, rfl, _, rfl, hp, d, _, rfl, g1, hp, h, rfl, hho, fun H1 s1 => ⟨p, _, rfl, hp0, hp1, fun H2 s2 => ?_⟩⟩
    refine ⟨_, rfl, _, rfl, by omega, ht, fun H3 s3 => ?_⟩
    have s13 := (s1.trans s2).trans s3
    refine ⟨_, rfl, hp, h, rfl, hho.mono s13, hT, h6, fun H4 a b n s4 cy ea => ?_⟩
    refine ⟨a, _, rfl, SqT.of ea, rfl, _, _, rfl, _, _, rfl, rfl, ?_⟩
    have s14 := s13.trans s4
    refine ⟨_, rfl, _, rfl, hp, h, t + 1, ?_, hho.mono s14, hT, h6, fun H5 c s5 hcn co nhc _ => ?_⟩
    · rw [after_at]; rfl
    have s15 := s14.trans s5
    have lt := cy.lt
    have le := cy.le
    have hc0 : H c = none := s14.free hcn
    have ho5 := hho.mono s15
    refine ⟨_, rfl, _, rfl, _, _, rfl, rfl, _, rfl, by omega, by omega, for_range (lo := 0) (n := ((b : Int) + ((n : Int) - (b : Int))).toNat)
      (fun i σ H' => ∃ v6, σ = [some (.ref hp), some (.int p), some (.int (t : Int)), some (.int (b : Int)), some (.int ((n : Int) - (b : Int))), some (.ref c), v6] ∧ Same H H' ∧ CoAt CC H' c hp ((per h.ts : Nat) : Int) (((t + i : Nat) : Int)) (stt h (t + i + 1)) ∧ HoAt K CH H' hp h ∧ ∀ j, j < i → decide (p ∈ (stt h (t + j + 1)).home) = false)
      ⟨_, rfl, s15, ?_, ho5, fun j hj => absurd hj (Nat.not_lt_zero j)⟩ ?_ ?_⟩
    · have e1 : ((t + 1 : Nat) : Int) - 1 = ((t + 0 : Nat) : Int) := by omega
      rw [e1] at co
      exact co
    · rintro i σ H6 hi ⟨v6, rfl, s6, co6, ho6, hno⟩
      obtain ⟨dx, aH, aW, aC, e1, e2, e3, e4⟩ := id co6
      refine ⟨_, rfl, _, rfl, c, CC, dx, _, .ref aH, rfl, e1, C'.cl, C'.nHm, by rfl, aH, _, rfl, .inl (SqL.of e2), rfl, ?_, _, rfl, ?_⟩
      · rw [List.all_map]; exact List.all_eq_true.mpr fun _ _ => rfl
      show (if inV (.int p) ((stt h (t + i + 1)).home.map V.int) = true then _ else _)
      rw [any_mem]
      by_cases cd : decide (p ∈ (stt h (t + i + 1)).home) = true
      · rw [cd]
        refine iteT ⟨_, rfl, c, CC, dx, _, .int ((t + i : Nat) : Int), rfl, e1, C'.cl, C'.nTk, by rfl, ?_⟩
        have := k H6 b n s6 cy
        have ef : nextK h p t n = some i := find_range (f := fun k => decide (p ∈ (stt h (t + k + 1)).home)) (by omega) cd hno
        rw [ef] at this
        have ei : ((t + i : Nat) : Int) = (t : Int) + (i : Int) := Int.natCast_add _ _
        rw [ei]
        exact this
      · have cd : decide (p ∈ (stt h (t + i + 1)).home) = false := by simpa using cd
        rw [cd]
        have g := gd_stt h (t + i + 1)
        have a1 := up_len g.hu g.hi
        have a2 := up_len g.cu g.ci
        refine iteF ⟨_, rfl, c, dx, _, rfl, e1, by rfl, c, hp, _, _, h, rfl, co6, ho6, nhc, hT, h6, g.hi, by omega, by omega, fun H7 e7 k7 co7 _ _ => ?_⟩
        refine ⟨_, rfl, fun b o eb => k7 _ _ (ne_of_none eb hc0) (s6 _ _ eb), co7, ho6.kp k7 e1 nhc, fun j hj => ?_⟩
        by_cases q : j = i
        · rw [q]; exact cd
        · exact hno j (by omega)
    · rintro σ H6 ⟨v6, rfl, s6, co6, ho6, hno⟩
      have := k H6 b n s6 cy
      have ef : nextK h p t n = none := find_none (f := fun k => decide (p ∈ (stt h (t + k + 1)).home)) fun j hj => hno j (by omega)
      rw [ef] at this
      exact this
end
end Dk

set_option autoImplicit false
set_option Elab.async false
set_option linter.all false
set_option maxRecDepth 100000
set_option maxHeartbeats 2000000
/-! A generator's body where the consumer may store into its own frame F (which is older than the generator's call) and change younger objects of its own (ch) between two items. -/
namespace Gr
open PySem PySem.Spec PyProof.Rows GenW L2
open Gq (Stand Ge Tq qP)
/-- the context over another base -/
abbrev rb (X : L2.Cx) (h : Heap) : L2.Cx := { X with s_0 := { X.s_0 with heap := h } }
/-- the base, with the consumer's frame as it stood when the generator was woken -/
structure Dc (s0 : Heap) (F : Addr) (h : Heap) (t : Heap) : Prop where
  sz : h.objs.size = s0.objs.size
  ot : ∀ b, b ≠ F → h.get? b = s0.get? b
  at_ : h.get? F = t.get? F
/-- the consumer's objects -/
structure Far (X : Cx) (F : Addr) (ch : List Addr) : Prop where
  yg : ∀ b ∈ ch, X.s_0.heap.objs.size ≤ b
  fr : ∀ b ∈ ch, b ≠ X.env.locals
  cl : ∀ b ∈ ch, ∀ x c, X.env.cells.lookup x = some c → c ≠ b
  pn : ∀ b ∈ ch, ∀ p ∈ X.pn, p.1 ≠ b
  ff : F ∈ X.fs
  fo : F < X.s_0.heap.objs.size
  fc : ∀ x c, X.env.cells.lookup x = some c → c ≠ F
structure Run (X : Cx) (F : Addr) (ch : List Addr) (t : Shared) (σ : L2.St) (H : Hp) (s : Shared) : Prop where
  st : Stand ch t
  inv : ∃ h, Dc X.s_0.heap F h t.heap ∧ Inv (rb X h) (pinsAt ch t.heap) σ H s
/-- what the consumer does while the generator sleeps -/
structure Took (F : Addr) (ch : List Addr) (s s' : Shared) : Prop where
  os : s'.os = s.os
  bare : AllBare s'.gens
  keep : ∀ b o, b ∉ ch → b ≠ F → s.heap.get? b = some o → s'.heap.get? b = some o
  st : Stand ch s'
  ns : ∃ m, s'.heap.Ns F m
theorem Run.pin {X : Cx} {F : Addr} {ch : List Addr} {t s : Shared} {σ : L2.St} {H : Hp} (r : Run X F ch t σ H s) {b : Addr} (hb : b ∈ ch) : ∃ o, t.heap.get? b = some o ∧ s.heap.get? b = some o ∧ H b = none ∧ b ≠ X.env.locals ∧ b ∉ X.fs := by
  obtain ⟨o, e, _⟩ := r.st b hb
  obtain ⟨h, _, I⟩ := r.inv
  obtain ⟨h1, h2, h3, h4, _⟩ := I.pin (b, o) (List.mem_append_right _ (mem_pinsAt hb e))
  exact ⟨o, e, h1, h2, h3, h4⟩
theorem Run.woken {X : Cx} {F : Addr} {ch : List Addr} {t s s' : Shared} {σ : L2.St} {H : Hp} (f : Far X F ch) (r : Run X F ch t σ H s) (k : Took F ch s s') : Run X F ch s' σ H s' := by
  have pin := fun {b : Addr} (hb : b ∈ ch) => r.pin hb
  obtain ⟨h, dc, I1⟩ := r.inv
  have nH : ∀ b u, H b = some u → b ∉ ch := fun b u e hb => by
    obtain ⟨_, _, _, n, _⟩ := pin hb
    rw [n] at e; cases e
  have FnL : F ≠ X.env.locals := Nat.ne_of_lt (Nat.lt_of_lt_of_le f.fo (by have := I1.ok.above; rw [show (rb X h).s_0.heap.objs.size = h.objs.size from rfl, dc.sz] at this; exact this))
  obtain ⟨oF0, hF0⟩ : ∃ o, h.get? F = some o := by
    obtain ⟨_, o, e, _⟩ := I1.ok.funs.mem (show F ∈ _ from f.ff)
    exact ⟨o, e⟩
  have HF : H F = none := I1.base.free F oF0 hF0 (I1.ok.frf F f.ff) (fun z => I1.ok.exfs F z f.ff)
  have HF0 : X.H_0 F = none := I1.ok.frf F f.ff
  obtain ⟨m, hm⟩ := k.ns
  obtain ⟨oF, es, ep, eF, dF, rF⟩ := id hm
  generalize hh' : h.update F (fun _ => oF) = h'
  have zz : h'.objs.size = h.objs.size := by
    rw [← hh']
    unfold Heap.update
    first | simp | (split <;> simp) | rfl
  have hFn : h'.get? F = some oF := by
    rw [← hh']
    exact Heap.get?_update_self _ hF0 (Heap.get?_some_iff.mp eF).2
  have hO : ∀ b, b ≠ F → h'.get? b = h.get? b := fun b n => by
    rw [← hh']; exact Heap.get?_update_other _ _ (Ne.symm n)
  have sb : Heap.SameBut F h h' := ⟨zz, hO⟩
  have nsF : h'.Ns F m := ⟨oF, es, ep, hFn, dF, rF⟩
  have dc' : Dc X.s_0.heap F h' s'.heap := ⟨zz.trans dc.sz, fun b n => (hO b n).trans (dc.ot b n), hFn.trans eF.symm⟩
  have nbs : ∀ b o, X.base.get? b = some o → b ≠ F := fun b o e z => by
    subst z
    exact I1.ok.nofr e f.ff
  have ok : (rb X h').Ok := ⟨I1.ok.mod, I1.ok.kind, I1.ok.glob, I1.ok.blt, by show h'.objs.size ≤ _; rw [zz]; exact I1.ok.above, I1.ok.inj, I1.ok.has, fun x c e1 e2 => by show h'.objs.size ≤ c; rw [zz]; exact I1.ok.cab x c e1 e2, I1.ok.hd, I1.ok.frames, I1.ok.stk, I1.ok.exf,
    fun b o e => ⟨(hO b (nbs b o e)).trans (I1.ok.bs b o e).1, (I1.ok.bs b o e).2⟩, by show _ ≤ h'.objs.size; rw [zz]; exact I1.ok.bsz, I1.ok.noex, I1.ok.exfs, PySem.Heap.FunFrames.sameBut sb nsF I1.ok.funs, I1.ok.frf⟩
  have low : ∀ {b : Addr} {o : Obj}, h'.get? b = some o → b ∉ ch := fun {b o} e hb => by
    have := Heap.lt_size e
    rw [zz, dc.sz] at this
    exact absurd (Nat.lt_of_lt_of_le this (f.yg b hb)) (Nat.lt_irrefl _)
  have kc : ∀ {x : Str} {c : Addr} {v : Option Value}, X.env.cells.lookup x = some c → s.heap.IsCell c v → s'.heap.IsCell c v := fun {x c v} e ⟨o, ho, hd⟩ =>
    ⟨o, k.keep c o (fun hb => f.cl c hb x c e rfl) (f.fc x c e) ho, hd⟩
  refine ⟨k.st, h', dc', ⟨ok, k.os.trans I1.os, k.bare, ⟨fun b o e n hb hx => ?_, fun b o e n hb hx => ?_, fun b o e n hx => ?_, fun b o e hx => ?_, I1.base.tups, I1.base.frzs, I1.base.tbls⟩, ?_, fun x c e => ?_, I1.free, I1.freeC, fun p hp => ?_, ?_, I1.len⟩⟩
  · have nF : b ≠ F := fun z => hb (by rw [z]; exact f.ff)
    exact k.keep b o (low e) nF (I1.base.keep b o ((hO b nF).symm.trans e) n hb hx)
  · by_cases z : b = F
    · subst z
      have e : h'.get? b = some o := e
      rw [hFn] at e
      cases e
      exact ⟨oF.slots, eF⟩
    · obtain ⟨sl, q⟩ := I1.base.slot b o ((hO b z).symm.trans e) n hb hx
      exact ⟨sl, k.keep b _ (low e) z q⟩
  · by_cases z : b = F
    · rw [z]; exact HF
    · exact I1.base.free b o ((hO b z).symm.trans e) n hx
  · by_cases z : b = F
    · exact ⟨oF, by rw [z]; exact eF⟩
    · obtain ⟨o', q⟩ := I1.base.there b o ((hO b z).symm.trans e) hx
      exact ⟨o', k.keep b _ (low e) z q⟩
  · obtain ⟨m1, hn, hl⟩ := I1.loc
    refine ⟨m1, ?_, fun i x v e1 e2 e3 => ?_⟩
    · obtain ⟨ob, es1, ep1, e, rr⟩ := hn
      exact ⟨ob, es1, ep1, k.keep _ ob (fun hb => f.fr _ hb rfl) (Ne.symm FnL) e, rr⟩
    · obtain ⟨u, ru, l⟩ := hl i x v e1 e2 e3
      refine ⟨u, ru, ?_⟩
      rcases l with l | ⟨l1, c, l2, l3⟩
      · exact .inl l
      · exact .inr ⟨l1, c, l2, kc l2 l3⟩
  · obtain ⟨v, z⟩ := I1.cell x c e
    exact ⟨v, kc e z⟩
  · rcases List.mem_append.mp hp with z | z
    · obtain ⟨q1, q2, q3, q4, q5⟩ := I1.pin p (List.mem_append_left _ z)
      exact ⟨k.keep _ _ (fun hb => f.pn _ hb p z rfl) (fun e => q4 (by rw [e]; exact f.ff)) q1, q2, q3, q4, q5⟩
    · obtain ⟨hb, e⟩ := of_pinsAt z
      obtain ⟨o, e', nc⟩ := k.st p.1 hb
      obtain ⟨_, _, _, n1, n2, n3⟩ := pin hb
      have eo : o = p.2 := Option.some.inj (e'.symm.trans e)
      subst eo
      exact ⟨e, n1, n2, n3, nc⟩
  · intro b u q
    refine (I1.hok b u q).stay (fun c v hc y => k.keep c v ?_ ?_ y) (fun _ y => y) fun _ _ y => y
    · rcases hc with y | y
      · rw [y]; exact nH b u q
      · exact nH c _ y
    · rintro rfl
      rcases hc with y | y
      · rw [y] at HF; rw [HF] at q; cases q
      · rw [HF] at y; cases y
/-! ### statements -/
def Aft (X : Cx) (F : Addr) (ch : List Addr) (t : Shared) (D : Ge) (ys : List V) : Flow → Shared → Prop
  | .next, s => ∃ σ H, Run X F ch t σ H s ∧ D.nx ys σ H
  | .brk, s => ∃ σ H, Run X F ch t σ H s ∧ D.bk ys σ H
  | .cont, s => ∃ σ H, Run X F ch t σ H s ∧ D.ct ys σ H
  | .ret u, s => ∃ v σ H, Run X F ch t σ H s ∧ RelV v u ∧ D.rt ys v H
section
variable (X : Cx) (F : Addr) (ch : List Addr) (N : Nat) (Yl : List V → V → Hp → Prop)
def Yq : Protocol := fun n t v s kap => ∃ ys x σ H, n + 1 + ys.length = N ∧ RelV x v ∧ Run X F ch t σ H s ∧ Yl ys x H ∧ ∀ s', Took F ch s s' → kap (.send .none) s'
structure At (A : Around) (c : Code) (fs : List Frame) (gd : Bool → Bool) : Prop where
  far : Far X F ch
  over : A.over c fs = X.A
  sp : splitAtGen fs = none
  gu : fs.any Frame.guarded = false
  gd : gd false = false
structure Then (A : Around) (R : GenEnd) (c : Code) (fs : List Frame) (K : Flow → Sem PySem.Fin) (J : Value → Sem PySem.Fin) (D : Ge) : Prop where
  ok : ∀ (n : Nat) (ys : List V) (t s : Shared) (f : Flow), n + ys.length = N → Aft X F ch t D ys f s → Seg (model X.prog X.w) A R (Yq X F ch N Yl) n t c (K f) fs s
  ex : ∀ (n : Nat) (t : Shared) (e : Value) (s : Shared), X.xe e s → Seg (model X.prog X.w) A R (Yq X F ch N Yl) n t c (J e) fs s
structure Sq (st : Stmt) (q : Tq) : Prop where
  run : ∀ (A : Around) (R : GenEnd) (n : Nat) (ys : List V) (t : Shared) (c : Code) (fs : List Frame) (K : Flow → Sem PySem.Fin) (J : Value → Sem PySem.Fin) (gd : Bool → Bool) (lv : List Value → List Value) (s : Shared) (σ : L2.St) (H : Hp) (D : Ge),
    At X F ch A c fs gd → n + ys.length = N → Then X F ch N Yl A R c fs K J D → Run X F ch t σ H s → q D ys σ H → Seg (model X.prog X.w) A R (Yq X F ch N Yl) n t c ((exec st X.env).wrap K J gd lv) fs s
structure Sqs (st : List Stmt) (q : Tq) : Prop where
  run : ∀ (A : Around) (R : GenEnd) (n : Nat) (ys : List V) (t : Shared) (c : Code) (fs : List Frame) (K : Flow → Sem PySem.Fin) (J : Value → Sem PySem.Fin) (gd : Bool → Bool) (lv : List Value → List Value) (s : Shared) (σ : L2.St) (H : Hp) (D : Ge),
    At X F ch A c fs gd → n + ys.length = N → Then X F ch N Yl A R c fs K J D → Run X F ch t σ H s → q D ys σ H → Seg (model X.prog X.w) A R (Yq X F ch N Yl) n t c ((execs st X.env).wrap K J gd lv) fs s
end
section
variable {X : Cx} {F : Addr} {ch : List Addr} {N : Nat} {Yl : List V → V → Hp → Prop} {st : Stmt} {rest : List Stmt}
theorem aft_of {t s : Shared} {h : Heap} {D : Ge} {ys : List V} {f : Flow} (h0 : Stand ch t) (dc : Dc X.s_0.heap F h t.heap) (q : SP (rb X h) (pinsAt ch t.heap) (D.at ys) f s) : Aft X F ch t D ys f s := by
  cases f with
  | next => obtain ⟨σ, H, I, q⟩ := q; exact ⟨σ, H, ⟨h0, h, dc, I⟩, q⟩
  | brk => obtain ⟨σ, H, I, q⟩ := q; exact ⟨σ, H, ⟨h0, h, dc, I⟩, q⟩
  | cont => obtain ⟨σ, H, I, q⟩ := q; exact ⟨σ, H, ⟨h0, h, dc, I⟩, q⟩
  | ret u => obtain ⟨v, σ, H, I, r, q⟩ := q; exact ⟨v, σ, H, ⟨h0, h, dc, I⟩, r, q⟩
theorem sq_ps {u : TS} (h : ∀ h, PS (rb X h) st u) : Sq X F ch N Yl st (qP u) := by
  refine ⟨fun A R n ys t c fs K J gd lv s σ H D a hn k r hu => seg_wrap ?_⟩
  rw [a.over]
  obtain ⟨h0, dc, I⟩ := r.inv
  exact wpAny_mono ((h h0).run _ s σ H (D.at ys) I hu) (fun f s' q => k.ok n ys t s' f hn (aft_of r.st dc q)) fun e s' q => k.ex n t e s' q
theorem sqs_nil : Sqs X F ch N Yl [] (fun D ys σ H => D.nx ys σ H) :=
  ⟨fun A R n ys t c fs K J gd lv s σ H D a hn k r hu => seg_execs_nil (k.ok n ys t s .next hn ⟨σ, H, r, hu⟩)⟩
theorem sqs_cons {q1 q2 : Tq} (h1 : Sq X F ch N Yl st q1) (h2 : Sqs X F ch N Yl rest q2) : Sqs X F ch N Yl (st :: rest) (fun D ys σ H => q1 { D with nx := fun ys' σ' H' => q2 D ys' σ' H' } ys σ H) := by
  refine ⟨fun A R n ys t c fs K J gd lv s σ H D a hn k r hu => seg_execs_cons ?_⟩
  refine h1.run A R n ys t c fs _ J gd lv s σ H _ a hn ⟨fun n' ys' t' s' f hn' hf => ?_, k.ex⟩ r hu
  cases f with
  | next =>
    obtain ⟨σ', H', r', hq⟩ := hf
    exact h2.run A R n' ys' t' c fs K J gd lv s' σ' H' D a hn' k r' hq
  | brk => exact k.ok n' ys' t' s' .brk hn' hf
  | cont => exact k.ok n' ys' t' s' .cont hn' hf
  | ret u => exact k.ok n' ys' t' s' (.ret u) hn' hf
theorem sq_yield {e : Expr} {te : TE} {yp pos : Pos} (he : ∀ h, PE (rb X h) e te) (hco : X.env.scope.isCoroutine = false := by rfl) (hi : interactive X.env = false := by rfl) : Sq X F ch N Yl (.Expr (.Yield (some e) yp) pos) (Gq.qY N Yl te) := by
  refine ⟨fun A R n ys t c fs K J gd lv s σ H D a hn k r hu => ?_⟩
  obtain ⟨hl, hu⟩ := hu
  obtain ⟨m, rfl⟩ : ∃ m, n = m + 1 := ⟨n - 1, by omega⟩
  refine seg_Expr_Yield a.sp a.gd a.gu ?_ hco hi
  rw [a.over]
  obtain ⟨h0, dc, I⟩ := r.inv
  refine wpAny_mono ((he h0).run _ s σ H _ I hu) (fun v s' hv => ?_) fun x s' hx => k.ex _ t x s' hx
  obtain ⟨x, H1, I1, rv, hy, hq⟩ := hv
  have r1 : Run X F ch t σ H1 s' := ⟨r.st, h0, dc, I1⟩
  intro kap hk
  refine ⟨ys, x, σ, H1, hn, rv, r1, hy, fun s'' z => hk .none s'' ?_⟩
  refine k.ok m (ys ++ [x]) s'' s'' .next ?_ ⟨σ, H1, r1.woken a.far z, hq⟩
  rw [List.length_append, List.length_singleton]; omega
end
end Gr

set_option Elab.async false
set_option linter.all false
set_option maxRecDepth 100000
set_option maxHeartbeats 2000000
namespace Gr
open PySem PySem.Spec PyProof.Rows GenW L2
open Gq (Stand Ge Tq qW outK)
section
variable {X : Cx} {F : Addr} {ch : List Addr} {N : Nat} {Yl : List V → V → Hp → Prop}
theorem at_in {A : Around} {c c' : Code} {fs : List Frame} {gd : Bool → Bool} {k : Result → Sem PySem.Fin} {l kp : List Value} {p : Pos} (a : At X F ch A c fs gd) (hw : c'.weight = 0) (hu : c'.cUnits = 0) : At X F ch A c' (.ret k none (gd false) l c p kp :: fs) id := by
  refine ⟨a.far, (over_loop hw hu).trans a.over, ?_, ?_, rfl⟩
  · show (splitAtGen fs).map _ = none
    simp [a.sp]
  · show (gd false || fs.any Frame.guarded) = false
    simp [a.gd, a.gu]
/-- an exception that came back out of a loop -/
theorem back_seg {A : Around} {R : GenEnd} {c : Code} {fs : List Frame} {K : Flow → Sem PySem.Fin} {J : Value → Sem PySem.Fin} {gd : Bool → Bool} {lv : List Value → List Value} {D : Ge} {n : Nat} {t s : Shared} {e : Value} (a : At X F ch A c fs gd) (k : Then X F ch N Yl A R c fs K J D)
    (h : cameBackBy (model X.prog X.w) X.A X.env X.xe e s) : Seg (model X.prog X.w) A R (Yq X F ch N Yl) n t c (outK X K J gd lv (.error e)) fs s := by
  show Seg _ _ _ _ _ _ _ (((cameBack X.env e).bind fun _ => Sem.raise (α := Flow) e).wrap K J gd lv) _ _
  rw [Sem.bind_eq_wrap, Sem.wrap_wrap]
  refine seg_wrap ?_
  rw [a.over]
  exact wpAny_mono h (fun _ s' q => k.ex n t e s' q) fun y s' q => k.ex n t y s' q
theorem sq_while {test : Expr} {body : List Stmt} {pos : Pos} {tc : TT} {tb : Tq} (hp : PassesOwn (model X.prog X.w) X.A X.env X.xe) (hc : ∀ h, PT (rb X h) test tc) (hb : Sqs X F ch N Yl body tb) : Sq X F ch N Yl (.While test body [] pos) (qW tc tb) := by
  refine ⟨fun A R n ys t c fs K J gd lv s σ H D a hn k r hu => ?_⟩
  obtain ⟨W, ⟨m0, w0⟩, turn⟩ := hu
  refine seg_While fun p => ?_
  have inn := fun (kk : Result → Sem PySem.Fin) => at_in (k := kk) (c' := .whileLoop test body [] X.env) (l := lv []) (kp := []) (p := p) a rfl rfl
  have all : ∀ (m n : Nat) (ys : List V) (t s : Shared) (σ : L2.St) (H : Hp), n + ys.length = N → W m ys σ H → Run X F ch t σ H s →
      Seg (model X.prog X.w) A R (Yq X F ch N Yl) n t (.whileLoop test body [] X.env) ((model X.prog X.w).den (.whileLoop test body [] X.env)) (.ret (outK X K J gd lv) none (gd false) (lv []) c p [] :: fs) s := by
    intro m
    induction m using Nat.strongRecOn with
    | ind m ih =>
      intro n ys t s σ H hn w r
      have out : ∀ (n : Nat) (t : Shared) (x : Value) (s' : Shared), X.xe x s' → Seg (model X.prog X.w) A R (Yq X F ch N Yl) n t (.whileLoop test body [] X.env)
          ((do noteFrame x X.env; theTreesLotGoes x : Sem Unit).wrap (fun _ => .raise x) .raise id id) (.ret (outK X K J gd lv) none (gd false) (lv []) c p [] :: fs) s' := by
        intro n t x s' hx
        refine seg_wrap ?_
        rw [(inn _).over]
        refine wpAny_bind (wpAny_mono (hp x s' hx) (fun _ s2 q => wpAny_theTreesLotGoes (seg_leaf (.error x) (back_seg a k q))) fun y s2 q => seg_leaf (.error y) (back_seg a k q))
      refine seg_whileLoop ?_
      rw [(inn _).over]
      obtain ⟨h0, dc, I0⟩ := r.inv
      refine wpAny_mono ((hc h0).run _ s σ H _ I0 (turn m ys σ H w)) (fun b s' hb' => ?_) fun x s' hx => out n t x s' hx
      obtain ⟨H2, I2, q2⟩ := hb'
      have r2 : Run X F ch t σ H2 s' := ⟨r.st, h0, dc, I2⟩
      by_cases cb : b = true
      · subst cb
        rw [if_pos rfl] at q2 ⊢
        obtain ⟨Nx, hNx, q2⟩ := q2
        refine hb.run A R n ys t _ _ _ _ id id s' σ H2 _ (inn _) hn ⟨fun n' ys' t' s3 f hn' hf => ?_, fun n' t' x s3 hx => out n' t' x s3 hx⟩ r2 q2
        have more : ∀ {ys' : List V} {σ3 : L2.St} {H3 : Hp} {n' : Nat} {t' s3 : Shared}, n' + ys'.length = N → Run X F ch t' σ3 H3 s3 → Nx ys' σ3 H3 → Seg (model X.prog X.w) A R (Yq X F ch N Yl) n' t' (.whileLoop test body [] X.env) (.pure (.again (.whileLoop test body [] X.env))) (.ret (outK X K J gd lv) none (gd false) (lv []) c p [] :: fs) s3 := by
          intro ys' σ3 H3 n' t' s3 hn' r3 hx
          obtain ⟨m', hm, w'⟩ := hNx ys' σ3 H3 hx
          exact seg_again rfl (ih m' hm n' ys' t' s3 σ3 H3 hn' w' r3)
        cases f with
        | next => obtain ⟨σ3, H3, r3, q3⟩ := hf; exact more hn' r3 q3
        | cont => obtain ⟨σ3, H3, r3, q3⟩ := hf; exact more hn' r3 q3
        | brk => exact seg_leaf (.ok .next) (k.ok n' ys' t' s3 .next hn' hf)
        | ret v => exact seg_leaf (.ok (.ret v)) (k.ok n' ys' t' s3 (.ret v) hn' hf)
      · rw [if_neg cb] at q2 ⊢
        exact seg_execs_nil (seg_leaf (.ok .next) (k.ok n ys t s' .next hn ⟨σ, H2, r2, q2⟩))
  exact all m0 n ys t s σ H hn w0 r
end
end Gr

set_option autoImplicit false
set_option Elab.async false
set_option linter.all false
set_option maxRecDepth 100000
set_option maxHeartbeats 2000000
namespace Gr
open PySem PySem.Spec PyProof.Rows GenW L2
open Gq (Stand Ge Tq SpQ)
/-- what the def's state and the consumer's objects are, seen from outside -/
structure Seen (P : Program) (w : World) (outer : List Env) (H : Hp) (s0 : Shared) (F : Addr) (ch : List Addr) (t : Shared) (H' : Hp) (s : Shared) : Prop where
  os : s.os = s0.os
  bare : AllBare s.gens
  lim : s.heap.NoLimit
  un : ∃ h, Dc s0.heap F h t.heap ∧ Un (frs outer) [] H H' h s.heap
  ok : HOk P w H' s.heap
  mine : ∀ b ∈ ch, H' b = none ∧ ∃ o, t.heap.get? b = some o ∧ s.heap.get? b = some o
/-- an item, seen from outside -/
def Item (P : Program) (w : World) (outer : List Env) (H : Hp) (s0 : Shared) (F : Addr) (ch : List Addr) (N : Nat) (Yl : List V → V → Hp → Prop) (a : Addr) (g : Nat) : Protocol := fun n t v s kap =>
  ∃ ys x H', n + 1 + ys.length = N ∧ RelV x v ∧ Seen P w outer H s0 F ch t H' s ∧ s.heap.IsGen a g ∧ Yl ys x H' ∧ ∀ s', Took F ch s s' → kap (.send .none) s'
/-- the end, seen from outside: nothing is let out -/
def Over (P : Program) (w : World) (outer : List Env) (H : Hp) (s0 : Shared) (F : Addr) (ch : List Addr) (N : Nat) (Q : List V → Hp → Prop) : GenEnd := fun n t r s =>
  (r = .ok (.ret .none) ∨ r = .ok .next) ∧ ∃ ys H', n + ys.length = N ∧ Seen P w outer H s0 F ch t H' s ∧ Q ys H'
/-- a generator that has not begun -/
def Born (P : Program) (w : World) (k : Nat) (outer : List Env) (H : Hp) (s0 : Shared) (N : Nat) (Yl : List V → V → Hp → Prop) (Q : List V → Hp → Prop) (u : Value) (s' : Shared) : Prop :=
  ∃ (a : Addr) (g : Nat) (c : Code), u = .ref a ∧ s0.heap.objs.size ≤ a ∧ a < s'.heap.objs.size ∧ s'.heap.IsGen a g ∧ s'.gens[g]? = some (.fresh c) ∧ s'.os = s0.os ∧ AllBare s'.gens ∧ s'.heap.NoLimit ∧ (∀ b o, s0.heap.get? b = some o → s'.heap.get? b = some o) ∧
    ∀ (A : Around) (F : Addr) (ch : List Addr) (s2 : Shared), Room k A → A.frames = some outer → F ∈ frs outer → (∀ b ∈ ch, s'.heap.objs.size ≤ b) → (∀ b o, s'.heap.get? b = some o → s2.heap.get? b = some o) → Stand ch s2 → s2.os = s0.os → AllBare s2.gens →
      Seg (model P w) A (Over P w outer H s0 F ch N Q) (Item P w outer H s0 F ch N Yl a g) N s2 c ((model P w).den c) [] s2
structure GdOk (P : Program) (w : World) (K : PySem.W.Frag) (mg : Str → Option Value) (base : Heap) (k : Nat) (f : Addr) (fd : FuncData) (ps : List Str) (sp : SpQ) : Prop where
  len : ∀ vs H N Yl Q, sp vs H N Yl Q → vs.length = ps.length
  run : ∀ (A : Around) (outer : List Env) (s : Shared) (H : Hp) (args : Args) (us : List Value) (vs : List V) (N : Nat) (Yl : List V → V → Hp → Prop) (Q : List V → Hp → Prop), Room k A → Env0 P w K mg base A outer s H → BindsTo s fd args (ps.zip us) → Vals vs us → sp vs H N Yl Q →
    codeAny (model P w) A (.call (.ref f) args) (fun r s' => match r with
      | .ok (.ret u) => Born P w k outer H s N Yl Q u s'
      | _ => False) s
theorem gd_of {P : Program} {w : World} {K : PySem.W.Frag} {mg : Str → Option Value} {base : Heap} {k : Nat} {f : Addr} {name qual : Str} {params : Arguments} {body : List Stmt} {scope : Scope} {dV kV doc pm cdv ct oc : Value} {an od : Option Addr} {osl : Array (Option Value)} {Ns ps : List Str} {sp : SpQ}
    (lk : K.lookup f = some ⟨oc, od, .func (PySem.W.fnOf name qual params body scope dV kV doc pm an cdv ct), osl⟩) (hcd : PySem.W.codeIn K cdv qual = true) (S : GScope Ns ps scope) (len : ∀ vs H N Yl Q, sp vs H N Yl Q → vs.length = ps.length)
    (hbody : ∀ (A : Around) (outer : List Env) (s : Shared) (H : Hp) (vs : List V) (N : Nat) (Yl : List V → V → Hp → Prop) (Q : List V → Hp → Prop) (pn : List (Addr × Obj)) (F : Addr) (ch : List Addr), Room k (A.deeper (envOfC qual scope s.heap.objs.size f cdv)) → sp vs H N Yl Q →
      ∃ q, Sqs (gcxOf P w K mg base Ns qual scope f cdv A outer s H E0 pn) F ch N Yl body q ∧ q { nx := fun ys _ H' => Q ys H', rt := fun ys v H' => v = .non ∧ Q ys H' } [] (start Ns vs) H) :
    GdOk P w K mg base (k + 1) f (PySem.W.fnOf name qual params body scope dV kV doc pm an cdv ct) ps sp := by
  refine ⟨len, fun A outer s H args us vs N Yl Q hr e0 hb rv hsp => ?_⟩
  have hl := len _ _ _ _ _ hsp
  have KX : K.In s.heap := e0.mod.kin.keeps fun b o e => (e0.bs b o e).1
  have lim : s.heap.NoLimit := e0.mod.nolimit.keeps fun b o e => (e0.bs b o e).1
  have hk : ∀ y ∈ ps.zip us, scope.names.lookup y.1 = some .local ∨ (scope.names.lookup y.1 = some .cell ∧ ((cellsFrom (s.heap.objs.size + 1) scope.names []).lookup y.1).isSome = true) := by
    rintro ⟨x, v⟩ hy
    rcases S.par x (List.of_mem_zip hy).1 with q | q
    · exact .inl q
    · exact .inr ⟨q, PySem.W.cellsFrom_some _ _ _ (.inl q)⟩
  refine codeAny_call_generator hr.depth (KX _ _ lk) rfl S.co S.gen rfl (PySem.W.codeRec_of KX hcd) (hb _ _ _ _ (wpAny_newFunctionEnv_cells S.kind hk fun env he s1 x => ?_))
  subst he
  have lim1 : s1.heap.NoLimit := lim.keeps x.toInCall.keep
  refine ⟨lim1, ?_⟩
  obtain ⟨h1, tk, es, hk1⟩ := x.done
  have os1 : s1.os = s.os := by rw [es]
  have gs1 : s1.gens = s.gens := by rw [es]
  have lt1 : s.heap.objs.size < s1.heap.objs.size := x.toInCall.ns.lt
  have kp1 : ∀ b o, s.heap.get? b = some o → s1.heap.get? b = some o := x.toInCall.keep
  have go : ∀ (ob : Obj) (nm qn : Value) (tk2 : Nat), ob.cls = .type "generator" → ob.data = .fields #[.int s1.gens.size 0, nm, qn] → ob.slots = #[] → (∀ h : Heap, (h.push ob).get? h.objs.size = some ob) →
      Born P w (k + 1) outer H s N Yl Q (.ref s1.heap.objs.size) { s1 with gens := s1.gens.push (.fresh (.func body (envOfC qual scope s.heap.objs.size f cdv))), toks := tk2, heap := s1.heap.push ob } := by
    intro ob nm qn tk2 oc od osl' op
    have isg : ∀ h : Heap, h.get? s1.heap.objs.size = some ob → h.IsGen s1.heap.objs.size s1.gens.size := fun h e => ⟨ob, nm, qn, e, oc, od, osl'⟩
    refine ⟨s1.heap.objs.size, s1.gens.size, _, rfl, Nat.le_of_lt lt1, ?_, isg _ (op _), Array.getElem?_push_size .., os1, AllBare.push (by rw [gs1]; exact e0.bare) rfl, lim1.keeps fun b o e => Heap.get?_push_of_some _ e, fun b o e => Heap.get?_push_of_some _ (kp1 b o e), ?_⟩
    · show _ < (s1.heap.push _).objs.size
      rw [Heap.size_push]; exact Nat.lt_succ_self _
    intro Aw F ch s2 hrw hfr hFF hch hk2 hst hos hba
    have e0w : Env0 P w K mg base Aw outer s H := ⟨hfr, e0.mod, e0.bs, e0.bsz, e0.funs, e0.frf, e0.hok, e0.bare⟩
    obtain ⟨q, hq, hqr⟩ := hbody Aw outer s H vs N Yl Q [(s1.heap.objs.size, ob)] F ch (hrw.deeper _) hsp
    have I1 : Inv (gcxOf P w K mg base Ns qual scope f cdv Aw outer s H E0 []) [] (start Ns vs) H s1 := inv_startG S hrw.hd e0w hl rv x
    have kp2 : ∀ b o, s1.heap.get? b = some o → s2.heap.get? b = some o := fun b o e => hk2 b o (Heap.get?_push_of_some _ e)
    have I2 : Inv (gcxOf P w K mg base Ns qual scope f cdv Aw outer s H E0 []) [] (start Ns vs) H s2 :=
      I1.call' (ch := []) (hos.trans os1.symm) (Un.kept kp2) (I1.hok.kept kp2) hba fun b z => by simp at z
    have hch2 : ∀ b ∈ ch, s1.heap.objs.size < b := fun b hb' => by
      have z : (s1.heap.push ob).objs.size ≤ b := hch b hb'
      rw [Heap.size_push] at z
      exact z
    have eob : s2.heap.get? s1.heap.objs.size = some ob := hk2 _ ob (op _)
    have nod : ∀ v, ob.data ≠ .cell v := fun v z => by rw [od] at z; cases z
    have yng : ∀ b, s1.heap.objs.size ≤ b → H b = none ∧ b ≠ s.heap.objs.size ∧ b ∉ frs outer ∧ s.heap.objs.size ≤ b ∧ ∀ y c, (cellsFrom (s.heap.objs.size + 1) scope.names []).lookup y = some c → c ≠ b := fun b hb' => by
      refine ⟨I1.hok.fresh hb', Nat.ne_of_gt (Nat.lt_of_lt_of_le lt1 hb'), I1.nofs hb', Nat.le_trans (Nat.le_of_lt lt1) hb', fun y c e z => ?_⟩
      obtain ⟨v, o', ho, _⟩ := I1.cell y c e
      have hlt := Heap.lt_size ho
      rw [z] at hlt
      exact absurd (Nat.lt_of_lt_of_le hlt hb') (Nat.lt_irrefl _)
    obtain ⟨oF, eF⟩ : ∃ o, s.heap.get? F = some o := by
      obtain ⟨_, o, e, _⟩ := e0.funs.mem hFF
      exact ⟨o, e⟩
    have hFs : F < s.heap.objs.size := Heap.lt_size eF
    have far : Far (gcxOf P w K mg base Ns qual scope f cdv Aw outer s H E0 [(s1.heap.objs.size, ob)]) F ch :=
      ⟨fun b hb' => (yng b (Nat.le_of_lt (hch2 b hb'))).2.2.2.1, fun b hb' => (yng b (Nat.le_of_lt (hch2 b hb'))).2.1, fun b hb' => (yng b (Nat.le_of_lt (hch2 b hb'))).2.2.2.2, fun b hb' p hp => by
        rw [List.mem_singleton.mp hp]; exact Nat.ne_of_lt (hch2 b hb'), hFF, hFs, fun y c e z => by
        have := x.above y c (PySem.mem_of_lookup e)
        rw [z] at this
        exact absurd (Nat.lt_of_le_of_lt (Nat.le_of_lt this) hFs) (Nat.lt_irrefl _)⟩
    have r0 : Run (gcxOf P w K mg base Ns qual scope f cdv Aw outer s H E0 [(s1.heap.objs.size, ob)]) F ch s2 (start Ns vs) H s2 := by
      refine ⟨hst, s.heap, ⟨rfl, fun _ _ => rfl, eF.trans (kp2 F oF (kp1 F oF eF)).symm⟩, Inv.pinnedG I2 fun p hp => ?_⟩
      rcases List.mem_append.mp hp with z | z
      · rw [List.mem_singleton.mp z]
        obtain ⟨y1, y2, y3, _, _⟩ := yng s1.heap.objs.size (Nat.le_refl _)
        exact ⟨eob, y1, y2, y3, nod⟩
      · obtain ⟨hb', e⟩ := of_pinsAt z
        obtain ⟨o', e', nc⟩ := hst p.1 hb'
        have : o' = p.2 := Option.some.inj (e'.symm.trans e)
        subst this
        obtain ⟨y1, y2, y3, _, _⟩ := yng p.1 (Nat.le_of_lt (hch2 _ hb'))
        exact ⟨e, y1, y2, y3, nc⟩
    have seen : ∀ {t s' : Shared} {σ' : L2.St} {H' : Hp}, Run (gcxOf P w K mg base Ns qual scope f cdv Aw outer s H E0 [(s1.heap.objs.size, ob)]) F ch t σ' H' s' → Seen P w outer H s F ch t H' s' ∧ s'.heap.IsGen s1.heap.objs.size s1.gens.size := fun {t s' σ' H'} r =>
      by
      obtain ⟨h, dc, I⟩ := r.inv
      exact ⟨⟨I.os, I.bare, I.nolimit, ⟨h, dc, I.base⟩, I.hok, fun b hb' => by obtain ⟨o', q1, q2, q3, _, _⟩ := r.pin hb'; exact ⟨q3, o', q1, q2⟩⟩, isg _ (I.pin (s1.heap.objs.size, ob) (List.mem_append_left _ (List.mem_singleton.mpr rfl))).1⟩
    refine seg_func ?_
    refine seg_imp (R := fun n t r s' => ∃ u, r = .ok (.ret u) ∧ ∃ ys v σ' H', n + ys.length = N ∧ Run (gcxOf P w K mg base Ns qual scope f cdv Aw outer s H E0 [(s1.heap.objs.size, ob)]) F ch t σ' H' s' ∧ RelV v u ∧ v = .non ∧ Q ys H') (Y := Yq (gcxOf P w K mg base Ns qual scope f cdv Aw outer s H E0 [(s1.heap.objs.size, ob)]) F ch N Yl)
      (fun n t r s' h => ?_) (fun n t v s' kap kap' hkk hY => ?_) N ?_
    · obtain ⟨u, rfl, ys, v, σ', H', hn, r, ru, ev, hQ⟩ := h
      subst ev
      have eu : u = Value.none := ru
      subst eu
      exact ⟨.inl rfl, ys, H', hn, (seen r).1, hQ⟩
    · obtain ⟨ys, x, σ', H', hn, rx, r, hy, h3⟩ := hY
      exact ⟨ys, x, H', hn, rx, (seen r).1, (seen r).2, hy, fun s'' z => hkk _ _ (h3 s'' z)⟩
    · refine hq.run Aw _ N [] s2 _ [] _ _ id id s2 (start Ns vs) H _ ⟨far, over_func, rfl, rfl, rfl⟩ (Nat.add_zero _) ⟨fun n ys t s' fl hn hs => ?_, fun n t e s' hx => ?_⟩ r0 hqr
      · cases fl with
        | next =>
          obtain ⟨σ', H', r, hQ⟩ := hs
          exact seg_end (.ok (.ret .none)) ⟨_, rfl, ys, .non, σ', H', hn, r, rfl, rfl, hQ⟩
        | brk => obtain ⟨_, _, _, z⟩ := hs; exact z.elim
        | cont => obtain ⟨_, _, _, z⟩ := hs; exact z.elim
        | ret u =>
          obtain ⟨v, σ', H', r, ru, ev, hQ⟩ := hs
          exact seg_end (.ok (.ret u)) ⟨_, rfl, ys, v, σ', H', hn, r, ru, ev, hQ⟩
      · refine seg_wrap ?_
        rw [over_func]
        refine wpAny_mono (show wpAny (model P w) (Aw.deeper (envOfC qual scope s.heap.objs.size f cdv)) (leaving (envOfC qual scope s.heap.objs.size f cdv) e) (fun _ s'' => L2.CX P w outer H s E0 e s'' ∧ ∀ p ∈ [(s1.heap.objs.size, ob)], s''.heap.get? p.1 = some p.2) (fun _ _ => False) s' from hx) (fun _ s'' z => ?_) fun _ s'' z => z.elim
        obtain ⟨⟨_, _, _, _, _, _, _, _, _, _, _, _, z⟩, _⟩ := z
        exact False.elim z
  exact go _ _ _ _ rfl rfl rfl fun h => Heap.get?_push_size _ rfl
end Gr

set_option Elab.async false
set_option linter.all false
set_option maxRecDepth 100000
set_option maxHeartbeats 4000000
namespace Dk
open PySem PySem.Spec PyProof.Rows L2 TL
open Dn (NXs DnO KAt0 KAt)
section
variable {P : Program} {w : World} {K : PySem.W.Frag} {mg : Str → Option Value} {base : Heap} {CC CH fCi fAd fSn : Addr} {fdCi fdAd fdSn : FuncData}
theorem gdr_scenes {f : Addr} {fd : FuncData} (F : Fun K "scenes_of" "scenes_of" sScenes f fd) (Z : TxtSc P w K mg base CC CH fCi fAd fSn fdCi fdAd fdSn) : Gr.GdOk P w K mg base 6 f fd ["house"] (spScQ K CH) := by
  obtain ⟨oc, od, kV, doc, pm, an, cdv, ct, osl, rfl, lk, hcd⟩ := F.ex
  refine Gr.gd_of (k := 5) lk hcd scScs (fun vs H N Yl Q h => ?_) (fun A outer s H vs N Yl Q pn F' ch hr h => ?_)
  · obtain ⟨hp, h, rfl, _⟩ := h
    rfl
  · obtain ⟨hp, h, rfl, hho, hT, h6, hN, ky, k⟩ := h
    subst hN
    have hr4 : Room 4 (A.deeper (envOfC (Str.ofString "scenes_of") (defScope sScenes) s.heap.objs.size f cdv)) := hr.mono (by decide)
    have hr1 : Room 1 (A.deeper (envOfC (Str.ofString "scenes_of") (defScope sScenes) s.heap.objs.size f cdv)) := hr.mono (by decide)
    have hu : (A.deeper (envOfC (Str.ofString "scenes_of") (defScope sScenes) s.heap.objs.size f cdv)).units + 16 < cLine := by have := hr.un; omega
    have hpp := per_pos hT
    refine ⟨_, Gr.sqs_cons (Gr.sq_ps (fun _ => by exact ps_set (i := 1) scScs.nd rfl (.inl rfl) (pe_make Z.M Z.GI hr rfl Z.gC Z.bI .nil pass0 (pa_cons (pv 0) pa_nil))))
      (Gr.sqs_cons (Gr.sq_ps (fun _ => by exact ps_expr (pe_meth0 (pv 1) Z.cl Z.mAd Z.GA hr4 Z.bAd .nil pass0)))
      (Gr.sqs_cons (Gr.sq_ps (fun _ => by exact ps_set (i := 2) scScs.nd rfl (.inl rfl) (pe_newP (P := P) (w := w) rfl rfl)))
      (Gr.sqs_cons (Gr.sq_while owns_gcx (fun _ => by exact pt_cmp (pc_notInP (P := P) (w := w) rfl rfl hu (pe_meth0 (pv 1) Z.cl Z.mSn Z.GS hr1 Z.bSn .nil pass0) (pv 2)) (by rfl))
        (Gr.sqs_cons (Gr.sq_ps (fun _ => by exact ps_putP (P := P) (w := w) rfl rfl hu (pv 2) (pe_meth0 (pv 1) Z.cl Z.mSn Z.GS hr1 Z.bSn .nil pass0)))
        (Gr.sqs_cons (Gr.sq_yield (fun _ => by exact pe_meth0 (pv 1) Z.cl Z.mSn Z.GS hr1 Z.bSn .nil pass0))
        (Gr.sqs_cons (Gr.sq_ps (fun _ => by exact ps_expr (pe_meth0 (pv 1) Z.cl Z.mAd Z.GA hr4 Z.bAd .nil pass0))) Gr.sqs_nil))))
      (Gr.sqs_cons (Gr.sq_yield (fun _ => by exact pe_meth0 (pv 1) Z.cl Z.mSn Z.GS hr1 Z.bSn .nil pass0)) Gr.sqs_nil)))), ?_⟩
    -- the course
    refine ⟨_, rfl, fun p dx hpn hdx npd => ?_⟩
    have sN : Same H (upd (upd H dx (.own p)) p (.ins CC dx [])) := fun b o e => by
      rw [upd_ne (ne_of_none e hpn), upd_ne (ne_of_none e hdx)]; exact e
    have nhp : hp ≠ p := by
      obtain ⟨⟨d, _, _, _, _, e1, _⟩⟩ := hho
      exact ne_of_none e1 hpn
    refine ⟨p, dx, hp, h, rfl, upd_same, hho.mono sN, nhp, hT, h6, fun H1 k1 co1 _ => ⟨rfl, ?_⟩⟩
    have ho1 := (hho.mono sN).kp k1 upd_same nhp
    have s1 : Same H H1 := fun b o e => k1 b o (ne_of_none e hpn) (sN _ _ e)
    obtain ⟨d1, b1, b2, b3, w1, w2, w3, w4⟩ := id co1
    have g0 := gd_stt h 0
    have hhl : ∀ n, (stt h n).home.length ≤ 50 ∧ (stt h n).carr.length ≤ 50 := fun n => by
      have g := gd_stt h n
      have a1 := up_len g.hu g.hi
      have a2 := up_len g.cu g.ci
      omega
    refine ⟨_, rfl, p, d1, _, rfl, w1, by rfl, p, hp, -1, st0 h, h, rfl, co1, ho1, nhp, hT, h6, g0.hi, (hhl 0).1, (hhl 0).2, fun H2 e2 k2 co2 _ _ => ?_⟩
    have ho2 := ho1.kp k2 w1 nhp
    have s2 : Same H H2 := fun b o e => k2 b o (ne_of_none e hpn) (s1 _ _ e)
    have co2' : CoAt CC H2 p hp ((per h.ts : Nat) : Int) ((0 : Nat) : Int) (stt h (0 + 1)) := co2
    clear co1 co2 k1 k2 s1 ho1 w1 w2 w3 w4 d1 b1 b2 b3
    intro d hd
    have s3 := same_upd (o := DnO P w d []) hd
    have np3 : p ≠ d := by
      obtain ⟨_, _, _, _, z, _⟩ := id co2'
      exact ne_of_none z hd
    have hHd : H d = none := by
      cases z : H d with
      | none => rfl
      | some o => have := s2 _ _ z; rw [hd] at this; cases this
    -- the loop
    refine ⟨fun m ys σ H' => ∃ (n : Nat) (xs : NXs), m = 196609 - n ∧ σ = [some (.ref hp), some (.ref p), some (.ref d)] ∧ CoAt CC H' p hp ((per h.ts : Nat) : Int) (n : Int) (stt h (n + 1)) ∧ HoAt K CH H' hp h ∧ H' d = some (DnO P w d xs) ∧
      xs.map (·.1) = (List.range n).map (fun i => scK (scn h i)) ∧ (∀ q ∈ xs, KAt H' q.1 q.2.1) ∧ ((List.range n).map (scn h)).Nodup ∧ Scs H' h ys (List.range n) ∧ Same H H',
      ⟨_, 0, [], rfl, rfl, co2'.mono s3, ho2.mono s3, upd_same, rfl, fun q hq => (by cases hq), .nil, .nil, s2.trans s3⟩, ?_⟩
    clear co2' ho2 s2 s3 hd
    rintro m ys σ H3 ⟨n, xs, rfl, rfl, co3, ho3, eD, ekeys, hK, nd, hS, s3⟩
    have hn := nd_le hT h6 nd
    obtain ⟨dx3, c1, c2, c3, w1, w2, w3, w4⟩ := id co3
    have hxl : xs.length = n := by
      have := congrArg List.length ekeys
      rw [List.length_map, List.length_map, List.length_range] at this
      exact this
    refine ⟨_, rfl, p, dx3, _, rfl, w1, by rfl, p, hp, _, _, _, rfl, co3, by omega, fun H4 a4 s4 sc4 => ?_⟩
    have eD4 := s4 _ _ eD
    have hK4 : ∀ q ∈ xs, KAt H4 q.1 q.2.1 := fun q hq => (hK q hq).mono fun t zs z => s4 _ _ z
    have esc : scOf ((per h.ts : Nat) : Int) (n : Int) (stt h (n + 1)) = scn h n := rfl
    rw [esc] at sc4
    refine ⟨_, rfl, d, a4, xs, scK (scn h n), rfl, rfl, eD4, hK4, scAt_key sc4, _, rfl, ?_⟩
    rw [atKey_some, ekeys]
    have co4 := co3.mono s4
    have ho4 := ho3.mono s4
    have hS4 := hS.mono fun t zs z => s4 _ _ z
    have s04 := s3.trans s4
    have w14 := s4 _ _ w1
    by_cases hin : scn h n ∈ (List.range n).map (scn h)
    · rw [decide_eq_true (key_in.mpr hin)]
      refine iteF ⟨?_, _, rfl, p, dx3, _, rfl, w14, by rfl, p, hp, _, _, _, rfl, co4, by omega, fun H5 a5 s5 sc5 => ?_⟩
      · rw [hS4.len, List.length_range]; exact Nat.lt_of_le_of_lt hn (by decide)
      rw [esc] at sc5
      have hS5 := hS4.mono fun t zs z => s5 _ _ z
      refine ⟨ky H5 ys a5 n (s04.trans s5) hn hS5 sc5, k H5 _ n (s04.trans s5) ⟨nd, hin⟩ hn ?_⟩
      rw [List.range_succ]
      exact hS5.snoc sc5
    · rw [decide_eq_false (fun z => hin (key_in.mp z))]
      have nd' := nd_succ nd hin
      have hn' := nd_le hT h6 nd'
      refine iteT ⟨fun ys' σ' H' => ∃ (n' : Nat) (xs' : NXs), n' = n + 1 ∧ σ' = [some (.ref hp), some (.ref p), some (.ref d)] ∧ CoAt CC H' p hp ((per h.ts : Nat) : Int) (n' : Int) (stt h (n' + 1)) ∧ HoAt K CH H' hp h ∧ H' d = some (DnO P w d xs') ∧
        xs'.map (·.1) = (List.range n').map (fun i => scK (scn h i)) ∧ (∀ q ∈ xs', KAt H' q.1 q.2.1) ∧ ((List.range n').map (scn h)).Nodup ∧ Scs H' h ys' (List.range n') ∧ Same H H', fun ys' σ' H' ⟨n', xs', e, r⟩ => ⟨196609 - n', by omega, n', xs', rfl, r⟩, ?_⟩
      -- the scene is noted
      refine ⟨_, rfl, _, rfl, p, dx3, _, rfl, w14, by rfl, p, hp, _, _, _, rfl, co4, by omega, fun H5 a5 s5 sc5 => ?_⟩
      rw [esc] at sc5
      have eD5 := s5 _ _ eD4
      have hK5 : ∀ q ∈ xs, KAt H5 q.1 q.2.1 := fun q hq => (hK4 q hq).mono fun t zs z => s5 _ _ z
      have hnone : atKey xs (scK (scn h n)) = none := by
        have := atKey_some xs (scK (scn h n))
        rw [ekeys, decide_eq_false (fun z => hin (key_in.mp z))] at this
        cases z : atKey xs (scK (scn h n)) with
        | none => rfl
        | some v => rw [z] at this; cases this
      refine ⟨d, a5, xs, scK (scn h n), rfl, rfl, eD5, hK5, scAt_key sc5, hnone, by rw [hxl]; exact Nat.lt_of_le_of_lt hn (by decide), ?_⟩
      have tK := dn_tup (o := DnO P w d (xs ++ [(scK (scn h n), a5, Value.bool true)])) eD5
      have kD : Kp d H5 (upd H5 d (DnO P w d (xs ++ [(scK (scn h n), a5, Value.bool true)]))) := kp_upd
      have co6 : CoAt CC (upd H5 d (DnO P w d (xs ++ [(scK (scn h n), a5, Value.bool true)]))) p hp ((per h.ts : Nat) : Int) (n : Int) (stt h (n + 1)) := by
        obtain ⟨e5, q1, q2, q3, z1, z2, z3, z4⟩ := co4.mono s5
        have nl : ∀ a zs, H5 a = some (.lst zs) → a ≠ d := fun a zs hz z => by rw [z, eD5] at hz; cases hz
        exact ⟨e5, q1, q2, q3, kD _ _ np3 z1, kD _ _ (nl _ _ z2) z2, kD _ _ (nl _ _ z3) z3, kD _ _ (nl _ _ z4) z4⟩
      have ho6 : HoAt K CH (upd H5 d (DnO P w d (xs ++ [(scK (scn h n), a5, Value.bool true)]))) hp h := by
        obtain ⟨⟨e5, q1, q2, q3, q4, z1, z2, z3, z4, z5⟩⟩ := ho4.mono s5
        have nsq : ∀ a zs, SqT K H5 a zs → SqT K (upd H5 d (DnO P w d (xs ++ [(scK (scn h n), a5, Value.bool true)]))) a zs := fun a zs hz => by
          rcases hz with (hz | ⟨o, hz⟩) | hz
          · exact .inl (.inl (tK _ _ hz))
          · exact .inl (.inr ⟨o, kD _ _ (fun z => by rw [z, eD5] at hz; cases hz) hz⟩)
          · exact .inr hz
        exact ⟨⟨e5, q1, q2, q3, q4, kD _ _ (fun z => by rw [z, eD5] at z1; cases z1) z1, nsq _ _ z2, nsq _ _ z3, nsq _ _ z4, z5.mono tK⟩⟩
      have hK6 : ∀ q ∈ xs ++ [(scK (scn h n), a5, Value.bool true)], KAt (upd H5 d (DnO P w d (xs ++ [(scK (scn h n), a5, Value.bool true)]))) q.1 q.2.1 := fun q hq => by
        rcases List.mem_append.mp hq with hq | hq
        · exact (hK5 q hq).mono tK
        · rw [List.mem_singleton.mp hq]; exact (scAt_key sc5).mono tK
      have hS6 := (hS4.mono fun t zs z => s5 _ _ z).mono tK
      have s06 : Same H (upd H5 d (DnO P w d (xs ++ [(scK (scn h n), a5, Value.bool true)]))) := fun b o e => kD _ _ (ne_of_none e hHd) (s5 _ _ (s04 _ _ e))
      have eD6 : (upd H5 d (DnO P w d (xs ++ [(scK (scn h n), a5, Value.bool true)]))) d = some (DnO P w d (xs ++ [(scK (scn h n), a5, Value.bool true)])) := upd_same
      have ek6 : (xs ++ [(scK (scn h n), a5, Value.bool true)]).map (·.1) = (List.range (n + 1)).map (fun i => scK (scn h i)) := by
        rw [List.map_append, ekeys, List.range_succ, List.map_append]; rfl
      generalize xs ++ [(scK (scn h n), a5, Value.bool true)] = xs6 at co6 ho6 hK6 hS6 s06 eD6 ek6
      generalize upd H5 d (DnO P w d xs6) = H6 at co6 ho6 hK6 hS6 s06 eD6
      clear tK kD co4 ho4 hS4 hK4 hK5 eD4 eD5 sc4 sc5 s04 w14 hK hS co3 ho3 eD ekeys s4 s5 w1 w2 w3 w4
      obtain ⟨dx6, c1, c2, c3, w1, w2, w3, w4⟩ := id co6
      -- it is yielded
      refine ⟨by rw [hS6.len, List.length_range]; exact Nat.lt_of_le_of_lt hn (by decide), _, rfl, p, dx6, _, rfl, w1, by rfl, p, hp, _, _, _, rfl, co6, by omega, fun H7 a7 s7 sc7 => ?_⟩
      rw [esc] at sc7
      have hS7 : Scs H7 h (ys ++ [.ref a7]) (List.range (n + 1)) := by
        rw [List.range_succ]
        exact (hS6.mono fun t zs z => s7 _ _ z).snoc sc7
      refine ⟨ky H7 ys a7 n (s06.trans s7) hn (hS6.mono fun t zs z => s7 _ _ z) sc7, ?_⟩
      -- the next tick
      have co7 := co6.mono s7
      have ho7 := ho6.mono s7
      have g := gd_stt h (n + 1)
      refine ⟨_, rfl, p, dx6, _, rfl, s7 _ _ w1, by rfl, p, hp, (n : Int), stt h (n + 1), h, rfl, co7, ho7, nhp, hT, h6, g.hi, (hhl (n + 1)).1, (hhl (n + 1)).2, fun H8 e8 k8 co8 _ _ => ?_⟩
      have tK8 := kp_tup2 k8 (s7 _ _ w1)
      refine ⟨n + 1, xs6, rfl, rfl, co8, ho7.kp k8 (s7 _ _ w1) nhp, k8 _ _ np3.symm (s7 _ _ eD6), ek6, fun q hq => ((hK6 q hq).mono fun t zs z => s7 _ _ z).mono tK8, nd', hS7.mono tK8, fun b o e => k8 _ _ (ne_of_none e hpn) (s7 _ _ (s06 _ _ e))⟩
end
end Dk

set_option Elab.async false
set_option linter.all false
set_option maxRecDepth 100000
set_option maxHeartbeats 2000000
set_option autoImplicit false
namespace Gr
open PySem PySem.Spec PyProof.Rows GenW L2
open Gq (Stand Ge Tq SpQ Young young_of TGq tCq born_inv codeAny_dead)
/-- an expression whose value is a generator that has not begun -/
structure PGq (X : Cx) (k : Nat) (e : Expr) (tg : TGq) : Prop where
  run : ∀ (pins : List (Addr × Obj)) (s : Shared) (σ : L2.St) (H : Hp) (N : Nat) (Yl : List V → V → Hp → Prop) (Q : List V → Hp → Prop) (K : Hp → Prop), Inv X pins σ H s → tg σ H N Yl Q K →
    wpAny (model X.prog X.w) X.A (eval e X.env) (fun u s' => ∃ H1 sc, K H1 ∧ Inv X pins σ H1 sc ∧ Born X.prog X.w k X.stack H1 sc N Yl Q u s' ∧ Young sc s') X.xe s
section
variable {X : Cx} {k : Nat} {f : Addr} {fd : FuncData} {ps : List Str} {sp : SpQ}
theorem run_gd {pins : List (Addr × Obj)} {σ : L2.St} {H : Hp} {s : Shared} {us : List Value} {vs : List V} {N : Nat} {Yl : List V → V → Hp → Prop} {Q : List V → Hp → Prop} {E1 : Value → Shared → Prop} (F : GdOk X.prog X.w X.K X.mg X.base k f fd ps sp) (hr : Room k X.A) (hb : Binds X.K fd ps [])
    (I : Inv X pins σ H s) (r : Vals vs us) (h : sp vs H N Yl Q) : wpAny (model X.prog X.w) X.A (call (.ref f) us) (fun u s' => Born X.prog X.w k X.stack H s N Yl Q u s' ∧ Young s s') E1 s := by
  have hl : us.length = ps.length := by rw [← r.length]; exact F.len _ _ _ _ _ h
  have hb' : BindsTo s fd ⟨us, []⟩ (ps.zip us) := by
    have z := hb s us I.kIn (by rw [List.append_nil]; exact hl)
    rw [List.append_nil] at z
    exact z
  refine wpAny_call (codeAny_mono (codeAny_dead (F.run X.A X.stack s H ⟨us, []⟩ us vs N Yl Q hr I.env0 hb' r h)) fun res s' hq => ?_)
  obtain ⟨hd, hq⟩ := hq
  cases res with
  | error e => exact hq.elim
  | ok fl =>
    cases fl with
    | ret u => exact ⟨hq, young_of hd⟩
    | next => exact hq.elim
    | brk => exact hq.elim
    | cont => exact hq.elim
theorem pgq_call {x : Str} {p pos : Pos} {e : Expr} {es : List Expr} {t : TA} (F : GdOk X.prog X.w X.K X.mg X.base k f fd ps sp) (hr : Room k X.A) (hg : Gl X x) (hm : X.mg x = some (.ref f)) (hk : PySem.W.keepIn X.K (.ref f) = true) (hb : Binds X.K fd ps []) (ha : PA X (e :: es) t)
    (hd : (x == ("__debug__" : Str)) = false := by decide) (he : starEach (e :: es) X.env = (false, eval e X.env) :: starEach es X.env := by rfl) (hp : (backTo pos (starEach es X.env)).any (·.1) = false := by rfl) : PGq X k (.Call (.Name x p) (e :: es) [] pos) (tCq sp t) := by
  refine ⟨fun pins s σ H N Yl Q K I h => ?_⟩
  refine wpAny_Call_Name_kw (ld_glob I hg hm ?_ hd)
  exact PySem.W.callWith_K (h₀ := X.base) I.ok.mod.kin hk (thn (ha.run pos pins s σ H _ I h) fun us s1 ⟨vs, H1, I1, r, qk, q⟩ => ⟨I1.kIn, thn (run_gd F hr hb I1 r q) fun u s' z => ⟨H1, s1, qk, I1, z.1, z.2⟩⟩) he hp
end
end Gr

set_option autoImplicit false
set_option Elab.async false
set_option linter.all false
set_option maxRecDepth 100000
set_option maxHeartbeats 2000000
namespace Gr
open PySem PySem.Spec PyProof.Rows GenW L2
open Gq (Stand Ge Tq SpQ Young TGq tCq born_inv Ex1 named)
/-- a test told with the state left as it is (but for the tokens) -/
structure Et1 (X : Cx) (e : Expr) (tt : L2.St → Hp → Bool → Prop) : Prop where
  run : ∀ (whole : Sem Value) (pins : List (Addr × Obj)) (σ : L2.St) (H : Hp) (s : Shared) (b : Bool), whole = eval e X.env → Inv X pins σ H s → tt σ H b → ∀ (Q : Bool → Shared → Prop) (E : Value → Shared → Prop), (∀ t, Q b { s with toks := t }) → wpAny (model X.prog X.w) X.A (isTrue e X.env whole) Q E s
structure Ew1 (X : Cx) (e : Expr) (tt : L2.St → Hp → Bool → Prop) : Prop where
  run : ∀ (whole : Sem Value) (pins : List (Addr × Obj)) (σ : L2.St) (H : Hp) (s : Shared) (b : Bool), Inv X pins σ H s → tt σ H b → ∀ (Q : Bool → Shared → Prop) (E : Value → Shared → Prop), (∀ t, Q b { s with toks := t }) → wpAny (model X.prog X.w) X.A (isTrue e X.env whole) Q E s
section
variable {X : Cx}
/-- an item of a tuple of ours: a tuple or a bool, by its truth -/
theorem et_tup {K : PySem.W.Frag} {a : Expr} {ta : L2.St → Hp → V → Prop} (hK : X.K = K) (ha : Ex1 X a ta) (he : ∀ whole, isTrue a X.env whole = (do let v ← whole; standAt a.pos; holding [v] (truthy v))) :
    Et1 X a (fun σ H b => ∃ x, ta σ H x ∧ ((∃ p xs, x = .ref p ∧ SqT K H p xs ∧ b = !xs.isEmpty) ∨ x = .bl b)) := by
  subst hK
  refine ⟨fun whole pins σ H s b hw I h Q E hq => ?_⟩
  subst hw
  obtain ⟨x, h1, h2⟩ := h
  obtain ⟨u, r, q⟩ := ha.run pins σ H s x I h1
  refine isTrue_plain (q _ _ ?_) (he _)
  rcases h2 with ⟨p, xs, rfl, hx, rfl⟩ | rfl
  · cases r
    obtain ⟨its, r, pl, hz⟩ := I.tuple hx
    have hlen := r.length
    have hl := line63
    exact truthy_tuple pl (by simp only [List.size_toArray]; omega) (by rw [isEmpty_of r]; exact hq _)
  · cases r
    exact wpAny_truthy_bool (hq s.toks)
theorem Et1.w {e : Expr} {tt : L2.St → Hp → Bool → Prop} (h : Et1 X e tt) (pins : List (Addr × Obj)) (σ : L2.St) (H : Hp) (s : Shared) (b : Bool) (I : Inv X pins σ H s) (ht : tt σ H b) (Q : Bool → Shared → Prop) (E : Value → Shared → Prop) (q : ∀ t, Q b { s with toks := t }) : wpAny (model X.prog X.w) X.A (isTrue e X.env (eval e X.env)) Q E s :=
  h.run _ pins σ H s b rfl I ht Q E q
theorem ew_or1 {a : Expr} {pos : Pos} {ta : L2.St → Hp → Bool → Prop} (ha : Et1 X a ta) : Ew1 X (.BoolOp .Or [a] pos) ta := by
  refine ⟨fun whole pins σ H s b I h Q E hq => ?_⟩
  refine isTrue_or (whole := whole) (ha.w pins σ H s b I h _ E fun t => ?_)
  cases b with
  | false => exact isTrue_or_nil (hq t)
  | true => exact hq t
theorem ew_or {a b : Expr} {rest : List Expr} {pos : Pos} {ta tb : L2.St → Hp → Bool → Prop} (ha : Et1 X a ta) (hb : Ew1 X (.BoolOp .Or (b :: rest) pos) tb) :
    Ew1 X (.BoolOp .Or (a :: b :: rest) pos) (fun σ H c => ∃ c1, ta σ H c1 ∧ (if c1 = true then c = true else tb σ H c)) := by
  refine ⟨fun whole pins σ H s c I h Q E hq => ?_⟩
  obtain ⟨c1, h1, h2⟩ := h
  refine isTrue_or (whole := whole) (ha.w pins σ H s c1 I h1 _ E fun t => ?_)
  cases c1 with
  | true =>
    rw [if_pos rfl] at h2
    subst h2
    exact hq t
  | false =>
    rw [if_neg (by decide)] at h2
    exact hb.run whole pins σ H _ c (I.tok t) h2 Q E fun t' => hq t'
theorem Ew1.t {e : Expr} {tt : L2.St → Hp → Bool → Prop} (h : Ew1 X e tt) : Et1 X e tt := ⟨fun whole pins σ H s b _ I ht Q E q => h.run whole pins σ H s b I ht Q E q⟩
/-! ### across a turn -/
/-- where the consumer stands, seen from the call (sc) -/
def Cur (st : List Env) (F : Addr) (H1 Hg : Hp) (sc : Heap) (t : Heap) (s : Heap) : Prop := ∃ h, Dc sc F h t ∧ Un (frs st) [] H1 Hg h s
theorem turn_for {pins : List (Addr × Obj)} {σ0 σ : L2.St} {H1 Hg Hg' : Hp} {sc s5 s6 t : Shared} {ch : List Addr} (hF : X.env.locals ∈ frs X.stack) (Isc : Inv X pins σ0 H1 sc) (I5 : Inv X pins σ Hg s5)
    (sn : Seen X.prog X.w X.stack H1 sc X.env.locals ch t Hg' s6) (ht : t.heap = s5.heap) (U5 : Cur X.stack X.env.locals H1 Hg sc.heap s5.heap s5.heap) : Inv X pins σ Hg' s6 := by
  obtain ⟨h5, dc5, u5⟩ := U5
  obtain ⟨h6, dc6, u6⟩ := sn.un
  rw [ht] at dc6
  obtain ⟨mF, hmF, hlF⟩ := I5.loc
  obtain ⟨oF, es, ep, eF, dF, rF⟩ := id hmF
  have HF1 : H1 X.env.locals = none := Isc.free
  have e6F : h6.get? X.env.locals = some oF := dc6.at_.trans eF
  obtain ⟨slF, e6⟩ := u6.slot _ oF e6F HF1 hF (by simp)
  have ne0 : ∀ {b : Addr} {o : Obj}, X.s_0.heap.get? b = some o → b ≠ X.env.locals := fun {b o} e => Nat.ne_of_lt (Nat.lt_of_lt_of_le (Heap.lt_size e) Isc.ok.above)
  have old6 : ∀ {b : Addr} {o : Obj}, b ≠ X.env.locals → sc.heap.get? b = some o → h6.get? b = some o := fun n e => (dc6.ot _ n).trans e
  have old5 : ∀ {b : Addr} {o : Obj}, b ≠ X.env.locals → sc.heap.get? b = some o → h5.get? b = some o := fun n e => (dc5.ot _ n).trans e
  have cellc : ∀ {x : Str} {c : Addr} {v : Option Value}, X.env.cells.lookup x = some c → s5.heap.IsCell c v → s6.heap.IsCell c v := fun {x c v} e q => by
    obtain ⟨v0, ob, ho, hd⟩ := Isc.cell x c e
    have n := Isc.cne x c e
    obtain ⟨sl5, e5⟩ := u5.any (old5 n ho) (Isc.freeC x c e) (by simp)
    obtain ⟨sl6, e6⟩ := u6.any (old6 n ho) (Isc.freeC x c e) (by simp)
    obtain ⟨ob5, ho5, hd5⟩ := q
    rw [e5] at ho5
    cases ho5
    exact ⟨_, e6, hd5⟩
  refine ⟨I5.ok, sn.os.trans Isc.os, sn.bare, ⟨fun b o e n hb hx => ?_, fun b o e n hb hx => ?_, fun b o e n hx => ?_, fun b o e hx => ?_, fun b xs e => u6.tups b xs (Isc.base.tups b xs e), fun b o u e => u6.frzs b o u (Isc.base.frzs b o u e), fun b ps e => ?_⟩, ⟨mF, ⟨_, es, ep, e6, dF, rF⟩, fun i x v e1 e2 e3 => ?_⟩, fun x c e => ?_, ?_, fun x c e => ?_, fun p hp => ?_, sn.ok, I5.len⟩
  · have q := Isc.base.keep b o e n hb hx
    exact u6.keep b o (old6 (ne0 e) q) (Isc.base.free b o e n hx) (fun z => (List.mem_cons.mp (Isc.stkSub b z)).elim (ne0 e) hb) (by simp)
  · obtain ⟨sl, q⟩ := Isc.base.slot b o e n hb hx
    obtain ⟨sl', q'⟩ := u6.any (old6 (ne0 e) q) (Isc.base.free b o e n hx) (by simp)
    exact ⟨sl', q'⟩
  · obtain ⟨o', q⟩ := Isc.base.there b o e hx
    exact u6.free b o' (old6 (ne0 e) q) (Isc.base.free b o e n hx) (by simp)
  · obtain ⟨o', q⟩ := Isc.base.there b o e hx
    exact u6.there b o' (old6 (ne0 e) q) (by simp)
  · obtain ⟨m1, e1⟩ := Isc.base.tbls b ps e
    obtain ⟨m2, e2⟩ := u6.tbls b _ e1
    exact ⟨m1 ++ m2, by rw [e2, Array.append_assoc]⟩
  · obtain ⟨u, r, l⟩ := hlF i x v e1 e2 e3
    refine ⟨u, r, ?_⟩
    rcases l with l | ⟨l1, c, l2, l3⟩
    · exact .inl l
    · exact .inr ⟨l1, c, l2, cellc l2 l3⟩
  · obtain ⟨v, z⟩ := I5.cell x c e
    exact ⟨v, cellc e z⟩
  · exact u6.free _ oF e6F HF1 (by simp)
  · obtain ⟨v0, ob, ho, hd⟩ := Isc.cell x c e
    exact u6.free c ob (old6 (Isc.cne x c e) ho) (Isc.freeC x c e) (by simp)
  · obtain ⟨q1, q2, q3, q4, q5⟩ := Isc.pin p hp
    exact ⟨u6.keep _ _ (old6 q3 q1) q2 (fun z => (List.mem_cons.mp (Isc.stkSub _ z)).elim q3 q4) (by simp), u6.free _ _ (old6 q3 q1) q2 (by simp), q3, q4, q5⟩
/-- the consumer has stored into its frame -/
theorem Cur.next {st : List Env} {F : Addr} {H1 Hg : Hp} {sc t s s' : Heap} {ch : List Addr} (c : Cur st F H1 Hg sc t s) (hF : F ∈ frs st) (eF0 : ∃ o, t.get? F = some o) (HF : H1 F = none) (hch : ∀ b ∈ ch, sc.get? b = none) (hcF : F ∉ ch) (k : ∀ b o, b ∉ ch → b ≠ F → s.get? b = some o → s'.get? b = some o) (eF : ∃ o, s'.get? F = some o) : Cur st F H1 Hg sc s' s' := by
  obtain ⟨h, dc, u⟩ := c
  obtain ⟨oF, eF⟩ := eF
  obtain ⟨o0, e0⟩ := eF0
  have eh : h.get? F = some o0 := dc.at_.trans e0
  generalize hh' : h.update F (fun _ => oF) = h'
  have zz : h'.objs.size = h.objs.size := by
    rw [← hh']
    unfold Heap.update
    first | simp | (split <;> simp) | rfl
  have hFn : h'.get? F = some oF := by
    rw [← hh']
    exact Heap.get?_update_self _ eh (Heap.get?_some_iff.mp eF).2
  have hO : ∀ b, b ≠ F → h'.get? b = h.get? b := fun b n => by
    rw [← hh']; exact Heap.get?_update_other _ _ (Ne.symm n)
  have nch : ∀ {b : Addr} {o : Obj}, b ≠ F → h'.get? b = some o → b ∉ ch := fun {b o} n e hb => by
    rw [hO b n, dc.ot b n, hch b hb] at e; cases e
  refine ⟨h', ⟨zz.trans dc.sz, fun b n => (hO b n).trans (dc.ot b n), hFn.trans eF.symm⟩, ⟨fun b o e n hb hx => ?_, fun b o e n hb hx => ?_, fun b o e n hx => ?_, fun b o e hx => ?_, u.tups, u.frzs, u.tbls⟩⟩
  · have nF : b ≠ F := fun z => hb (by rw [z]; exact hF)
    exact k b o (nch nF e) nF (u.keep b o ((hO b nF).symm.trans e) n hb hx)
  · by_cases z : b = F
    · subst z
      rw [hFn] at e
      cases e
      exact ⟨oF.slots, eF⟩
    · obtain ⟨sl, q⟩ := u.slot b o ((hO b z).symm.trans e) n hb hx
      exact ⟨sl, k b _ (nch z e) z q⟩
  · by_cases z : b = F
    · subst z; exact u.free b o0 eh HF (by simp)
    · exact u.free b o ((hO b z).symm.trans e) n hx
  · by_cases z : b = F
    · exact ⟨oF, by rw [z]; exact eF⟩
    · obtain ⟨o', q⟩ := u.there b o ((hO b z).symm.trans e) hx
      exact ⟨o', k b _ (nch z e) z q⟩
end
end Gr

set_option autoImplicit false
set_option Elab.async false
set_option linter.all false
set_option maxRecDepth 100000
set_option maxHeartbeats 2000000
namespace Gr
open PySem PySem.Spec PyProof.Rows GenW L2
open Gq (Stand Ge Tq SpQ Young TGq tCq born_inv Ex1 named)
abbrev R0 (P : Program) (w : World) (st : List Env) (H1 : Hp) (sc : Shared) (F : Addr) (ch : List Addr) (N : Nat) (Q : List V → Hp → Prop) : GenEnd := fun n t r s =>
  ((r = .ok (.ret .none) ∨ r = .ok .next) ∧ ∃ ys H', n + ys.length = N ∧ Seen P w st H1 sc F ch t H' s ∧ Q ys H') ∨ ∃ e, r = .error e ∧ (fun (_ : Value) (_ : Shared) => False) e s
section
variable {X : Cx} {k : Nat}
/-- before a turn: n items may come yet -/
structure Ft (X : Cx) (pins : List (Addr × Obj)) (i : Nat) (σ : L2.St) (H1 : Hp) (sc : Shared) (N : Nat) (Yl : List V → V → Hp → Prop) (Q : List V → Hp → Prop) (a : Addr) (g : Nat) (W : Nat → Prop) (n : Nat) (v : Option V) (Hg : Hp) (gs : GenState) (s : Shared) : Prop where
  le : n ≤ N
  inv : Inv X pins (σ.set i v) Hg s
  isg : s.heap.IsGen a g
  at_ : s.gens[g]? = some gs
  go : gs.Goes (model X.prog X.w) X.A.in1 (R0 X.prog X.w X.stack H1 sc X.env.locals [] N Q) (Item X.prog X.w X.stack H1 sc X.env.locals [] N Yl a g) n (.send .none) (s.setGen g .running)
  cur : Cur X.stack X.env.locals H1 Hg sc.heap s.heap s.heap
  w : W (N - n)
/-- for x in g(..): if test: B -/
def tForG (tg : TGq) (i : Nat) (tt : L2.St → Hp → Bool → Prop) (tb : TS) : TS := fun D σ H => ∃ (N : Nat) (Yl : List V → V → Hp → Prop) (Qe : List V → Hp → Prop) (K : Hp → Prop), tg σ H N Yl Qe K ∧ ∀ H1, K H1 → ∃ W : Nat → Prop, W 0 ∧
  (∀ ys x Hg, ys.length < N → Yl ys x Hg → W ys.length → ∃ b, tt (σ.set i (some x)) Hg b ∧ if b = true then tb { D with nx := fun _ _ => False, ct := fun _ _ => False, bk := D.nx } (σ.set i (some x)) Hg else W (ys.length + 1)) ∧
  ∀ ys Hg v, ys.length ≤ N → Qe ys Hg → W ys.length → D.nx (σ.set i v) Hg
theorem set_set {σ : L2.St} {i : Nat} {a b : Option V} : (σ.set i a).set i b = σ.set i b := by simp
theorem ps_forG {x : Str} {i : Nat} {px pos ipos : Pos} {iter test : Expr} {B : List Stmt} {tg : TGq} {tt : L2.St → Hp → Bool → Prop} {tb : TS} (hp : PassesOwn (model X.prog X.w) X.A X.env X.xe) (hr : Room (k + 1) X.A) (hF : X.env.locals ∈ frs X.stack) (hN : X.N.Nodup) (hi : X.N[i]? = some x) (hk : X.env.scope.names.lookup x = some .local)
    (hg : PGq X k iter tg) (ht : Et1 X test tt) (hb : PSs X B tb) (hs : ∀ x, foldedSetIterable iter X.env x = pure x := by intro _; rfl) :
    PS X (.For (.Name x px) iter [.If test B [] ipos] [] pos) (tForG tg i tt tb) := by
  refine ⟨fun pins s σ H D I h => ?_⟩
  obtain ⟨N, Yl, Qe, K, htg, hcon⟩ := h
  refine wpAny_For (thn (hg.run pins s σ H N Yl Qe K I htg) fun u s1 hx => ?_) hs
  obtain ⟨H1, sc, hK, Isc, born, young⟩ := hx
  obtain ⟨a, g, c, rfl, ha1, ha2, hisg, hgs, hos, hba, hlim, hkp, wake⟩ := born
  obtain ⟨W, w0, hstep, hfin⟩ := hcon H1 hK
  refine wpAny_pyIter_gen hisg ?_
  have I1 : Inv X pins σ H1 s1 := born_inv Isc hos hba hkp
  have HF1 : H1 X.env.locals = none := Isc.free
  obtain ⟨mF, hmF, _⟩ := id Isc.loc
  obtain ⟨oF, _, _, eF, _⟩ := id hmF
  have iz : i < σ.length := by rw [Isc.len]; exact (List.getElem?_eq_some_iff.mp hi).1
  have aF : a ≠ X.env.locals := by
    have := Heap.lt_size eF
    exact fun z => absurd (Nat.lt_of_lt_of_le this (z ▸ ha1)) (Nat.lt_irrefl _)
  obtain ⟨v0, hv0⟩ : ∃ v, σ.set i v = σ := ⟨σ[i], by simp⟩
  have hd : X.A.depth < recursionLimit := by have := hr.dp; omega
  refine codeAny_forLoop_any (fun n s' => ∃ v Hg gs, Ft X pins i σ H1 sc N Yl Qe a g W n v Hg gs s') (fun n s5 hbt => ?_) N ⟨v0, H1, .fresh c, Nat.le_refl _, by rw [hv0]; exact I1, hisg, hgs, ⟨rfl, ?_⟩, ⟨sc.heap, ⟨rfl, fun _ _ => rfl, eF.trans (hkp _ _ eF).symm⟩, Un.kept hkp⟩, by rw [Nat.sub_self]; exact w0⟩
  · obtain ⟨v, Hg, gs, b⟩ := hbt
    have hgl : g + 1 ≤ s5.gens.size := (Array.getElem?_eq_some_iff.mp b.at_).1
    refine wpAny_gsz hgl (next_genG (Er := fun _ _ => False) hr.hd b.inv.nolimit hd b.isg b.at_ b.go (fun v1 s6 gs' hbare hv => ?_) (fun s6 hp6 h' hk' => ?_) fun e s6 he' => he'.elim)
    · intro hsz
      obtain ⟨ys, xv, Hg', hn, rx, sn, hg1, hy, hk'⟩ := hv
      have I6 := turn_for hF Isc b.inv sn rfl b.cur
      have hlt : ys.length < N := by omega
      have I6' : Inv X pins (σ.set i v) Hg' (s6.setGen g gs') := born_inv I6 rfl (allBare_setGen sn.bare hbare) fun _ _ e => e
      cases n with
      | zero =>
        obtain ⟨m6, hm6, _⟩ := I6.loc
        exact (hk' s6 ⟨rfl, sn.bare, fun _ _ _ _ e => e, fun b hb => by simp at hb, m6, hm6⟩).elim
      | succ m =>
        have hm : m + 1 + ys.length = N := by simpa using hn
        have ew : N - (m + 1) = ys.length := by omega
        have wn : W ys.length := by have := b.w; rw [ew] at this; exact this
        obtain ⟨bb, htt, hbb⟩ := hstep ys xv Hg' hlt hy wn
        obtain ⟨o, nm, qn, ho, oc, od, osl⟩ := hg1
        refine go_of (s := s6.setGen g gs') ho oc od (by decide) ?_
        obtain ⟨m6, hm6, hl6⟩ := id I6'.loc
        have hcls : (X.env.scope.kind == .class || (X.env.scope.kind == .module && X.env.locals != X.env.globals)) = false := by rw [I6'.ok.kind]; rfl
        refine wpAny_assign_Name (wpAny_storeName_local hk hm6 (fun h' hn' sb => ?_) hcls)
        have I7 := named (tk := s6.toks + 1) I6' hN hi hk rx hm6 hl6 hn' sb
        rw [set_set] at I7
        refine wpAny_execs_cons (wpAny_If (ht.w pins _ Hg' _ bb I7 htt _ _ fun t => ?_))
        have I8 := I7.tok t
        by_cases cb : bb = true
        · subst cb
          rw [if_pos rfl] at hbb ⊢
          refine wpAny_passesOwn hp (thn (hb.run pins _ _ _ _ I8 hbb) fun f s9 q => ?_)
          cases f with
          | next => obtain ⟨_, _, _, z⟩ := q; exact z.elim
          | cont => obtain ⟨_, _, _, z⟩ := q; exact z.elim
          | brk => exact q
          | ret u => exact q
        · rw [if_neg cb] at hbb ⊢
          refine wpAny_execs_nil (wpAny_execs_nil ?_)
          have hsz1 : g < s6.gens.size := by
            have q : (s6.setGen g gs').gens.size = s6.gens.size := setGen_size _ _ _
            have hsz' : g + 1 ≤ (s6.setGen g gs').gens.size := hsz
            omega
          have kp1 : ∀ b o, b ≠ X.env.locals → s6.heap.get? b = some o → h'.get? b = some o := fun b o n e => (sb.2 b n).trans e
          refine ⟨m, Nat.lt_succ_self _, some xv, Hg', gs', by omega, I8, ⟨o, nm, qn, kp1 a o aF ho, oc, od, osl⟩, setGen_at hsz1, ?_, ?_, ?_⟩
          · exact hk' _ ⟨rfl, allBare_setGen (allBare_setGen sn.bare hbare) rfl, fun b o _ n e => kp1 b o n e, fun b hb => by simp at hb, _, hn'⟩
          · obtain ⟨oF', _, _, eF', _⟩ := hn'
            obtain ⟨oF5, _, _, eF5, _⟩ := b.inv.loc.choose_spec.1
            exact Cur.next (ch := []) (t := s5.heap) sn.un hF ⟨oF5, eF5⟩ HF1 (fun b hb => by simp at hb) (by simp) (fun b o _ n e => kp1 b o n e) ⟨oF', eF'⟩
          · have : N - m = ys.length + 1 := by omega
            rw [this]; exact hbb
    · intro hsz
      obtain ⟨ys, Hg', hn, sn, hQ⟩ := hp6
      have I6 := turn_for hF Isc b.inv sn rfl b.cur
      have ew : N - n = ys.length := by omega
      have wn : W ys.length := by have := b.w; rw [ew] at this; exact this
      exact wpAny_execs_nil ⟨_, _, born_inv I6 rfl (allBare_setGen sn.bare rfl) hk', hfin ys Hg' v (by omega) hQ wn⟩
  · refine seg_imp (fun n t r s' z => .inl z) (fun n t v s' kap kap' hkk hY => ?_) N (wake X.A.in1 X.env.locals [] (s1.setGen g .running) hr.in1 I.env0.1 hF (fun b hb => by simp at hb) (fun _ _ e => e) (fun b hb => by simp at hb) hos (allBare_setGen hba rfl))
    obtain ⟨ys, xv, H', q1, q2, q3, q4, q5, q6⟩ := hY
    exact ⟨ys, xv, H', q1, q2, q3, q4, q5, fun s'' z => hkk _ _ (q6 s'' z)⟩
end
end Gr

set_option autoImplicit false
set_option Elab.async false
set_option linter.all false
set_option maxRecDepth 100000
set_option maxHeartbeats 2000000
namespace Gr
open PySem PySem.Spec PyProof.Rows GenW L2
open AutoSeq1 (wpAny_loadPart')
open Gq (Stand Ge Tq SpQ Young TGq tCq born_inv Ex1 named)
theorem meets_enumerate_newG (a : Addr) (g : Nat) :
    Meets (Builtin.«enumerate.__new__» ⟨[.type "enumerate", .ref a], []⟩) (fun _ R s => s.heap.IsGen a g ∧
      R (.ok (.ret (.ref s.heap.objs.size)))
        { s with heap := s.heap.push { cls := .type "enumerate", data := .fields #[.none, .bool false, .ref a, rawInt 0, .none, .none] } }) :=
  .of_wp fun prog w A R s h => by
    obtain ⟨hp, g', d, tk, os⟩ := s; obtain ⟨hl, h⟩ := h
    have hsub := sub_enumerate
    wp_walk
    refine wpAny_stack_any fun st => wpAny_pure ?_
    split
    · rename_i c _ _ _ _ _
      cases (c == Value.type "enumerate")
      · wp_walk using wpAny_pyIter_gen hl
        exact ⟨_, rfl, h⟩
      · wp_walk using wpAny_pyIter_gen hl
        exact ⟨_, rfl, h⟩
    · wp_walk using wpAny_pyIter_gen hl
      exact ⟨_, rfl, h⟩
section
variable {prog : Program} {w : World} {A : Around} {E : Value → Shared → Prop} {s : Shared}
theorem call_enumerate_gen {a : Addr} {g : Nat} {Q : Value → Shared → Prop} (hL : s.heap.IsGen a g)
    (h : ∀ h', IsEnum h' s.heap.objs.size a 0 .none → h'.objs.size = s.heap.objs.size + 1 →
      (∀ b o, s.heap.get? b = some o → h'.get? b = some o) → Q (.ref s.heap.objs.size) { s with heap := h' }) :
    wpAny (model prog w) A (call (.type "enumerate") [.ref a]) Q E s := by
  refine callType_new F.called_enumerate (by decide) (F.typeCall_enumerate_1 _) (F.newCall_enumerate_1 _) (fun obj => F.args_object_init_2 obj _) F.entry_enumerate_new
    (meets_enumerate_newG a g) ⟨hL, ?_⟩
  show _ ∧ _
  have he : IsEnum (s.heap.push { cls := .type "enumerate", data := .fields #[.none, .bool false, .ref a, rawInt 0, .none, .none] }) s.heap.objs.size a 0 .none := Heap.get?_push_size _ rfl
  exact ⟨⟨_, he, rfl⟩, h _ he (by rw [Heap.size_push]) fun b o x => Heap.get?_push_of_some _ x⟩
theorem enumerate_next_any {e it : Addr} {i : Nat} {old : Value} {Q : Value → Shared → Prop}
    (he : IsEnum s.heap e it i old)
    (hn : wpAny (model prog w) A (Builtin.SmallTypes.nextOf (.ref it)) (fun x s1 => IsEnum s1.heap e it i old ∧ ∀ h', IsEnumOut h' e it ((i : Int) + 1) x s1.heap.objs.size →
      h'.get? s1.heap.objs.size = some { cls := .type "tuple", data := .seq #[.int i s1.toks, x] } → h'.objs.size = s1.heap.objs.size + 1 →
      (∀ b o, b ≠ e → s1.heap.get? b = some o → h'.get? b = some o) → Q (.ref s1.heap.objs.size) { s1 with heap := h', toks := s1.toks + 1 }) E s) :
    wpAny (model prog w) A (Builtin.«enumerate.__next__» ⟨[.ref e], []⟩) (fun fin s' => ∃ v, fin = .done (.ret v) ∧ Q v s') E s := by
  show wpAny _ _ (field (.ref e) 2 >>= _) _ _ _
  refine wpAny_bind (wpAny_field he rfl (x := .ref it) rfl ?_)
  refine wpAny_bind (wpAny_mono hn (fun x s1 hx => ?_) fun _ _ z => z)
  obtain ⟨he₁, hQ⟩ := hx
  obtain ⟨hp, g, d, tk, os⟩ := s1
  replace he₁ : IsEnum hp e it i old := he₁
  show wpAny _ _ (field (.ref e) 3 >>= _) _ _ ⟨hp, g, d, tk, os⟩
  refine wpAny_bind (wpAny_field he₁ rfl (x := rawInt i) rfl ?_)
  show wpAny _ _ (field (.ref e) 4 >>= _) _ _ ⟨hp, g, d, tk, os⟩
  refine wpAny_bind (wpAny_field he₁ rfl (x := .none) rfl ?_)
  show wpAny _ _ (mkInt i >>= _) _ _ ⟨hp, g, d, tk, os⟩
  refine wpAny_bind (wpAny_mkInt ?_)
  show wpAny _ _ (setField (.ref e) 3 (rawInt ((i : Int) + 1)) >>= _) _ _ ⟨hp, g, d, tk + 1, os⟩
  refine wpAny_bind (wpAny_setField_rec he₁ (by simp) fun h₂ he₂ hs₂ => ?_)
  replace hs₂ : Heap.SameBut e hp h₂ := hs₂
  replace he₂ : IsEnum h₂ e it ((i : Int) + 1) old := he₂
  show wpAny _ _ (setField (.ref e) 4 .none >>= _) _ _ ⟨h₂, g, d, tk + 1, os⟩
  refine wpAny_bind (wpAny_setField_rec he₂ (by simp) fun h₃ he₃ hs₃ => ?_)
  replace hs₃ : Heap.SameBut e h₂ h₃ := hs₃
  replace he₃ : IsEnum h₃ e it ((i : Int) + 1) old := he₃
  show wpAny _ _ (newTuple [.int i tk, x] >>= _) _ _ ⟨h₃, g, d, tk + 1, os⟩
  refine wpAny_bind (wpAny_newTuple ?_)
  have he₄ : IsEnum (h₃.push { cls := .type "tuple", data := .seq #[.int i tk, x] }) e it ((i : Int) + 1) old := Heap.get?_push_of_some _ he₃
  generalize hh₄ : h₃.push { cls := .type "tuple", data := .seq #[.int i tk, x] } = h₄ at he₄
  have hsz : h₃.objs.size = hp.objs.size := by rw [hs₃.1, hs₂.1]
  have hel : e < hp.objs.size := Heap.lt_size he₁
  have ht₄ : h₄.get? hp.objs.size = some { cls := .type "tuple", data := .seq #[.int i tk, x] } := by rw [← hh₄, ← hsz]; exact Heap.get?_push_size _ rfl
  have hz₄ : h₄.objs.size = hp.objs.size + 1 := by rw [← hh₄, Heap.size_push, hsz]
  have hk₄ : ∀ b o, b ≠ e → hp.get? b = some o → h₄.get? b = some o := fun b o hbe hb => by
    rw [← hh₄]; exact Heap.get?_push_of_some _ (hs₃.extBut b o hbe (hs₂.extBut b o hbe hb))
  show wpAny _ _ (Builtin.SmallTypes.ownedTupleIsFree (.ref e) >>= _) _ _ ⟨h₄, g, d, tk + 1, os⟩
  rw [hsz]
  clear hh₄ he₃ hs₃ he₂ hs₂ hsz h₃ h₂
  refine wpAny_bind ?_
  · unfold Builtin.SmallTypes.ownedTupleIsFree
    refine wpAny_bind (wpAny_field he₄ rfl (x := .none) rfl (wpAny_pure ?_))
    simp only [if_true]
    refine wpAny_bind (wpAny_rule ?_)
    refine wpAny_bind (wpAny_field he₄ rfl (x := old) rfl ?_)
    refine wpAny_bind (wpAny_setField_rec he₄ (by simp) fun h₅ he₅ hs₅ => ?_)
    replace hs₅ : Heap.SameBut e h₄ h₅ := hs₅
    replace he₅ : IsEnum h₅ e it ((i : Int) + 1) x := he₅
    show wpAny _ _ (Builtin.SmallTypes.ownedTupleHandOut (.ref e) (.ref hp.objs.size) >>= _) _ _ ⟨h₅, g, d, tk + 1, os⟩
    refine wpAny_bind ?_
    · unfold Builtin.SmallTypes.ownedTupleHandOut
      refine wpAny_bind (wpAny_setField_rec he₅ (by simp) fun h₆ he₆ hs₆ => ?_)
      replace hs₆ : Heap.SameBut e h₅ h₆ := hs₆
      replace he₆ : IsEnumOut h₆ e it ((i : Int) + 1) x hp.objs.size := he₆
      refine wpAny_setField_rec he₆ (by simp) fun h₇ he₇ hs₇ => ?_
      replace hs₇ : Heap.SameBut e h₆ h₇ := hs₇
      replace he₇ : IsEnumOut h₇ e it ((i : Int) + 1) x hp.objs.size := he₇
      refine wpAny_bind (wpAny_letGo (wpAny_pure ⟨_, rfl, hQ h₇ he₇ ?_ ?_ ?_⟩))
      · exact hs₇.extBut _ _ (Nat.ne_of_gt hel) (hs₆.extBut _ _ (Nat.ne_of_gt hel) (hs₅.extBut _ _ (Nat.ne_of_gt hel) ht₄))
      · rw [hs₇.1, hs₆.1, hs₅.1, hz₄]
      · exact fun b o hbe hb => hs₇.extBut b o hbe (hs₆.extBut b o hbe (hs₅.extBut b o hbe (hk₄ b o hbe hb)))
/-- next, by the slot, raising at the end -/
theorem nextOf_genG {a : Addr} {g n : Nat} {gs : GenState} {F : Nat → Shared → Shared → Prop} {Y : Protocol} {Q : Value → Shared → Prop} (hh : A.handled = none)
    (hl : s.heap.NoLimit) (hroom : A.depth < recursionLimit) (hg : s.heap.IsGen a g) (hgs : s.gens[g]? = some gs)
    (hgo : gs.Goes (model prog w) A.in1 (fun n s₀ r s₁ => ((r = .ok (.ret .none) ∨ r = .ok .next) ∧ F n s₀ s₁) ∨ ∃ e, r = .error e ∧ (fun (_ : Value) (_ : Shared) => False) e s₁) Y n (.send .none) (s.setGen g .running))
    (hY : ∀ v s₁ gs', gs'.bare = true → Y (n - 1) (s.setGen g .running) v s₁ (fun r' s'' => match n with
        | 0 => False
        | m + 1 => gs'.Goes (model prog w) A.in1 (fun n s₀ r s₁ => ((r = .ok (.ret .none) ∨ r = .ok .next) ∧ F n s₀ s₁) ∨ ∃ e, r = .error e ∧ (fun (_ : Value) (_ : Shared) => False) e s₁) Y m r' s'') → Q v (s₁.setGen g gs'))
    (hE : ∀ s₁, F n (s.setGen g .running) s₁ → ∀ h' e, (∀ b o, s₁.heap.get? b = some o → h'.get? b = some o) → (∃ o, h'.get? e = some o ∧ o.cls = .type "StopIteration") → E (.ref e) { s₁.setGen g .finished with heap := h' }) :
    wpAny (model prog w) A (Builtin.SmallTypes.nextOf (.ref a)) Q E s := by
  unfold Builtin.SmallTypes.nextOf
  refine wpAny_bind (wpAny_callSpecial?_slot (name := Str.ofString "__next__") hg.typeIs slot_gen_next
    (wpAny_call_entry slot_gen_next hg.typeIs entry_gen_next ?_ (args_gen_next _)))
  show wpAny _ A.in1 (Builtin.Generator.genWake (.ref a) (.send .none)) _ _ s
  unfold Builtin.Generator.genWake
  refine wpAny_bind (wpAny_holding (wpAny_genNumber hg (wpAny_bind (wpAny_genState hgs ?_))))
  cases gs with
  | running => exact hgo.elim
  | finished => exact hgo.elim
  | _ =>
    refine wpAny_bind (wpAny_roomToWake hl hroom ?_)
    show wpAny _ A.in1 (.resume g (.send .none) [] _) _ _ s
    refine wpAny_resumeQ hgs hgo (fun x s₁ hx => ?_) (fun v s₁ gs' hb hv => ?_)
    · rcases hx with ⟨hr, hp⟩ | ⟨e, rfl, he⟩
      · have hres : End.result (.ret x) = .returned .none := by
          rcases hr with hr | hr <;> rw [hr] <;> rfl
        first | rw [hres] | simp only [hres]
        show wpAny _ A.in1 (newExc (.type "StopIteration") [] >>= _) _ _ _
        refine wpAny_bind ?_
        simp only [newExc, newTuple]
        refine wpAny_bind (wpAny_newObj_type ?_ (by size_fits))
        refine wpAny_bind (m := firstArgMember _ _) (wpAny_of_eq (a := Value.none) (by first | rfl | (simp only [firstArgMember]; rfl)) ?_)
        refine wpAny_newObj_type ?_ (by size_fits)
        simp only [raiseNew]
        refine wpAny_bind (wpAny_bind (wpAny_handled ?_))
        first | rw [show A.in1.handled = none from hh] | rw [hh]
        refine wpAny_throw ?_
        exact hE s₁ hp _ _ (fun b o hb => Heap.get?_push_of_some _ (Heap.get?_push_of_some _ hb)) ⟨_, Heap.get?_push_size _ rfl, rfl⟩
      · exact he.elim
    · exact wpAny_pure ⟨v, rfl, wpAny_pure (hY v s₁ gs' hb hv)⟩
end
end Gr

set_option autoImplicit false
set_option Elab.async false
set_option linter.all false
set_option maxRecDepth 100000
set_option maxHeartbeats 2000000
namespace Gr
open PySem PySem.Spec PyProof.Rows GenW L2
open Gq (Stand Ge Tq SpQ Young TGq tCq born_inv Ex1 named)
section
variable {X : Cx} {k : Nat}
/-- before a turn: n items may come yet -/
structure Fe (X : Cx) (pins : List (Addr × Obj)) (j i : Nat) (σ : L2.St) (H1 : Hp) (sc : Shared) (N : Nat) (Yl : List V → V → Hp → Prop) (Q : List V → Hp → Prop) (a e : Addr) (g : Nat) (W : Nat → Prop) (n : Nat) (v1 v2 : Option V) (Hg : Hp) (gs : GenState) (s : Shared) : Prop where
  le : n ≤ N
  inv : Inv X pins ((σ.set j v1).set i v2) Hg s
  isg : s.heap.IsGen a g
  ise : ∃ old, IsEnum s.heap e a (((N - n : Nat) : Nat) : Int) old
  at_ : s.gens[g]? = some gs
  go : gs.Goes (model X.prog X.w) X.A.in1.in1 (R0 X.prog X.w X.stack H1 sc X.env.locals [e] N Q) (Item X.prog X.w X.stack H1 sc X.env.locals [e] N Yl a g) n (.send .none) (s.setGen g .running)
  cur : Cur X.stack X.env.locals H1 Hg sc.heap s.heap s.heap
  w : W (N - n)
def tForE (tg : TGq) (j i : Nat) (tt : L2.St → Hp → Bool → Prop) (tb : TS) : TS := fun D σ H => ∃ (N : Nat) (Yl : List V → V → Hp → Prop) (Qe : List V → Hp → Prop) (K : Hp → Prop), tg σ H N Yl Qe K ∧ ∀ H1, K H1 → ∃ W : Nat → Prop, W 0 ∧
  (∀ ys x Hg, ys.length < N → Yl ys x Hg → W ys.length → ∃ b, tt ((σ.set j (some (.int (ys.length : Int)))).set i (some x)) Hg b ∧ if b = true then tb { D with nx := fun _ _ => False, ct := fun _ _ => False, bk := D.nx } ((σ.set j (some (.int (ys.length : Int)))).set i (some x)) Hg else W (ys.length + 1)) ∧
  ∀ ys Hg v1 v2, ys.length ≤ N → Qe ys Hg → W ys.length → D.nx ((σ.set j v1).set i v2) Hg
theorem set4 {σ : L2.St} {i j : Nat} {a b c d : Option V} (h : i ≠ j) : ((((σ.set j a).set i b).set j c).set i d) = (σ.set j c).set i d := by
  rw [List.set_comm _ _ h, List.set_set, List.set_set]
theorem ps_forGE {xj xi : Str} {j i : Nat} {pj px p tpos cpos ipos pos : Pos} {kk : Nat} {iter test : Expr} {B : List Stmt} {tg : TGq} {tt : L2.St → Hp → Bool → Prop} {tb : TS} (hp : PassesOwn (model X.prog X.w) X.A X.env X.xe) (hr : Room (k + 2) X.A) (hF : X.env.locals ∈ frs X.stack) (hN : X.N.Nodup) (hj : X.N[j]? = some xj) (hkj : X.env.scope.names.lookup xj = some .local) (hi : X.N[i]? = some xi) (hki : X.env.scope.names.lookup xi = some .local)
    (hij : i ≠ j) (hgE : Gl X "enumerate") (hmE : X.mg "enumerate" = none) (hg : PGq X k iter tg) (ht : Et1 X test tt) (hb : PSs X B tb) (he : starEach [iter] X.env = (false, eval iter X.env) :: starEach [] X.env := by rfl) :
    PS X (.For (.Tuple [.Name xj pj, .Name xi px] kk tpos) (.Call (.Name "enumerate" p) [iter] [] cpos) [.If test B [] ipos] [] pos) (tForE tg j i tt tb) := by
  refine ⟨fun pins s σ H D I h => ?_⟩
  obtain ⟨N, Yl, Qe, K, htg, hcon⟩ := h
  refine wpAny_For (wpAny_Call_Name_kw (ld_blt I hgE hmE boot_enumerate (PyProof.Rows.callWith_type1 ?_ he rfl))) (fun _ => rfl)
  rw [he]
  show wpAny _ _ (spliced ((false, eval iter X.env) :: backTo cpos (starEach [] X.env))) _ _ s
  refine Calls.spliced_cons (thn (hg.run pins s σ H N Yl Qe K I htg) fun u s1 hx => ?_)
  obtain ⟨H1, sc, hK, Isc, born, young⟩ := hx
  obtain ⟨a, g, c, rfl, ha1, ha2, hisg, hgs, hos, hba, hlim, hkp, wake⟩ := born
  obtain ⟨W, w0, hstep, hfin⟩ := hcon H1 hK
  refine Calls.spliced_nil ?_
  refine call_enumerate_gen hisg fun h2 he2 hz2 hk2 => ?_
  generalize hE : s1.heap.objs.size = e at he2 hz2 ⊢
  refine wpAny_pyIter_enum (s := { s1 with heap := h2 }) he2 ?_
  have I1 : Inv X pins σ H1 s1 := born_inv Isc hos hba hkp
  have I2 : Inv X pins σ H1 { s1 with heap := h2 } := born_inv I1 rfl hba hk2
  have HF1 : H1 X.env.locals = none := Isc.free
  obtain ⟨mF, hmF, _⟩ := id Isc.loc
  obtain ⟨oF, _, _, eF, _⟩ := id hmF
  have iz : i < σ.length := by rw [Isc.len]; exact (List.getElem?_eq_some_iff.mp hi).1
  have jz : j < σ.length := by rw [Isc.len]; exact (List.getElem?_eq_some_iff.mp hj).1
  have sce : sc.heap.objs.size ≤ e := by rw [← hE]; exact Nat.le_of_lt (Nat.lt_of_le_of_lt ha1 ha2)
  have yng : ∀ {b : Addr} {o : Obj}, sc.heap.get? b = some o → b ≠ e := fun {b o} q => Nat.ne_of_lt (Nat.lt_of_lt_of_le (Heap.lt_size q) sce)
  have aF : a ≠ X.env.locals := by
    have := Heap.lt_size eF
    exact fun z => absurd (Nat.lt_of_lt_of_le this (z ▸ ha1)) (Nat.lt_irrefl _)
  have eL : e ≠ X.env.locals := (yng eF).symm
  have ae : a ≠ e := by rw [← hE]; exact Nat.ne_of_lt ha2
  have e0 : X.s_0.heap.objs.size ≤ e := Nat.le_trans Isc.sz sce
  have ecl : ∀ x c, X.env.cells.lookup x = some c → c ≠ e := fun x c q => by
    obtain ⟨v, o, ho, _⟩ := Isc.cell x c q
    exact yng ho
  have epn : ∀ p ∈ X.pn ++ pins, p.1 ≠ e := fun p hp => yng (Isc.pin p hp).1
  have sce0 : sc.heap.get? e = none := by
    cases q : sc.heap.get? e with
    | none => rfl
    | some o => exact absurd rfl (yng q)
  obtain ⟨v0, hv0⟩ : ∃ v : Option V × Option V, (σ.set j v.1).set i v.2 = σ := ⟨(σ[j], σ[i]), by simp⟩
  have hne : (i = j → False) → True := fun _ => trivial
  have hd : X.A.in1.depth < recursionLimit := by have := hr.dp; show X.A.depth < _; omega
  have stE : ∀ {s' : Shared} {idx : Int} {old : Value}, IsEnum s'.heap e a idx old → Stand [e] s' := fun {s' idx old} q b hb => by
    have z : b = e := by simpa using hb
    subst z
    exact ⟨_, q, fun v h => by cases h⟩
  have hh1 : X.A.in1.handled = none := hr.hd
  refine codeAny_forLoop_any (fun n s' => ∃ v1 v2 Hg gs, Fe X pins j i σ H1 sc N Yl Qe a e g W n v1 v2 Hg gs s') (fun n s5 hbt => ?_) N ⟨v0.1, v0.2, H1, .fresh c, Nat.le_refl _, by rw [hv0]; exact I2, hisg.keeps hk2, ⟨.none, by rw [Nat.sub_self]; exact he2⟩, hgs, ⟨rfl, ?_⟩, ⟨sc.heap, ⟨rfl, fun _ _ => rfl, eF.trans (hk2 _ _ (hkp _ _ eF)).symm⟩, Un.kept fun b o q => hk2 b o (hkp b o q)⟩, by rw [Nat.sub_self]; exact w0⟩
  · obtain ⟨v1, v2, Hg, gs, b⟩ := hbt
    have hgl : g + 1 ≤ s5.gens.size := (Array.getElem?_eq_some_iff.mp b.at_).1
    obtain ⟨old, hie⟩ := b.ise
    have hT : s5.TypeIs (.ref e) "enumerate" := ⟨_, hie, rfl⟩
    unfold pyNext
    refine wpAny_bind (wpAny_attempt (wpAny_callSpecial?_slot (name := Str.ofString "__next__") hT F.slot_enumerate_next
      (wpAny_call_entry F.slot_enumerate_next hT F.entry_enumerate_next ?_ (F.args_enumerate_next_1 _))))
    refine enumerate_next_any hie (wpAny_gsz hgl (nextOf_genG hh1 b.inv.nolimit hd b.isg b.at_ b.go (fun v3 s6 gs' hbare hv => ?_) fun s6 hp6 h' ee hk' hst => ?_))
    · intro hsz
      obtain ⟨ys, xv, Hg', hn, rx, sn, hg1, hy, hk'⟩ := hv
      have I6 := turn_for hF Isc b.inv sn rfl b.cur
      have hlt : ys.length < N := by omega
      obtain ⟨gE, oE, tE, s6E⟩ := sn.mine e (by simp)
      have tE : s5.heap.get? e = some oE := tE
      rw [hie] at tE
      cases tE
      refine ⟨s6E, fun h7 he7 ht7 hz7 hk7 => ?_⟩
      have I6' : Inv X pins ((σ.set j v1).set i v2) Hg' (s6.setGen g gs') := born_inv I6 rfl (allBare_setGen sn.bare hbare) fun _ _ e => e
      have I7 : Inv X pins ((σ.set j v1).set i v2) Hg' { s6.setGen g gs' with heap := h7, toks := s6.toks + 1 } := I6'.turned (it := e) (fun b o hb q => hk7 b o hb q) gE eL (.inr e0) ecl epn
      cases n with
      | zero =>
        obtain ⟨m6, hm6, _⟩ := I6.loc
        exact (hk' s6 ⟨rfl, sn.bare, fun _ _ _ _ e => e, stE s6E, m6, hm6⟩).elim
      | succ m =>
        have hm : m + 1 + ys.length = N := by simpa using hn
        have ew : N - (m + 1) = ys.length := by omega
        have wn : W ys.length := by have := b.w; rw [ew] at this; exact this
        obtain ⟨bb, htt, hbb⟩ := hstep ys xv Hg' hlt hy wn
        obtain ⟨o, nm, qn, ho, oc, od, osl⟩ := hg1
        have hsz6 : e < s6.heap.objs.size := Heap.lt_size s6E
        refine wpAny_pure ?_
        show wpAny _ _ (letOwnedTupleGo _ (.ref e) (.ref _)) _ _ _
        refine wpAny_letOwnedTupleGo_enum (s := { s6.setGen g gs' with heap := h7, toks := s6.toks + 1 }) he7 fun h8 he8 sb8 => ?_
        have I8 : Inv X pins ((σ.set j v1).set i v2) Hg' { s6.setGen g gs' with heap := h8, toks := s6.toks + 1 } := Inv.turned (s := { s6.setGen g gs' with heap := h7, toks := s6.toks + 1 }) (t' := s6.toks + 1) (it := e) I7 (fun b o hb q => (sb8.2 b hb).trans q) gE eL (.inr e0) ecl epn
        have hT8 : h8.IsTuple s6.heap.objs.size #[.int ((N - (m + 1) : Nat) : Int) s6.toks, v3] := ⟨_, (sb8.2 _ (Nat.ne_of_gt hsz6)).trans ht7, rfl, _, rfl⟩
        refine wpAny_assign_Tuple (s := { s6.setGen g gs' with heap := h8, toks := s6.toks + 1 }) hr.hd hT8 rfl rfl fun h9 hx9 => ?_
        replace hx9 : Heap.ExtBut h8.objs.size h8 h9 := hx9
        have k9 : ∀ b o, h8.get? b = some o → h9.get? b = some o := fun b o q => hx9 b o (Nat.ne_of_lt (Heap.lt_size q)) q
        have I9 : Inv X pins ((σ.set j v1).set i v2) Hg' { s6.setGen g gs' with heap := h9, toks := s6.toks + 1 } := I8.kept (t' := s6.toks + 1) k9
        show wpAny _ X.A (do holding [v3] (assign (.Name xj pj) X.env (.int ((N - (m + 1) : Nat) : Int) s6.toks)); do holding [] (assign (.Name xi px) X.env v3); pure ()) _ _ _
        obtain ⟨m9, hm9, hl9⟩ := id I9.loc
        have hcls : (X.env.scope.kind == .class || (X.env.scope.kind == .module && X.env.locals != X.env.globals)) = false := by rw [I9.ok.kind]; rfl
        refine wpAny_bind (wpAny_holding (wpAny_assign_Name (wpAny_storeName_local hkj hm9 (fun h10 hn10 sb10 => ?_) hcls)))
        have I10 := named (tk := s6.toks + 1 + 1) (v := .int (ys.length : Int)) I9 hN hj hkj ⟨s6.toks, by rw [ew]⟩ hm9 hl9 hn10 sb10
        obtain ⟨m10, hm10, hl10⟩ := id I10.loc
        refine wpAny_bind (wpAny_holding (wpAny_assign_Name (wpAny_storeName_local hki hm10 (fun h11 hn11 sb11 => wpAny_pure ?_) hcls)))
        have I11 := named (tk := s6.toks + 1 + 1 + 1) I10 hN hi hki rx hm10 hl10 hn11 sb11
        rw [set4 hij] at I11
        refine wpAny_execs_cons (wpAny_If (ht.w pins _ Hg' _ bb I11 htt _ _ fun t => ?_))
        have I12 := I11.tok t
        by_cases cb : bb = true
        · subst cb
          rw [if_pos rfl] at hbb ⊢
          refine wpAny_passesOwn hp (thn (hb.run pins _ _ _ _ I12 hbb) fun f s13 q => ?_)
          cases f with
          | next => obtain ⟨_, _, _, z⟩ := q; exact z.elim
          | cont => obtain ⟨_, _, _, z⟩ := q; exact z.elim
          | brk => exact q
          | ret u => exact q
        · rw [if_neg cb] at hbb ⊢
          refine wpAny_execs_nil (wpAny_execs_nil ?_)
          have hsz1 : g < s6.gens.size := by
            have q : (s6.setGen g gs').gens.size = s6.gens.size := setGen_size _ _ _
            have hsz' : g + 1 ≤ (s6.setGen g gs').gens.size := hsz
            omega
          have kp1 : ∀ b o, b ≠ e → b ≠ X.env.locals → s6.heap.get? b = some o → h11.get? b = some o := fun b o ne n q =>
            (sb11.2 b n).trans ((sb10.2 b n).trans (k9 b o ((sb8.2 b ne).trans (hk7 b o ne q))))
          have he11 : IsEnum h11 e a (((N - m : Nat) : Nat) : Int) v3 := by
            have q : IsEnum h11 e a (((N - (m + 1) : Nat) : Int) + 1) v3 := (sb11.2 e eL).trans ((sb10.2 e eL).trans (k9 e _ he8))
            have z : (((N - (m + 1) : Nat) : Int) + 1) = ((N - m : Nat) : Int) := by omega
            rw [z] at q
            exact q
          refine ⟨m, Nat.lt_succ_self _, _, some xv, Hg', gs', by omega, I12, ⟨o, nm, qn, kp1 a o ae aF ho, oc, od, osl⟩, ⟨v3, he11⟩, setGen_at hsz1, ?_, ?_, ?_⟩
          · exact hk' _ ⟨rfl, allBare_setGen (allBare_setGen sn.bare hbare) rfl, fun b o nb n q => kp1 b o (fun z => nb (by simp [z])) n q, stE he11, _, hn11⟩
          · obtain ⟨oF', _, _, eF', _⟩ := hn11
            obtain ⟨oF5, _, _, eF5, _⟩ := b.inv.loc.choose_spec.1
            exact Cur.next (ch := [e]) (t := s5.heap) sn.un hF ⟨oF5, eF5⟩ HF1 (fun b hb => by rw [show b = e by simpa using hb]; exact sce0) (by simpa using fun z => eL z.symm) (fun b o nb n q => kp1 b o (fun z => nb (by simp [z])) n q) ⟨oF', eF'⟩
          · have : N - m = ys.length + 1 := by omega
            rw [this]; exact hbb
    · intro hsz
      obtain ⟨ys, Hg', hn, sn, hQ⟩ := hp6
      have I6 := turn_for hF Isc b.inv sn rfl b.cur
      have ew : N - n = ys.length := by omega
      have wn : W ys.length := by have := b.w; rw [ew] at this; exact this
      obtain ⟨oS, hoS, hcS⟩ := hst
      refine wpAny_bind (wpAny_isInstance (T := "StopIteration") (b := true) ⟨oS, hoS, hcS⟩ isSubtype_stop ?_)
      exact wpAny_pure (wpAny_execs_nil ⟨_, _, born_inv I6 rfl (allBare_setGen sn.bare rfl) hk', hfin ys Hg' v1 v2 (by omega) hQ wn⟩)
  · refine seg_imp (fun n t r s' z => .inl z) (fun n t v s' kap kap' hkk hY => ?_) N (wake X.A.in1.in1 X.env.locals [e] ({ s1 with heap := h2 }.setGen g .running) ⟨hr.hd, ?_, ?_⟩ I.env0.1 hF (fun b hb => by rw [show b = e by simpa using hb, ← hE]; exact Nat.le_refl _) hk2 (stE he2) hos (allBare_setGen hba rfl))
    · obtain ⟨ys, xv, H', q1, q2, q3, q4, q5, q6⟩ := hY
      exact ⟨ys, xv, H', q1, q2, q3, q4, q5, fun s'' z => hkk _ _ (q6 s'' z)⟩
    · have := hr.dp
      show X.A.depth + 3 * k + 5 < recursionLimit
      omega
    · have := hr.un
      show X.A.units + 1 + 1 + 16 * k + 200 < cLine
      omega
end
end Gr

set_option Elab.async false
set_option linter.all false
set_option maxRecDepth 100000
set_option maxHeartbeats 2000000
namespace Dk
open PySem PySem.Spec PyProof.Rows L2 TL
/-- nobody waits after tick m and the house is not open -/
def smAt (h : Hd) (m : Nat) : Prop := (stt h (m + 1)).wait = [] ∧ (stt h (m + 1)).opn = false
def IsSm (h : Hd) : Prop := ∀ m, smAt h m
theorem sm_rep {h : Hd} (hT : Tabs h.ts) {n : Nat} (r : IsRep h n) (hn : n ≤ 196608) (e : ∀ j, j ≤ n → smAt h j) : IsSm h := fun m => by
  obtain ⟨b, cy⟩ := cyc_of r hn
  by_cases c : b ≤ m
  · have := stt_near2 hT cy c
    have hm := Nat.mod_lt (m - b) (show 0 < n - b by have := cy.lt; omega)
    have q := e (b + (m - b) % (n - b)) (by have := cy.lt; omega)
    unfold smAt at q ⊢
    rw [← this]; exact q
  · exact e m (by have := cy.lt; omega)
def spSmooth (K : PySem.W.Frag) (CH : Addr) : Sp := fun vs H Q _ => ∃ (hp : Addr) (h : Hd), vs = [.ref hp] ∧ HoAt K CH H hp h ∧ Tabs h.ts ∧ h.ts.length ≤ 6 ∧
  ∀ (H' : Hp) (b : Bool), Same H H' → (b = true ↔ IsSm h) → Q (.bl b) H'
structure TxtSm (K : PySem.W.Frag) (mg : Str → Option Value) (fSm fSo : Addr) (fdSm fdSo : FuncData) : Prop where
  gSm : mg "is_smooth" = some (.ref fSm)
  FSm : Fun K "is_smooth" "is_smooth" sSmooth fSm fdSm
  bSm : Binds K fdSm ["house"] []
  gSo : mg "scenes_of" = some (.ref fSo)
  FSo : Fun K "scenes_of" "scenes_of" sScenes fSo fdSo
  bSo : Binds K fdSo ["house"] []
  wtr : ∃ t, mg "WAITERS" = some (.int 1 t)
  unl : ∃ t, mg "UNLOCKED" = some (.int 3 t)
abbrev nSmooth : List Str := ["house", "scene"]
def smIx (K : PySem.W.Frag) (s : Nat) (c : Int) : L2.St → Hp → Bool → Prop := fun σ H b => ∃ x, (∃ q ys i, σ[s]? = some (some (.ref q)) ∧ (V.int i) = (V.int c) ∧ SqT K H q ys ∧ atI ys i = some x) ∧ ((∃ p xs, x = .ref p ∧ SqT K H p xs ∧ b = !xs.isEmpty) ∨ x = .bl b)
theorem sm_ix {X : Cx} {s : Nat} {c : Int} {x2 x3 : Str} {p2 p3 p4 : Pos} {t : Tok} (hN2 : X.N[s]? = some x2) (hv2 : Vis X.env.scope x2) (hg : Gl X x3) (ew : X.mg x3 = some (.int c t)) (h3 : (x2 == ("__debug__" : Str)) = false := by decide) (h4 : (x2 == ("__classdict__" : Str)) = false := by decide) (h5 : (x3 == ("__debug__" : Str)) = false := by decide) :
    Gr.Et1 X (.Subscript (.Name x2 p2) (.Name x3 p3) p4) (smIx X.K s c) :=
  Gr.et_tup rfl (Gq.ex_ixT rfl (Gq.ex_var (i := s) hN2 hv2 h3 h4) (Gq.ex_glob (v := .int c) hg ew ⟨_, rfl⟩ h5) (fun _ _ => rfl)) (fun _ => rfl)
section
variable {P : Program} {w : World} {K : PySem.W.Frag} {mg : Str → Option Value} {base : Heap} {CC CH fCi fAd fSn : Addr} {fdCi fdAd fdSn : FuncData} {fSo fSm : Addr} {fdSo fdSm : FuncData}
theorem scSmooth : FnScope nSmooth ["house"] (defScope sSmooth) := ⟨rfl, rfl, rfl, by decide +kernel, rfl, by decide +kernel, by decide +kernel⟩
theorem ok_smooth (SM : TxtSm K mg fSm fSo fdSm fdSo) (Z : TxtSc P w K mg base CC CH fCi fAd fSn fdCi fdAd fdSn) : FnOk P w K mg base CX0 9 fSm fdSm ["house"] (spSmooth K CH) := by
  have GD : Gr.GdOk P w K mg base 6 fSo fdSo ["house"] (spScQ K CH) := gdr_scenes SM.FSo Z
  obtain ⟨tw, ew⟩ := SM.wtr
  obtain ⟨tu, eu⟩ := SM.unl
  refine SM.FSm.ok scSmooth (fun vs H Q E h => ?_) (fun cdv A outer s H vs Q E hr h => ?_)
  · obtain ⟨hp, h, rfl, _⟩ := h
    rfl
  · obtain ⟨hp, h, rfl, hho, hT, h6, k⟩ := h
    have hr6 : Room 6 (A.deeper (envOfC (Str.ofString "is_smooth") (defScope sSmooth) s.heap.objs.size fSm cdv)) := hr.mono (by decide)
    have hr8 : Room 7 (A.deeper (envOfC (Str.ofString "is_smooth") (defScope sSmooth) s.heap.objs.size fSm cdv)) := hr.mono (by decide)
    refine ⟨_, pss_cons (Gr.ps_forG (k := 6) PassesOwn.never hr8 List.mem_cons_self scSmooth.nd (i := 1) rfl rfl (Gr.pgq_call GD hr6 (by rfl) SM.gSo SM.FSo.kp SM.bSo (pa_cons (pv 0) pa_nil)) (Gr.Ew1.t (Gr.ew_or (sm_ix (s := 1) (c := 1) rfl (.inl rfl) (by rfl) ew) (Gr.ew_or1 (sm_ix (s := 1) (c := 3) rfl (.inl rfl) (by rfl) eu))))
        (pss_one (ps_ret pe_bl)))
      (pss_one (ps_ret pe_bl)), ?_⟩
    refine ⟨200000, fun ys x Hg => ∃ a, x = .ref a ∧ Same H Hg ∧ ys.length ≤ 196608 ∧ ScAt Hg a (scn h ys.length), fun ys Hg => ∃ n, ys.length = n + 1 ∧ Same H Hg ∧ IsRep h n ∧ n ≤ 196608, fun H1 => H1 = H, ⟨_, rfl, rfl, hp, h, rfl, hho, hT, h6, rfl, fun H' ys a n s hn hs sc => ?_, fun H' ys n s hr hn hs => ?_⟩, fun H1 e => ?_⟩
    · have := hs.len
      rw [List.length_range] at this
      exact ⟨a, rfl, s, by omega, by rw [this]; exact sc⟩
    · have := hs.len
      rw [List.length_range] at this
      exact ⟨n, this, s, hr, hn⟩
    · subst e
      refine ⟨fun n => ∀ j, j < n → smAt h j, fun j hj => absurd hj (Nat.not_lt_zero j), fun ys x Hg hlt hy hw => ?_, fun ys Hg v hle hq hw => ?_⟩
      · obtain ⟨a, rfl, s, hn, b, d, e1, e2, e3⟩ := hy
        refine ⟨!((stt h (ys.length + 1)).wait.map V.int).isEmpty || (stt h (ys.length + 1)).opn, ⟨!((stt h (ys.length + 1)).wait.map V.int).isEmpty, ⟨_, ⟨a, _, 1, rfl, rfl, SqT.of e1, rfl⟩, .inl ⟨b, _, rfl, SqT.of e2, rfl⟩⟩, ?_⟩, ?_⟩
        · cases q : (stt h (ys.length + 1)).wait with
          | nil => exact iteF ⟨_, ⟨a, _, 3, rfl, rfl, SqT.of e1, rfl⟩, .inr rfl⟩
          | cons x0 r => exact iteT rfl
        · cases q : (stt h (ys.length + 1)).wait with
          | nil =>
            cases z : (stt h (ys.length + 1)).opn with
            | false =>
              refine iteF fun j hj => ?_
              by_cases c : j = ys.length
              · rw [c]; exact ⟨q, z⟩
              · exact hw j (by omega)
            | true =>
              refine iteT (k _ false s ⟨(fun c => by cases c), fun c => ?_⟩)
              have := (c ys.length).2
              rw [z] at this; cases this
          | cons x0 r =>
            refine iteT (k _ false s ⟨(fun c => by cases c), fun c => ?_⟩)
            have := (c ys.length).1
            rw [q] at this; cases this
      · obtain ⟨n, en, s, rp, hn⟩ := hq
        exact k _ true s ⟨fun _ => sm_rep hT rp hn fun j hj => hw j (by omega), fun _ => rfl⟩
end
end Dk

set_option Elab.async false
set_option linter.all false
set_option maxRecDepth 100000
set_option maxHeartbeats 4000000
namespace Dk
open PySem PySem.Spec PyProof.Rows L2 TL
def withKeys (h : Hd) (k : Nat) : Hd := ⟨h.ts, (k : Int), h.cs, h.rs⟩
def spLeastK (K : PySem.W.Frag) (CH : Addr) : Sp := fun vs H Q _ => ∃ (hp : Addr) (h : Hd), vs = [.ref hp] ∧ HoAt K CH H hp h ∧ Parts h.ts h.ks h.cs h.rs ∧
  (∀ (H' : Hp) (k : Nat), Same H H' → k ≤ 9 → IsSm (withKeys h k) → (∀ j, j < k → ¬ IsSm (withKeys h j)) → Q (.int (k : Int)) H') ∧
  ∀ (H' : Hp), Same H H' → (∀ j, j ≤ 9 → ¬ IsSm (withKeys h j)) → Q .non H'
structure TxtLk (K : PySem.W.Frag) (mg : Str → Option Value) (fLk : Addr) (fdLk : FuncData) : Prop where
  most : ∃ t, mg "MOST_KEYS" = some (.int 9 t)
section
variable {P : Program} {w : World} {K : PySem.W.Frag} {mg : Str → Option Value} {base : Heap} {CC CH fCi fAd fSn : Addr} {fdCi fdAd fdSn : FuncData} {fSo fSm : Addr} {fdSo fdSm : FuncData} {C fI : Addr} {fdI : FuncData} {fII fIB fHO : Addr} {fdII fdIB fdHO : FuncData} {fIT fIR fAs : Addr} {fdIT fdIR fdAs : FuncData}
  {fP fT fK fC fR : Addr} {fdP fdT fdK fdC fdR : FuncData} {fH : Addr} {fdH : FuncData} {dvs : List V} {fLk : Addr} {fdLk : FuncData} {fHL : Addr} {fdHL : FuncData}
/-- a house made of parts that are valid -/
theorem init_ok {H : Hp} {Q : Addr → Hp → Prop} {E : XK} {ts : List Str} {kk : Int} {cs : List Int} {rs : List Pr} {aT aC aR : Addr} {xs : List V} {CI : Addr} (hp : Parts ts kk cs rs) (e2 : SqT K H aT (ts.map V.str)) (e3 : SqT K H aC (cs.map V.int)) (e4 : SqT K H aR xs) (e5 : Prs H xs rs)
    (k : ∀ (H' : Hp) (p : Addr), Same H H' → H p = none → HouseAt K CH H' p ts kk cs rs → Q p H') :
    ∀ (p dx : Addr), H p = none → H dx = none → dx ≠ p → spInit K CH CI [.ref p, .ref aT, .int kk, .ref aC, .ref aR] (upd (upd H dx (.own p)) p (.ins CH dx [])) (fun v H' => v = .non ∧ Q p H') E := by
  intro p dx hpn hdx npd
  have sN : Same H (upd (upd H dx (.own p)) p (.ins CH dx [])) := fun b o e => by
    rw [upd_ne (ne_of_none e hpn), upd_ne (ne_of_none e hdx)]; exact e
  refine ⟨p, dx, .ref aT, .int kk, .ref aC, .ref aR, dStrs ts, .int kk, dInts cs, dPrs rs, rfl,
      dpSame sN _ _ (.tup e2 (dpAll_strs ts)), .int _, dpSame sN _ _ (.tup e3 (dpAll_ints _)), dpSame sN _ _ (.tup e4 (dpAll_prs e5)), ?_, upd_same, fun hc H7 k7 e7 => ⟨rfl, ?_⟩, fun part i hc => ?_⟩
  · intro ds hds y hy
    cases hds
    obtain ⟨t, ht, rfl⟩ := List.mem_map.mp hy
    show t.length ≤ 100000
    have := (hp.tabs t ht).pos.2
    rw [len_tl t]; omega
  · have s7 : Same H H7 := fun b o e => k7 b o (ne_of_none e hpn) (sN _ _ e)
    exact k H7 p s7 hpn ⟨⟨dx, aT, aC, aR, xs, e7, sSqT s7 e2, sSqT s7 e3, sSqT s7 e4, e5.mono fun t ys h => s7 _ _ h⟩⟩
  · rw [parts_is hp] at hc; cases hc
end
end Dk

set_option Elab.async false
set_option linter.all false
set_option maxRecDepth 100000
set_option maxHeartbeats 2000000
namespace Dk
open PySem PySem.Spec PyProof.Rows L2 TL
section
variable {K : PySem.W.Frag} {H1 : Hp} {D : Addr} {σ : L2.St} {i : Nat} {vs : List Nat} {tt : TT} {te : TE} {Qd : Hp → Prop} {keep : Nat → Bool} {Res : Hp → Nat → V → Prop}
theorem comp_listL {l : Addr} {xs : List V} (hD : H1 D = none) (hl : SqL K H1 l xs) (hz : xs.length ≤ 1000000) (keep : Nat → Bool) (Res : Hp → Nat → V → Prop) (hm : ∀ H H' k v, Kp D H H' → Res H k v → Res H' k v)
    (ht : ∀ k x H2 Qb, xs[k]? = some x → Same H1 H2 → (∃ zs, H2 D = some (.lst zs)) → (∀ H3, Same H2 H3 → Qb (keep k) H3) → tt ((wipe σ vs).set i (some x)) H2 Qb)
    (he : ∀ k x H2 Q, xs[k]? = some x → keep k = true → Same H1 H2 → (∃ zs, H2 D = some (.lst zs)) → (∀ H3 y, Same H2 H3 → Res H3 k y → Q y H3) → te ((wipe σ vs).set i (some x)) H2 Q)
    (hw : ∀ x : V, wipe ((wipe σ vs).set i (some x)) vs = wipe σ vs)
    (hd : ∀ H2 ys, Same H1 H2 → H2 D = some (.lst ys) → Paired (fun k y => Res H2 k y) ((List.range xs.length).filter keep) ys → Qd H2) :
    ∃ W : Nat → Nat → Hp → Prop, (∃ m, W 0 m (upd H1 D (.lst []))) ∧ ∀ i' m H, W i' m H →
      ((Itl K l).stop i' H ∧ Qd H) ∨ ((Itl K l).go i' H ∧ ∃ Nx : Hp → Prop, (∀ H', Nx H' → ∃ m', m' < m ∧ W (i' + 1) m' H') ∧ ∀ x H', (Itl K l).yld i' H x H' → gName i x (wipe σ vs) H' fun σ2 H2 => wipe σ2 vs = wipe σ vs ∧ tt σ2 H2 fun b H3 =>
        if b = true then te σ2 H3 fun y H4 => ∃ acc, H4 D = some (.lst acc) ∧ acc.length < sizeLine ∧ Nx (upd H4 D (.lst (acc ++ [y]))) else Nx H3) := by
  refine lc_list (K := K) (a := l) (xs := xs) (g := gName i) (tt := tt) (te := te) (vs := vs) (σ := σ) (Qd := Qd)
    (fun i H3 => Same H1 H3 ∧ ∃ ys, H3 D = some (.lst ys) ∧ Paired (fun k y => Res H3 k y) ((List.range i).filter keep) ys) ⟨same_upd hD, [], upd_same, .nil⟩ (fun i H3 _ ⟨e, _⟩ => e.seq hl) ?_ ?_
  · rintro j x H3 hj ⟨s3, ys, eD, hp⟩
    have hj' : j < xs.length := (List.getElem?_eq_some_iff.mp hj).1
    refine ⟨hw _, ht j x H3 _ hj s3 ⟨_, eD⟩ fun H4 s4 => ?_⟩
    have nD : ∀ b o, H1 b = some o → b ≠ D := fun b o e z => by rw [z, hD] at e; cases e
    have eD4 := s4 _ _ eD
    by_cases c : keep j = true
    · rw [if_pos c]
      refine he j x H4 _ hj c (s3.trans s4) ⟨_, eD4⟩ fun H5 y s5 hy => ⟨ys, s5 _ _ eD4, ?_, fun b o e => ?_, ys ++ [y], upd_same, ?_⟩
      · rw [← pair_len hp]
        have := List.length_filter_le keep (List.range j)
        rw [List.length_range] at this
        exact Nat.lt_of_le_of_lt (by omega : _ ≤ 1000000) (by decide)
      · rw [upd_ne (nD _ _ e)]; exact (s3.trans (s4.trans s5)) _ _ e
      · have k6 : Kp D H5 (upd H5 D (.lst (ys ++ [y]))) := fun b o n e => by rw [upd_ne n]; exact e
        rw [filt_succ, if_pos c]
        exact pair_snoc (pair_imp (fun k v r => hm _ _ k v ((sKp (s4.trans s5)).trans k6) r) hp) (hm _ _ _ _ k6 hy)
    · rw [if_neg c]
      refine ⟨s3.trans s4, ys, eD4, ?_⟩
      rw [filt_succ, if_neg c, List.append_nil]
      exact pair_imp (fun k v r => hm _ _ k v (sKp s4) r) hp
  · rintro H3 ⟨s3, ys, eD, hp⟩
    exact hd H3 ys s3 eD hp
theorem comp_tupL {l : Addr} {xs : List V} (hD : H1 D = none) (hl : SqT K H1 l xs) (hz : xs.length ≤ 1000000) (keep : Nat → Bool) (Res : Hp → Nat → V → Prop) (hm : ∀ H H' k v, Kp D H H' → Res H k v → Res H' k v)
    (ht : ∀ k x H2 Qb, xs[k]? = some x → Same H1 H2 → (∃ zs, H2 D = some (.lst zs)) → (∀ H3, Same H2 H3 → Qb (keep k) H3) → tt ((wipe σ vs).set i (some x)) H2 Qb)
    (he : ∀ k x H2 Q, xs[k]? = some x → keep k = true → Same H1 H2 → (∃ zs, H2 D = some (.lst zs)) → (∀ H3 y, Same H2 H3 → Res H3 k y → Q y H3) → te ((wipe σ vs).set i (some x)) H2 Q)
    (hw : ∀ x : V, wipe ((wipe σ vs).set i (some x)) vs = wipe σ vs)
    (hd : ∀ H2 ys, Same H1 H2 → H2 D = some (.lst ys) → Paired (fun k y => Res H2 k y) ((List.range xs.length).filter keep) ys → Qd H2) :
    ∃ W : Nat → Nat → Hp → Prop, (∃ m, W 0 m (upd H1 D (.lst []))) ∧ ∀ i' m H, W i' m H →
      ((Itt K l).stop i' H ∧ Qd H) ∨ ((Itt K l).go i' H ∧ ∃ Nx : Hp → Prop, (∀ H', Nx H' → ∃ m', m' < m ∧ W (i' + 1) m' H') ∧ ∀ x H', (Itt K l).yld i' H x H' → gName i x (wipe σ vs) H' fun σ2 H2 => wipe σ2 vs = wipe σ vs ∧ tt σ2 H2 fun b H3 =>
        if b = true then te σ2 H3 fun y H4 => ∃ acc, H4 D = some (.lst acc) ∧ acc.length < sizeLine ∧ Nx (upd H4 D (.lst (acc ++ [y]))) else Nx H3) := by
  refine lc_tup (K := K) (a := l) (xs := xs) (g := gName i) (tt := tt) (te := te) (vs := vs) (σ := σ) (Qd := Qd)
    (fun i H3 => Same H1 H3 ∧ ∃ ys, H3 D = some (.lst ys) ∧ Paired (fun k y => Res H3 k y) ((List.range i).filter keep) ys) ⟨same_upd hD, [], upd_same, .nil⟩ (fun i H3 _ ⟨e, _⟩ => sSqT e hl) ?_ ?_
  · rintro j x H3 hj ⟨s3, ys, eD, hp⟩
    have hj' : j < xs.length := (List.getElem?_eq_some_iff.mp hj).1
    refine ⟨hw _, ht j x H3 _ hj s3 ⟨_, eD⟩ fun H4 s4 => ?_⟩
    have nD : ∀ b o, H1 b = some o → b ≠ D := fun b o e z => by rw [z, hD] at e; cases e
    have eD4 := s4 _ _ eD
    by_cases c : keep j = true
    · rw [if_pos c]
      refine he j x H4 _ hj c (s3.trans s4) ⟨_, eD4⟩ fun H5 y s5 hy => ⟨ys, s5 _ _ eD4, ?_, fun b o e => ?_, ys ++ [y], upd_same, ?_⟩
      · rw [← pair_len hp]
        have := List.length_filter_le keep (List.range j)
        rw [List.length_range] at this
        exact Nat.lt_of_le_of_lt (by omega : _ ≤ 1000000) (by decide)
      · rw [upd_ne (nD _ _ e)]; exact (s3.trans (s4.trans s5)) _ _ e
      · have k6 : Kp D H5 (upd H5 D (.lst (ys ++ [y]))) := fun b o n e => by rw [upd_ne n]; exact e
        rw [filt_succ, if_pos c]
        exact pair_snoc (pair_imp (fun k v r => hm _ _ k v ((sKp (s4.trans s5)).trans k6) r) hp) (hm _ _ _ _ k6 hy)
    · rw [if_neg c]
      refine ⟨s3.trans s4, ys, eD4, ?_⟩
      rw [filt_succ, if_neg c, List.append_nil]
      exact pair_imp (fun k v r => hm _ _ k v (sKp s4) r) hp
  · rintro H3 ⟨s3, ys, eD, hp⟩
    exact hd H3 ys s3 eD hp
end
end Dk

set_option Elab.async false
set_option linter.all false
set_option maxRecDepth 100000
set_option maxHeartbeats 2000000
namespace Dk
open PySem PySem.Spec PyProof.Rows L2 TL
/-- rows of persons that stand in a list -/
def RowsAt (H : Hp) (rw : Addr) (W : Nat → List Int) (N : Nat) : Prop := ∃ xs, H rw = some (.lst xs) ∧ xs.length = N ∧ ∀ i, i < N → ∃ a, xs[i]? = some (.ref a) ∧ H a = some (.tup ((W i).map V.int))
theorem RowsAt.mono {H H' : Hp} {rw : Addr} {W : Nat → List Int} {N : Nat} (x : RowsAt H rw W N) (s : Same H H') : RowsAt H' rw W N := by
  obtain ⟨xs, e, l, q⟩ := x
  exact ⟨xs, s _ _ e, l, fun i hi => by
    obtain ⟨a, e1, e2⟩ := q i hi
    exact ⟨a, e1, s _ _ e2⟩⟩
/-- how many rows from a on have p -/
structure IsRun (W : Nat → List Int) (N : Nat) (p : Int) (a r : Nat) : Prop where
  le : a + r ≤ N
  has : ∀ k, k < r → p ∈ W (a + k)
  stop : a + r = N ∨ p ∉ W (a + r)
def spCntS : Sp := fun vs H Q _ => ∃ (rw : Addr) (W : Nat → List Int) (N : Nat) (p : Int) (a : Nat), vs = [.ref rw, .int p, .int (a : Int)] ∧ RowsAt H rw W N ∧ N ≤ 1000000 ∧ a ≤ N ∧
  ∀ (H' : Hp) (r : Nat), Same H H' → IsRun W N p a r → Q (.int (r : Int)) H'
abbrev nCntS : List Str := ["rows", "person", "first", "tick"]
section
variable {P : Program} {w : World} {K : PySem.W.Frag} {mg : Str → Option Value} {base : Heap}
end
end Dk

set_option Elab.async false
set_option linter.all false
set_option maxRecDepth 100000
set_option maxHeartbeats 4000000
namespace Dk
open PySem PySem.Spec PyProof.Rows L2 TL
/-- the turns of a walk, whatever each turn asks -/
theorem walk_by {J : It} {n : Nat} {G : Hp → Prop} {Y : Nat → Hp → V → Hp → Prop} (w : Walk J n G Y) {H0 : Hp} {Qd : Hp → Prop} {B : (Hp → Prop) → V → Hp → Prop} (Pv : Nat → Hp → Prop) (h0 : Pv 0 H0) (hG : ∀ i H, i ≤ n → Pv i H → G H)
    (hs : ∀ i x H H', i < n → Pv i H → Y i H x H' → B (Pv (i + 1)) x H') (hd : ∀ H, Pv n H → Qd H) :
    ∃ W : Nat → Nat → Hp → Prop, (∃ m, W 0 m H0) ∧ ∀ i m H, W i m H → (J.stop i H ∧ Qd H) ∨ (J.go i H ∧ ∃ Nx : Hp → Prop, (∀ H', Nx H' → ∃ m', m' < m ∧ W (i + 1) m' H') ∧ ∀ x H', J.yld i H x H' → B Nx x H') := by
  refine ⟨fun i m H => m = n - i ∧ i ≤ n ∧ Pv i H, ⟨n, by simp, Nat.zero_le _, h0⟩, ?_⟩
  rintro i m H ⟨rfl, hi, p⟩
  have q := hG i H hi p
  by_cases hlt : i < n
  · exact .inr ⟨w.goes i H hlt q, Pv (i + 1), fun H' p' => ⟨n - (i + 1), by omega, rfl, hlt, p'⟩, fun x H' y => hs i x H H' hlt p (w.yields i H x H' hlt q y)⟩
  · have e : i = n := by omega
    subst e
    exact .inl ⟨w.stops H q, hd H p⟩
/-- the waits that begin at ticks 1 to n, by tick and person -/
def begI (W : Nat → List Int) (i : Nat) (l : List Int) : List (Int × Nat) := (l.filter fun p => !decide (p ∈ W i)).map fun p => (p, i + 1)
def begs (W : Nat → List Int) (n : Nat) : List (Int × Nat) := (List.range n).flatMap fun i => begI W i (W (i + 1))
theorem begs_succ (W : Nat → List Int) (n : Nat) : begs W (n + 1) = begs W n ++ begI W n (W (n + 1)) := by
  unfold begs
  rw [List.range_succ, List.flatMap_append]
  simp
/-- told in a list apart from D -/
def WtT (D : Addr) (H : Hp) (W : Nat → List Int) (N : Nat) (ys : List V) (l : List (Int × Nat)) : Prop := Paired (fun v (q : Int × Nat) => ∃ a r, v = .ref a ∧ a ≠ D ∧ H a = some (.tup [.int (r : Nat), .int q.1, .int (q.2 : Nat)]) ∧ IsRun W N q.1 q.2 r) ys l
theorem WtT.kp {D : Addr} {H H' : Hp} {W : Nat → List Int} {N : Nat} {ys : List V} {l : List (Int × Nat)} (h : WtT D H W N ys l) (k : Kp D H H') : WtT D H' W N ys l :=
  pair_imp (fun v q ⟨a, r, e1, e2, e3, e4⟩ => ⟨a, r, e1, e2, k _ _ e2 e3, e4⟩) h
def spListW (K : PySem.W.Frag) : Sp := fun vs H Q _ => ∃ (rw : Addr) (W : Nat → List Int) (N lim : Nat), vs = [.ref rw, .int (lim : Int)] ∧ RowsAt H rw W N ∧ N ≤ 1000000 ∧ lim ≤ N ∧ (∀ i, (W i).length ≤ 6) ∧ 6 * lim ≤ 8000000 ∧
  ∀ (H' : Hp) (D : Addr) (ys : List V), Same H H' → H D = none → H' D = some (.lst ys) → WtT D H' W N ys (begs W (lim - 1)) → Q (.ref D) H'
structure TxtLw (K : PySem.W.Frag) (mg : Str → Option Value) (fLw fCs : Addr) (fdLw fdCs : FuncData) : Prop where
abbrev nListW : List Str := ["rows", "limit", "first", "person"]
theorem begI_snoc {W : Nat → List Int} {i j : Nat} {p : Int} (h : (W (i + 1))[j]? = some p) : begI W i ((W (i + 1)).take (j + 1)) = begI W i ((W (i + 1)).take j) ++ (if p ∈ W i then [] else [(p, i + 1)]) := by
  unfold begI
  rw [List.take_succ, h, List.filter_append, List.map_append]
  congr 1
  by_cases c : p ∈ W i
  · simp [c]
  · simp [c]
theorem begI_len (W : Nat → List Int) (i : Nat) (l : List Int) : (begI W i l).length ≤ l.length := by
  unfold begI
  rw [List.length_map]
  exact List.length_filter_le _ _
theorem begs_len {W : Nat → List Int} (h : ∀ i, (W i).length ≤ 6) : ∀ n, (begs W n).length ≤ 6 * n
  | 0 => Nat.le_refl _
  | n + 1 => by
    rw [begs_succ, List.length_append]
    have := begs_len h n
    have := begI_len W n (W (n + 1))
    have := h (n + 1)
    omega
section
variable {P : Program} {w : World} {K : PySem.W.Frag} {mg : Str → Option Value} {base : Heap} {fLw fCs : Addr} {fdLw fdCs : FuncData}
end
end Dk

set_option Elab.async false
set_option linter.all false
set_option maxRecDepth 100000
set_option maxHeartbeats 4000000
namespace Dk
open PySem PySem.Spec PyProof.Rows L2 TL
def rNotInDT (K : PySem.W.Frag) : R2 := fun x y H Q => ∃ d ds, Dp K H x d ∧ Dp K H y (.tuple ds) ∧ SeqAt.shaped d = true ∧ SeqAt.shaped (.list ds) = true ∧ Q (.bl (!(ds.any fun z => PyData.eqv z d))) H
theorem op_notInDT {X : Cx} {K : PySem.W.Frag} (hK : X.K = K) (hu : X.A.units + 65 < cLine) : OpR X (compareOp .NotIn) (rNotInDT K) := by
  subst hK
  intro pins s σ H x y v u Q I rx ry h
  obtain ⟨d, ds, hd, he, sd, se, q⟩ := h
  obtain ⟨as, r1⟩ := Dp.reads I d x v hd rx
  obtain ⟨bs, r2⟩ := Dp.reads I (.tuple ds) y u he ry
  exact SeqAt.notIn_tuple_reads r2 r1 (SeqAt.canLay_of_shaped se) (SeqAt.canLay_of_shaped sd) (room_in_shaped sd hu) ⟨.bl _, H, I, rfl, q⟩
/-! ### who can leave -/
def canL (x : Str) (t : Int) : Bool := !homeL x t && (decide (t = 0) || homeL x (t - 1))
def spCanL : Sp := fun vs H Q _ => ∃ (x : Str) (t : Int), vs = [.str x, .int t] ∧ IsTab x ∧ ∀ H', Same H H' → Q (.bl (canL x t)) H'
/-- a reminder that can be of use -/
def useB (h : Hd) (t : Nat) (p : Nat) : Bool := (h.ts[p]?.map fun x => canL x (t : Int)).getD false && !decide (((t : Int), (p : Int)) ∈ h.rs)
def usefulAt (h : Hd) (t n : Nat) : List Pr := ((List.range n).filter (useB h t)).map fun p : Nat => ((t : Int), (p : Int))
def useful (h : Hd) (per : Nat) : List Pr := (List.range per).flatMap fun t => usefulAt h t h.ts.length
theorem usefulAt_succ (h : Hd) (t n : Nat) : usefulAt h t (n + 1) = usefulAt h t n ++ (if useB h t n = true then [((t : Int), (n : Int))] else []) := by
  unfold usefulAt
  rw [filt_succ, List.map_append]
  congr 1
  split <;> rfl
theorem useful_succ (h : Hd) (t : Nat) : useful h (t + 1) = useful h t ++ usefulAt h t h.ts.length := by
  unfold useful
  rw [List.range_succ, List.flatMap_append]
  simp
theorem usefulAt_len (h : Hd) (t n : Nat) : (usefulAt h t n).length ≤ n := by
  unfold usefulAt
  rw [List.length_map]
  have := List.length_filter_le (useB h t) (List.range n)
  rw [List.length_range] at this
  exact this
theorem useful_len {h : Hd} (h6 : h.ts.length ≤ 6) : ∀ per, (useful h per).length ≤ 6 * per
  | 0 => Nat.le_refl _
  | n + 1 => by
    rw [useful_succ, List.length_append]
    have := useful_len h6 n
    have := usefulAt_len h n h.ts.length
    omega
/-- pairs apart from D -/
def PrsD (D : Addr) (H : Hp) (ys : List V) (rs : List Pr) : Prop := Paired (fun v (r : Pr) => ∃ t, v = .ref t ∧ t ≠ D ∧ H t = some (.tup [.int r.1, .int r.2])) ys rs
theorem PrsD.kp {D : Addr} {H H' : Hp} {ys : List V} {rs : List Pr} (h : PrsD D H ys rs) (k : Kp D H H') : PrsD D H' ys rs := pair_imp (fun _ _ ⟨t, e, n, q⟩ => ⟨t, e, n, k _ _ n q⟩) h
theorem PrsD.prs {D : Addr} {H : Hp} {ys : List V} {rs : List Pr} (h : PrsD D H ys rs) : Prs H ys rs := pair_imp (fun _ _ ⟨t, e, _, q⟩ => ⟨t, e, q⟩) h
def spListU (K : PySem.W.Frag) (CH : Addr) : Sp := fun vs H Q _ => ∃ (hp : Addr) (h : Hd), vs = [.ref hp] ∧ HoAt K CH H hp h ∧ Parts h.ts h.ks h.cs h.rs ∧
  ∀ (H' : Hp) (D : Addr) (ys : List V), Same H H' → H D = none → H' D = some (.lst ys) → Prs H' ys (useful h (per h.ts)) → Q (.ref D) H'
structure TxtPl (K : PySem.W.Frag) (mg : Str → Option Value) (fLu fCl fWr : Addr) (fdLu fdCl fdWr : FuncData) : Prop where
  FLu : Fun K "list_useful" "list_useful" sListU fLu fdLu
  gLu : mg "list_useful" = some (.ref fLu)
  bLu : Binds K fdLu ["house"] []
  FCl : Fun K "can_leave" "can_leave" sCanL fCl fdCl
  gCl : mg "can_leave" = some (.ref fCl)
  bCl : Binds K fdCl ["table", "tick"] []
  FWr : Fun K "with_reminders" "with_reminders" sWithR fWr fdWr
  gWr : mg "with_reminders" = some (.ref fWr)
  bWr : Binds K fdWr ["house", "reminders"] []
abbrev nListU : List Str := ["house", "tick", "person"]
section
variable {P : Program} {w : World} {K : PySem.W.Frag} {mg : Str → Option Value} {base : Heap} {CC CH fHL : Addr} {fdHL : FuncData} {fLu fCl fWr : Addr} {fdLu fdCl fdWr : FuncData} {fCP pPe gPe pPs gPs : Addr} {fdCP fdPe fdPs : FuncData}
  {C fI : Addr} {fdI : FuncData} {fII fIB fHO : Addr} {fdII fdIB fdHO : FuncData} {fIT fIR fAs : Addr} {fdIT fdIR fdAs : FuncData}
  {fP fT fK fC fR : Addr} {fdP fdT fdK fdC fdR : FuncData} {fH : Addr} {fdH : FuncData} {dvs : List V}
theorem scCanL : FnScope ["table", "tick"] ["table", "tick"] (defScope sCanL) := ⟨rfl, rfl, rfl, by decide +kernel, rfl, by decide +kernel, by decide +kernel⟩
theorem ok_canl (PL : TxtPl K mg fLu fCl fWr fdLu fdCl fdWr) (C' : TxtCo K mg CC CH fHL fdHL) (T : TxtA mg) : FnOk P w K mg base CX0 2 fCl fdCl ["table", "tick"] spCanL := by
  have GH : FnOk P w K mg base CX0 1 fHL fdHL ["table", "tick"] spHome := ok_home C' T
  refine PL.FCl.ok scCanL (fun vs H Q E h => ?_) (fun cdv A outer s H vs Q E hr h => ?_)
  · obtain ⟨x, t, rfl, _⟩ := h
    rfl
  · obtain ⟨x, t, rfl, hx, k⟩ := h
    refine ⟨_, pss_cons (ps_if (pt_val (pe_call GH hr rfl C'.gHL C'.FHL.kp C'.bHL .nil pass0 (pa_cons (pv 0) (pa_cons (pv 1) pa_nil)))) (pss_one (ps_ret pe_bl)) pss_nil)
      (pss_one (ps_ret (pe_or (pe_cmpR op_eq (pv 1) pe_int (nomark _)) (pe_one (pe_call GH hr rfl C'.gHL C'.FHL.kp C'.bHL .nil pass0 (pa_cons (pv 0) (pa_cons (pe_op op_sub (pv 1) pe_int) pa_nil))))))), ?_⟩
    refine ⟨_, rfl, _, rfl, x, t, rfl, hx, fun H1 s1 => ⟨_, rfl, ?_⟩⟩
    have kk := k
    unfold canL at kk
    cases z : homeL x t with
    | true => rw [z] at kk; exact iteT (kk H1 s1)
    | false =>
      rw [z] at kk
      refine iteF ⟨_, rfl, rfl, ?_⟩
      have ed : decide (V.int t = V.int 0) = decide (t = 0) := by
        by_cases c : t = 0
        · subst c; rfl
        · rw [decide_eq_false c, decide_eq_false fun z => c (V.int.inj z)]
      rw [ed]
      by_cases c : t = 0
      · rw [decide_eq_true c]
        rw [decide_eq_true c] at kk
        exact ⟨_, rfl, iteT (kk H1 s1)⟩
      · rw [decide_eq_false c]
        rw [decide_eq_false c] at kk
        exact ⟨_, rfl, iteF ⟨_, rfl, _, rfl, _, _, rfl, rfl, x, t - 1, rfl, hx, fun H2 s2 => kk H2 (s1.trans s2)⟩⟩
theorem scListU : FnScope nListU ["house"] (defScope sListU) := ⟨rfl, rfl, rfl, by decide +kernel, rfl, by decide +kernel, by decide +kernel⟩
theorem per24 {ts : List Str} (h : Tabs ts) : per ts ≤ 24 := by
  have := per_le h
  omega
theorem ok_listu (PL : TxtPl K mg fLu fCl fWr fdLu fdCl fdWr) (HP : TxtHp K mg CH fCP pPe gPe pPs gPs fdCP fdPe fdPs) (C' : TxtCo K mg CC CH fHL fdHL) (T : TxtA mg) (TC : TxtC mg) : FnOk P w K mg base CX0 4 fLu fdLu ["house"] (spListU K CH) := by
  have GC : FnOk P w K mg base CX0 2 fCl fdCl ["table", "tick"] spCanL := ok_canl PL C' T
  have GPe : FnOk P w K mg base CX0 2 gPe fdPe ["self"] (spPer K CH) := ok_per HP C' T TC
  have GPs : FnOk P w K mg base CX0 1 gPs fdPs ["self"] (spPersons K CH) := ok_persons HP C' T
  refine PL.FLu.ok scListU (fun vs H Q E h => ?_) (fun cdv A outer s H vs Q E hr h => ?_)
  · obtain ⟨hp, h, rfl, _⟩ := h
    rfl
  · obtain ⟨hp, h, rfl, hho, hP, k⟩ := h
    have hr2 : Room 2 (A.deeper (envOfC (Str.ofString "list_useful") (defScope sListU) s.heap.objs.size fLu cdv)) := hr.mono (by decide)
    have hr3 : Room 3 (A.deeper (envOfC (Str.ofString "list_useful") (defScope sListU) s.heap.objs.size fLu cdv)) := hr
    have hu : (A.deeper (envOfC (Str.ofString "list_useful") (defScope sListU) s.heap.objs.size fLu cdv)).units + 65 < cLine := by have := hr.un; omega
    refine ⟨_, pss_one (ps_ret (pe_lc2 (own := [("tick", 1), ("person", 2)]) (vs1 := [2]) (g := gName 1) (g1 := gName 2) (by rfl) scListU.nd (pi_range1 (by rfl) T.range (pa_cons (pe_prop (pv 0) C'.clH HP.poPe GPe hr3 HP.bPe .nil pass0 rfl) pa_nil)) (blkOk_by (N := nListU) (sc := defScope sListU) (by decide +kernel)) (by decide)
      (fun _ _ _ _ _ => pg_name (i := 1) scListU.nd rfl (Or.inl rfl)) (fun _ _ _ _ _ => pts_nil)
      (fun _ _ _ _ _ => by exact pi_range1 (by rfl) T.range (pa_cons (pe_prop (pv 0) C'.clH HP.poPs GPs hr2 HP.bPs .nil pass0 rfl) pa_nil))
      (fun _ _ _ _ _ => pg_name (i := 2) scListU.nd rfl (Or.inl rfl))
      (fun _ _ _ _ _ => by exact pts_one (PW.pt (pw_and (pt_val (pe_call GC hr2 rfl PL.gCl PL.FCl.kp PL.bCl .nil pass0 (pa_cons (pe_ix (ix_tupK (K := K) rfl) (pe_fldK (K := K) rfl (pv 0) rfl) (pv 2) (fun _ _ => rfl)) (pa_cons (pv 1) pa_nil)))) (pw_and1 (pt_cmpR (op_notInDT (K := K) rfl hu) (pe_tup (pa_cons (pv 1) (pa_cons (pv 2) pa_nil))) (pe_fldK (K := K) rfl (pv 0) rfl) (by rfl))))))
      (fun _ _ _ _ _ => by exact pe_tup (pa_cons (pv 1) (pa_cons (pv 2) pa_nil))))), ?_⟩
    have h6 := hP.n6
    have h24 := per24 hP.tabs
    obtain ⟨⟨d, bT, bC, bR, xs, g1, g2, g3, g4, g5⟩⟩ := id hho
    refine ⟨_, rfl, hp, d, _, rfl, g1, hp, h, rfl, hho, hP.tabs, fun H1 s1 => ?_⟩
    refine ⟨_, rfl, by omega, by omega, fun D hD => walk_by (walk_range (lo := 0) (n := ((per h.ts : Nat) : Int).toNat)) (fun i H3 => Same H1 H3 ∧ ∃ ys, H3 D = some (.lst ys) ∧ PrsD D H3 ys (useful h i)) ⟨same_upd hD, [], upd_same, .nil⟩ (fun _ _ _ _ => trivial) ?_ ?_⟩
    · rintro i x H3 H3' hi ⟨s3, ys, eD, hW⟩ ⟨rfl, hx⟩
      have hx : x = .int (i : Int) := by rw [hx]; show V.int ((0 : Int) + (i : Int)) = _; rw [Int.zero_add]
      subst hx
      have ho3 := (hho.mono s1).mono s3
      obtain ⟨⟨d3, bT, bC, bR, xs, g1, g2, g3, g4, g5⟩⟩ := id ho3
      refine ⟨rfl, _, rfl, hp, d3, _, rfl, g1, hp, h, rfl, ho3, fun H4 s4 => ?_⟩
      refine ⟨_, rfl, by omega, by omega, walk_by (walk_range (lo := 0) (n := ((h.ts.length : Nat) : Int).toNat)) (fun j H5 => Same H1 H5 ∧ ∃ ys, H5 D = some (.lst ys) ∧ PrsD D H5 ys (useful h i ++ usefulAt h i j)) ?_ (fun _ _ _ _ => trivial) ?_ ?_⟩
      · refine ⟨s3.trans s4, ys, s4 _ _ eD, ?_⟩
        rw [show usefulAt h i 0 = [] from rfl, List.append_nil]
        exact hW.kp (sKp s4)
      · rintro j y H5 H5' hj ⟨s5, zs, eD5, hW5⟩ ⟨rfl, hy⟩
        have hy : y = .int (j : Int) := by rw [hy]; show V.int ((0 : Int) + (j : Int)) = _; rw [Int.zero_add]
        subst hy
        have hjl : j < h.ts.length := by omega
        have ho5 := (hho.mono s1).mono s5
        obtain ⟨⟨d5, bT, bC, bR, xs, g1, g2, g3, g4, g5⟩⟩ := id ho5
        have ex : h.ts[j]? = some h.ts[j] := List.getElem?_eq_getElem hjl
        refine ⟨rfl, _, rfl, hp, CH, d5, _, _, rfl, g1, C'.clH, C'.nT, hf_tables _ _ _ _, _, rfl, bT, _, (j : Int), _, rfl, rfl, g2, atI_nat (by rw [List.getElem?_map, ex]; rfl), _, rfl, _, _, rfl, hP.tabs _ (List.getElem_mem hjl), fun H6 s6 => ⟨_, rfl, ?_⟩⟩
        have eD6 := s6 _ _ eD5
        have hlen := useful_len h6 i
        have hlen2 := usefulAt_len h i j
        have hsz : zs.length < sizeLine := by
          rw [pair_len hW5, List.length_append]
          exact Nat.lt_of_le_of_lt (by omega : _ ≤ 1000) (by decide)
        have hz2 : 2 ≤ sizeLine := by decide
        have skip : useB h i j = false → Same H1 H6 → ∀ H7, Same H6 H7 → Same H1 H7 ∧ ∃ ys, H7 D = some (.lst ys) ∧ PrsD D H7 ys (useful h i ++ usefulAt h i (j + 1)) := fun e s16 H7 s7 => by
          refine ⟨s16.trans s7, zs, s7 _ _ eD6, ?_⟩
          rw [usefulAt_succ, e, if_neg (by decide), List.append_nil]
          exact (hW5.kp (sKp s6)).kp (sKp s7)
        have s16 := s5.trans s6
        have hU : useB h i j = (canL h.ts[j] (i : Int) && !decide (((i : Int), (j : Int)) ∈ h.rs)) := by unfold useB; rw [ex]; rfl
        cases c : canL h.ts[j] (i : Int) with
        | false =>
          rw [c] at hU
          exact iteF (skip hU s16 H6 (Same.refl _))
        | true =>
          rw [c] at hU
          refine iteT ⟨_, rfl, _, rfl, hz2, fun u hu' => ?_⟩
          have s7 := same_upd (o := .tup [.int (i : Int), .int (j : Int)]) hu'
          have ho7 := (ho5.mono s6).mono s7
          obtain ⟨⟨d7, bT, bC, bR, xs, g1, g2, g3, g4, g5⟩⟩ := id ho7
          refine ⟨_, rfl, hp, CH, d7, _, _, rfl, g1, C'.clH, C'.nR, hf_rem _ _ _ _, prR ((i : Int), (j : Int)), _, dp_pr ⟨u, rfl, upd_same⟩, .tup g4 (dpAll_prs g5), prR_shaped _, prRs_shaped _, _, rfl, ?_⟩
          rw [any_eqv]
          cases c2 : decide (((i : Int), (j : Int)) ∈ h.rs) with
          | true =>
            rw [c2] at hU
            exact iteF (skip hU s16 _ s7)
          | false =>
            rw [c2] at hU
            refine iteT ⟨_, rfl, _, rfl, hz2, fun u2 hu2 => ?_⟩
            have s8 := same_upd (o := .tup [.int (i : Int), .int (j : Int)]) hu2
            have eD7 := s7 _ _ eD6
            have eD8 := s8 _ _ eD7
            have nuD : u2 ≠ D := fun y => by rw [y, eD7] at hu2; cases hu2
            have s18 := s16.trans (s7.trans s8)
            generalize hG : upd H6 u (.tup [.int (i : Int), .int (j : Int)]) = H7 at s7 s8 hu2 eD7 eD8 s18
            have kD : Kp D H5' (upd (upd H7 u2 (.tup [.int (i : Int), .int (j : Int)])) D (.lst (zs ++ [.ref u2]))) := fun b o n eb => by rw [upd_ne n]; exact s8 _ _ (s7 _ _ (s6 _ _ eb))
            refine ⟨zs, eD8, hsz, fun b o eb => ?_, zs ++ [.ref u2], upd_same, ?_⟩
            · rw [upd_ne (ne_of_none eb hD)]; exact s18 _ _ eb
            · rw [usefulAt_succ, hU, if_pos (show (true && !false) = true from rfl), ← List.append_assoc]
              refine pair_snoc (hW5.kp kD) ⟨u2, rfl, nuD, ?_⟩
              rw [upd_ne nuD, upd_same]
      · rintro H5 ⟨s5, zs, eD5, hW5⟩
        rw [Int.toNat_natCast] at hW5
        exact ⟨s5, zs, eD5, by rw [useful_succ]; exact hW5⟩
    · rintro H3 ⟨s3, ys, eD, hW⟩
      rw [Int.toNat_natCast] at hW
      have hD0 : H D = none := s1.free hD
      exact k H3 D ys (s1.trans s3) hD0 eD hW.prs
end
end Dk

set_option Elab.async false
set_option linter.all false
set_option maxRecDepth 100000
set_option maxHeartbeats 4000000
namespace Dk
open PySem PySem.Spec PyProof.Rows L2 TL
theorem wants_of {ts : List Str} {t : Int} {p : Nat} {x : Str} (h : ts[p]? = some x) : wants (wishes ts t) (p : Int) = homeL x t := by
  unfold wants wishes
  rw [List.getD_eq_getElem?_getD, List.getElem?_map, Int.toNat_natCast, h]
  rfl
/-- whoever is at home wants to be, and does not wait -/
theorem home_mem {h : Hd} (n : Nat) {p : Nat} (hp : p < h.ts.length) : decide ((p : Int) ∈ (stt h (n + 1)).home) = (wants (wishes h.ts (n : Int)) (p : Int) && !decide ((p : Int) ∈ (stt h (n + 1)).wait)) := by
  have e := home_is (h := h) n
  rw [Bool.eq_iff_iff, decide_eq_true_iff]
  constructor
  · intro m
    rw [e] at m
    exact (List.mem_filter.mp m).2
  · intro m
    rw [e]
    exact List.mem_filter.mpr ⟨List.mem_map.mpr ⟨p, List.mem_range.mpr hp, rfl⟩, m⟩
end Dk

set_option Elab.async false
set_option linter.all false
set_option maxRecDepth 100000
set_option maxHeartbeats 2000000
/-! itertools.combinations(range, r): what the model's tables say of it -/
namespace CpCmb
open PySem PySem.Spec
open Sem (wp)
theorem mro_cmb : mroOf (.type "itertools.combinations") = pure [.type "itertools.combinations", .type "object"] := by rw [mroOf_type]; kernel_rfl
theorem lookup_cmb_new : typeLookup (.type "itertools.combinations") "__new__" = pure (some (.builtin "itertools.combinations.__new__")) := by rw [typeLookup_type, builtinLookup_eq_fast]; kernel_rfl
theorem slot_cmb_init : Slot "itertools.combinations" "__init__" "object.__init__" :=
  .of (owner := "object") (n := "__init__") (by rw [typeLookup_type, builtinLookup_eq_fast]; kernel_rfl) (by decide +kernel) (by decide +kernel) (by decide +kernel)
    (by first | exact .inl (by decide +kernel) | exact .inr (by decide +kernel)) (by rw [isSubtype_type]; kernel_rfl)
theorem sub_cmb : isSubtype (.type "itertools.combinations") (.type "itertools.combinations") = pure true := by rw [isSubtype_type]; kernel_rfl
theorem called_cmb : TypeCalled "itertools.combinations" "itertools.combinations.__new__" "object.__init__" :=
  ⟨by decide +kernel, by decide +kernel, ⟨_, _, mro_cmb⟩, madeBy_type mro_cmb lookup_cmb_new (by decide +kernel), by decide +kernel, sub_cmb, slot_cmb_init⟩
theorem typeCall_cmb_2 (a b : Value) : checkTypeCall "itertools.combinations" ⟨[a, b], []⟩ = pure () := by kernel_rfl
theorem newCall_cmb_2 (a b : Value) : checkBuiltinCall "itertools.combinations.__new__" ⟨[.type "itertools.combinations", a, b], []⟩ = pure () := by kernel_rfl
theorem entry_cmb_new : entryFor table "itertools.combinations.__new__" = some Builtin.«itertools.combinations.__new__» := entryFor_of_tree (by kernel_rfl)
theorem slot_cmb_iter : Slot "itertools.combinations" "__iter__" "itertools.combinations.__iter__" :=
  .of (owner := "itertools.combinations") (n := "__iter__") (by rw [typeLookup_type, builtinLookup_eq_fast]; kernel_rfl) (by decide +kernel) (by decide +kernel) (by decide +kernel)
    (by first | exact .inl (by decide +kernel) | exact .inr (by decide +kernel)) sub_cmb
theorem slot_cmb_next : Slot "itertools.combinations" "__next__" "itertools.combinations.__next__" :=
  .of (owner := "itertools.combinations") (n := "__next__") (by rw [typeLookup_type, builtinLookup_eq_fast]; kernel_rfl) (by decide +kernel) (by decide +kernel) (by decide +kernel)
    (by first | exact .inl (by decide +kernel) | exact .inr (by decide +kernel)) sub_cmb
theorem entry_cmb_iter : entryFor table "itertools.combinations.__iter__" = some Builtin.«dict_keyiterator.__iter__» :=
  entryFor_alias (id' := "dict_keyiterator.__iter__") (by kernel_rfl) (by first | rfl | decide +kernel | (unfold String.splitOn; simp +decide [String.splitOnAux])) (by decide +kernel) (by kernel_rfl)
theorem entry_cmb_next : entryFor table "itertools.combinations.__next__" = some Builtin.«itertools.combinations.__next__» := entryFor_of_tree (by kernel_rfl)
theorem owner_cmb : Manifest.owners.lookup (String.ofList ['s', 'n', 'o', 'i', 't', 'a', 'n', 'i', 'b', 'm', 'o', 'c', '.', 's', 'l', 'o', 'o', 't', 'r', 'e', 't', 'i'].reverse) = some Manifest.sig_itertools_combinations := by kernel_rfl
theorem args_cmb_iter (a : Value) : argsOk "itertools.combinations.__iter__" ⟨[a], []⟩ := by
  unfold argsOk; rw [signature?_of (id := "itertools.combinations.__iter__") (n := ['_', '_', 'r', 'e', 't', 'i', '_', '_']) (o := ['s', 'n', 'o', 'i', 't', 'a', 'n', 'i', 'b', 'm', 'o', 'c', '.', 's', 'l', 'o', 'o', 't', 'r', 'e', 't', 'i']) (by kernel_rfl) owner_cmb]; kernel_rfl
theorem args_cmb_next (a : Value) : argsOk "itertools.combinations.__next__" ⟨[a], []⟩ := by
  unfold argsOk; rw [signature?_of (id := "itertools.combinations.__next__") (n := ['_', '_', 't', 'x', 'e', 'n', '_', '_']) (o := ['s', 'n', 'o', 'i', 't', 'a', 'n', 'i', 'b', 'm', 'o', 'c', '.', 's', 'l', 'o', 'o', 't', 'r', 'e', 't', 'i']) (by kernel_rfl) owner_cmb]; kernel_rfl
theorem noDict_cmb : typeHasDict (.type "itertools.combinations") = false := by decide +kernel
theorem noClose_cmb : typeLookup (.type "itertools.combinations") "close" = pure none := by rw [typeLookup_type, builtinLookup_eq_fast]; kernel_rfl

end CpCmb

set_option Elab.async false
set_option linter.all false
set_option maxRecDepth 100000
set_option maxHeartbeats 2000000
namespace CpCmb
open PySem PySem.Spec
open Sem (wp)
/-- the iterator's fields: its pool, how far it is, what it handed out last, the indices -/
abbrev cmbF (pool : Addr) (st : Int) (res : Value) (idx : List Nat) : List Value := .ref pool :: .int st 0 :: res :: idx.map fun (i : Nat) => rawInt i
abbrev cmbO (pool : Addr) (st : Int) (res : Value) (idx : List Nat) : Obj := { cls := .type "itertools.combinations", dict := none, data := .fields (cmbF pool st res idx).toArray, slots := #[] }
abbrev IsCmb (h : Heap) (it pool : Addr) (st : Int) (res : Value) (idx : List Nat) : Prop := h.get? it = some (cmbO pool st res idx)
section
variable {prog : Program} {w : World} {A : Around} {E : Value → Shared → Prop} {s : Shared}
theorem wp_numbers {it pool : Addr} {st : Int} {res : Value} {idx : List Nat} {Q : List Nat → Shared → Prop} (hit : IsCmb s.heap it pool st res idx) (h : Q idx s) : wpAny (model prog w) A (Builtin.Itertools.itNumbersFrom (.ref it) 3) Q E s := by
  unfold Builtin.Itertools.itNumbersFrom
  refine wpAny_bind (wpAny_load hit ?_)
  refine wpAny_pure ?_
  refine (congrArg (fun l => Q l s) (?_ : _ = idx)).mpr h
  show (idx.map fun (i : Nat) => rawInt i).map _ = idx
  rw [List.map_map]
  conv => rhs; rw [← List.map_id idx]
  exact List.map_congr_left fun i _ => rfl
/-- what is handed out -/
theorem wp_hand {it pool : Addr} {st : Int} {res : Value} {idx nxt : List Nat} {items : Array Value} {n : Nat} {po : Obj} {Q : PySem.Fin → Shared → Prop} (hit : IsCmb s.heap it pool st res idx) (hp : s.heap.get? pool = some po) (hd : po.data = .seq items n) (hz : nxt.length ≤ 1000)
    (hQ : ∀ h', IsCmb h' it pool st (.ref s.heap.objs.size) idx → h'.get? s.heap.objs.size = some { cls := .type "tuple", data := .seq (nxt.map fun i => items.getD i .none).toArray } → (∀ b o, b ≠ it → s.heap.get? b = some o → h'.get? b = some o) →
      Q (.done (.ret (.ref s.heap.objs.size))) { s with heap := h' }) :
    wpAny (model prog w) A (do
        let result ← (do let xs ← Builtin.Itertools.itPoolItems (.ref pool); newTuple (nxt.map fun i => xs.getD i .none))
        let before ← field (.ref it) 2
        setField (.ref it) 2 result
        letGo [before] [result]
        ret result) Q E s := by
  have hne : s.heap.objs.size ≠ it := Nat.ne_of_gt (Heap.lt_size hit)
  refine wpAny_bind (wpAny_bind ?_)
  unfold Builtin.Itertools.itPoolItems
  refine wpAny_bind (wpAny_seqItems hp hd ?_)
  refine wpAny_pure ?_
  refine wpAny_newTuple ?_ (by rw [List.length_map]; exact Nat.le_trans hz (by decide))
  have hit2 : IsCmb (s.heap.push { cls := .type "tuple", data := .seq (nxt.map fun i => items.getD i .none).toArray }) it pool st res idx := Heap.get?_push_of_some _ hit
  refine wpAny_bind (wpAny_field hit2 rfl (x := res) rfl ?_)
  refine wpAny_bind (wpAny_setField hit2 rfl (by show 2 < (cmbF pool st res idx).toArray.size; simp) ?_)
  refine wpAny_bind (wpAny_letGo (wpAny_pure ?_))
  have s1 := Heap.SameBut.update (s.heap.push { cls := .type "tuple", data := .seq (nxt.map fun i => items.getD i .none).toArray }) it (Obj.mapFields fun x => x.setIfInBounds 2 (.ref s.heap.objs.size))
  refine hQ _ ?_ ((s1.2 _ hne).trans (Heap.get?_push_size _ rfl)) fun b o hb e => (s1.2 b hb).trans (Heap.get?_push_of_some _ e)
  exact Heap.get?_update_self _ hit2 rfl
end
end CpCmb

set_option Elab.async false
set_option linter.all false
set_option maxRecDepth 100000
set_option maxHeartbeats 4000000
namespace CpCmb
open PySem PySem.Spec
open Sem (wp)
section
variable {prog : Program} {w : World} {A : Around} {E : Value → Shared → Prop} {s : Shared}
theorem cmb_first {it pool : Addr} {res : Value} {idx : List Nat} {items : Array Value} {n : Nat} {po : Obj} {Q : Option Value → Shared → Prop} (hit : IsCmb s.heap it pool 0 res idx) (hp : s.heap.get? pool = some po) (hd : po.data = .seq items n) (hpi : pool ≠ it) (hz : idx.length ≤ 1000)
    (hQ : ∀ h', IsCmb h' it pool 1 (.ref s.heap.objs.size) idx → h'.get? s.heap.objs.size = some { cls := .type "tuple", data := .seq (idx.map fun i => items.getD i .none).toArray } → (∀ b o, b ≠ it → s.heap.get? b = some o → h'.get? b = some o) →
      Q (some (.ref s.heap.objs.size)) { s with heap := h' }) : wpAny (model prog w) A (callSpecial? (.ref it) "__next__") Q E s := by
  have hT : s.TypeIs (.ref it) "itertools.combinations" := ⟨_, hit, rfl⟩
  refine wpAny_callSpecial?_slot (name := Str.ofString "__next__") hT slot_cmb_next (wpAny_call_entry slot_cmb_next hT entry_cmb_next ?_ (args_cmb_next _))
  unfold Builtin.«itertools.combinations.__next__»
  show wpAny _ _ (field (.ref it) 0 >>= _) _ _ s
  refine wpAny_bind (wpAny_field hit rfl (x := .ref pool) rfl ?_)
  show wpAny _ _ (Builtin.Itertools.itNumbersFrom (.ref it) 3 >>= _) _ _ s
  refine wpAny_bind (wp_numbers hit ?_)
  show wpAny _ _ ((field (.ref it) 1 >>= _) >>= _) _ _ s
  refine wpAny_bind (wpAny_bind (wpAny_field hit rfl (x := .int 0 0) rfl (wpAny_pure ?_)))
  show wpAny _ _ (setField (.ref it) 1 (rawInt 1) >>= _) _ _ s
  refine wpAny_bind (wpAny_setField hit rfl (by show 1 < (cmbF pool 0 res idx).toArray.size; simp) ?_)
  have s1 := Heap.SameBut.update s.heap it (Obj.mapFields fun x => x.setIfInBounds 1 (rawInt 1))
  have hit1 : IsCmb (s.heap.update it (Obj.mapFields fun x => x.setIfInBounds 1 (rawInt 1))) it pool 1 res idx := Heap.get?_update_self _ hit rfl
  have hz1 : (s.heap.update it (Obj.mapFields fun x => x.setIfInBounds 1 (rawInt 1))).objs.size = s.heap.objs.size := s1.1
  refine wp_hand (s := { s with heap := s.heap.update it (Obj.mapFields fun x => x.setIfInBounds 1 (rawInt 1)) }) hit1 ((s1.2 _ hpi).trans hp) hd hz fun h' a b c => ⟨_, rfl, ?_⟩
  have e : ({ s with heap := s.heap.update it (Obj.mapFields fun x => x.setIfInBounds 1 (rawInt 1)) } : Shared).heap.objs.size = s.heap.objs.size := hz1
  rw [e] at a b ⊢
  exact hQ h' a b fun b' o hb eo => c b' o hb ((s1.2 b' hb).trans eo)
end
end CpCmb

set_option Elab.async false
set_option linter.all false
set_option maxRecDepth 100000
set_option maxHeartbeats 4000000
namespace CpCmb
open PySem PySem.Spec
open Sem (wp)
/-- a further item: f tells the indices -/
def ItemP (f : Nat → List Nat → Option (List Nat)) : Prop := ∀ {prog : Program} {w : World} {A : Around} {E : Value → Shared → Prop} {s : Shared} {it pool : Addr} {res : Value} {idx nxt : List Nat} {items : Array Value} {n : Nat} {po : Obj} {Q : Option Value → Shared → Prop},
  IsCmb s.heap it pool 1 res idx → s.heap.get? pool = some po → po.data = .seq items n → pool ≠ it → nxt.length ≤ 1000 → f items.size idx = some nxt →
  (∀ h', IsCmb h' it pool 1 (.ref s.heap.objs.size) nxt → h'.get? s.heap.objs.size = some { cls := .type "tuple", data := .seq (nxt.map fun i => items.getD i .none).toArray } → (∀ b o, b ≠ it → s.heap.get? b = some o → h'.get? b = some o) →
      Q (some (.ref s.heap.objs.size)) { s with heap := h' }) → wpAny (model prog w) A (callSpecial? (.ref it) "__next__") Q E s
/-- the end -/
def EndP (f : Nat → List Nat → Option (List Nat)) : Prop := ∀ {prog : Program} {w : World} {A : Around} {E : Value → Shared → Prop} {s : Shared} {it pool : Addr} {res : Value} {idx : List Nat} {items : Array Value} {n : Nat} {po : Obj} {Q : Option Value → Shared → Prop},
  A.handled = none → IsCmb s.heap it pool 1 res idx → s.heap.get? pool = some po → po.data = .seq items n → f items.size idx = none →
  (∀ e h', CpRep.StopE e h' → Heap.ExtBut it s.heap h' → E e { s with heap := h' }) → wpAny (model prog w) A (callSpecial? (.ref it) "__next__") Q E s
/-- own words for what f runs through: the rows of r indices below n, by their order -/
def rowsOf : Nat → Nat → Nat → List (List Nat)
  | _, _, 0 => [[]]
  | lo, n, r + 1 => (List.range (n - lo)).flatMap fun d => if lo + d < n then (rowsOf (lo + d + 1) n r).map fun t => (lo + d) :: t else []
def runsB (f : List Nat → Option (List Nat)) : List (List Nat) → Bool
  | [] => true
  | [x] => f x == none
  | x :: y :: r => (f x == some y) && runsB f (y :: r)
def StepsP (f : Nat → List Nat → Option (List Nat)) : Prop := ∀ n, n ≤ 6 → ∀ r, r ≤ n → runsB (f n) (rowsOf 0 n r) = true
/-- own words for one step -/
def nxtC (m : Nat) (row : List Nat) : Option (List Nat) := match (List.range row.length).reverse.find? (fun k => row.getD k 0 != k + m - row.length) with
  | none => none
  | some k => some (row.take k ++ (List.range (row.length - k)).map (row.getD k 0 + 1 + ·))
theorem cmb_f2 : ∃ f, ItemP f ∧ EndP f ∧ StepsP f ∧ ∀ n row, f n row = nxtC n row := by
  apply Exists.intro
  refine ⟨?a, ?b, ?c, ?d⟩
  case a =>
    intro prog w A E s it pool res idx nxt items n po Q hit hp hd hpi hz hf hQ
    have hT : s.TypeIs (.ref it) "itertools.combinations" := ⟨_, hit, rfl⟩
    refine wpAny_callSpecial?_slot (name := Str.ofString "__next__") hT slot_cmb_next (wpAny_call_entry slot_cmb_next hT entry_cmb_next ?_ (args_cmb_next _))
    unfold Builtin.«itertools.combinations.__next__»
    show wpAny _ _ (field (.ref it) 0 >>= _) _ _ s
    refine wpAny_bind (wpAny_field hit rfl (x := .ref pool) rfl ?_)
    show wpAny _ _ (Builtin.Itertools.itNumbersFrom (.ref it) 3 >>= _) _ _ s
    refine wpAny_bind (wp_numbers hit ?_)
    show wpAny _ _ ((field (.ref it) 1 >>= _) >>= _) _ _ s
    refine wpAny_bind (wpAny_bind (wpAny_field hit rfl (x := .int 1 0) rfl (wpAny_pure ?_)))
    show wpAny _ _ ((seqItems? (.ref pool) >>= _) >>= _) _ _ s
    refine wpAny_bind (wpAny_bind (wpAny_seqItems hp hd (wpAny_pure ?_)))
    dsimp only
    split
    · rename_i next heq
      have e := hf.symm.trans heq
      cases e
      refine wpAny_bind ?_
      unfold Builtin.Itertools.itSetNumbersFrom
      show wpAny _ _ (updateFields it fun fs => fs.extract 0 3 ++ (nxt.map fun (n : Nat) => rawInt n).toArray) _ _ s
      have ef : (cmbF pool 1 res idx).toArray.extract 0 3 ++ (nxt.map fun (n : Nat) => rawInt n).toArray = (cmbF pool 1 res nxt).toArray := by
        apply Array.ext'
        simp [cmbF]
      refine wpAny_updateFields hit rfl ?_ (by rw [ef]; show (cmbF pool 1 res nxt).length ≤ sizeLine + 3; simp [cmbF]; exact Nat.le_trans hz (by decide))
      have s1 := Heap.SameBut.update s.heap it (Obj.mapFields fun fs => fs.extract 0 3 ++ (nxt.map fun (n : Nat) => rawInt n).toArray)
      have hit1 : IsCmb (s.heap.update it (Obj.mapFields fun fs => fs.extract 0 3 ++ (nxt.map fun (n : Nat) => rawInt n).toArray)) it pool 1 res nxt := by
        have q := Heap.get?_update_self (Obj.mapFields fun fs => fs.extract 0 3 ++ (nxt.map fun (n : Nat) => rawInt n).toArray) hit rfl
        refine q.trans ?_
        show some ({ cls := .type "itertools.combinations", dict := none, data := .fields ((cmbF pool 1 res idx).toArray.extract 0 3 ++ (nxt.map fun (n : Nat) => rawInt n).toArray), slots := #[] } : Obj) = _
        rw [ef]
      have hz1 : (s.heap.update it (Obj.mapFields fun fs => fs.extract 0 3 ++ (nxt.map fun (n : Nat) => rawInt n).toArray)).objs.size = s.heap.objs.size := s1.1
      refine wp_hand (s := { s with heap := s.heap.update it (Obj.mapFields fun fs => fs.extract 0 3 ++ (nxt.map fun (n : Nat) => rawInt n).toArray) }) hit1 ((s1.2 _ hpi).trans hp) hd hz fun h' a b c => ⟨_, rfl, ?_⟩
      have e : ({ s with heap := s.heap.update it (Obj.mapFields fun fs => fs.extract 0 3 ++ (nxt.map fun (n : Nat) => rawInt n).toArray) } : Shared).heap.objs.size = s.heap.objs.size := hz1
      rw [e] at a b ⊢
      exact hQ h' a b fun b' o hb eo => c b' o hb ((s1.2 b' hb).trans eo)
    · rename_i heq
      have e := hf.symm.trans heq
      cases e
  case b =>
    intro prog w A E s it pool res idx items n po Q hh hit hp hd hf hQ
    have hT : s.TypeIs (.ref it) "itertools.combinations" := ⟨_, hit, rfl⟩
    refine wpAny_callSpecial?_slot (name := Str.ofString "__next__") hT slot_cmb_next (wpAny_call_entry slot_cmb_next hT entry_cmb_next ?_ (args_cmb_next _))
    unfold Builtin.«itertools.combinations.__next__»
    show wpAny _ _ (field (.ref it) 0 >>= _) _ _ s
    refine wpAny_bind (wpAny_field hit rfl (x := .ref pool) rfl ?_)
    show wpAny _ _ (Builtin.Itertools.itNumbersFrom (.ref it) 3 >>= _) _ _ s
    refine wpAny_bind (wp_numbers hit ?_)
    show wpAny _ _ ((field (.ref it) 1 >>= _) >>= _) _ _ s
    refine wpAny_bind (wpAny_bind (wpAny_field hit rfl (x := .int 1 0) rfl (wpAny_pure ?_)))
    show wpAny _ _ ((seqItems? (.ref pool) >>= _) >>= _) _ _ s
    refine wpAny_bind (wpAny_bind (wpAny_seqItems hp hd (wpAny_pure ?_)))
    dsimp only
    split
    · rename_i next heq
      have e := hf.symm.trans heq
      cases e
    · refine wpAny_bind (wpAny_setField hit rfl (by show 1 < (cmbF pool 1 res idx).toArray.size; simp) ?_)
      have x1 : Heap.ExtBut it s.heap (s.heap.update it (Obj.mapFields fun x => x.setIfInBounds 1 (rawInt 2))) := (Heap.SameBut.update s.heap it (Obj.mapFields fun x => x.setIfInBounds 1 (rawInt 2))).extBut
      show wpAny _ _ (newExc (.type "StopIteration") [] >>= _) _ _ _
      refine wpAny_bind ?_
      simp only [newExc, newTuple]
      refine wpAny_bind (wpAny_newObj_type ?_ (by size_fits))
      refine wpAny_bind (m := firstArgMember _ _) (wpAny_of_eq (a := Value.none) (by first | rfl | (simp only [firstArgMember]; rfl)) ?_)
      refine wpAny_newObj_type ?_ (by size_fits)
      simp only [raiseNew]
      refine wpAny_bind (wpAny_handled ?_)
      first | rw [show A.in1.handled = none from hh] | rw [hh]
      refine wpAny_bind (wpAny_pure (wpAny_throw ?_))
      exact hQ _ _ ⟨_, _, _, rfl, Heap.get?_push_size _ rfl, rfl, rfl, rfl⟩ ((x1.push _).push _)
  case c =>
    unfold StepsP
    decide +kernel
  case d => exact fun n row => rfl
theorem cmb_f : ∃ f, ItemP f ∧ EndP f ∧ StepsP f := by
  obtain ⟨f, a, b, c, _⟩ := cmb_f2
  exact ⟨f, a, b, c⟩
/-- it has ended -/
theorem cmb_over {prog : Program} {w : World} {A : Around} {E : Value → Shared → Prop} {s : Shared} {it pool : Addr} {res : Value} {idx : List Nat} {Q : Option Value → Shared → Prop} (hh : A.handled = none) (hit : IsCmb s.heap it pool 2 res idx)
    (hQ : ∀ e h', CpRep.StopE e h' → Heap.ExtBut it s.heap h' → E e { s with heap := h' }) : wpAny (model prog w) A (callSpecial? (.ref it) "__next__") Q E s := by
  have hT : s.TypeIs (.ref it) "itertools.combinations" := ⟨_, hit, rfl⟩
  refine wpAny_callSpecial?_slot (name := Str.ofString "__next__") hT slot_cmb_next (wpAny_call_entry slot_cmb_next hT entry_cmb_next ?_ (args_cmb_next _))
  unfold Builtin.«itertools.combinations.__next__»
  show wpAny _ _ (field (.ref it) 0 >>= _) _ _ s
  refine wpAny_bind (wpAny_field hit rfl (x := .ref pool) rfl ?_)
  show wpAny _ _ (Builtin.Itertools.itNumbersFrom (.ref it) 3 >>= _) _ _ s
  refine wpAny_bind (wp_numbers hit ?_)
  show wpAny _ _ ((field (.ref it) 1 >>= _) >>= _) _ _ s
  refine wpAny_bind (wpAny_bind (wpAny_field hit rfl (x := .int 2 0) rfl (wpAny_pure ?_)))
  dsimp only
  show wpAny _ _ (rule _ >>= _) _ _ s
  refine wpAny_bind (wpAny_rule ?_)
  show wpAny _ _ (newExc (.type "StopIteration") [] >>= _) _ _ _
  refine wpAny_bind ?_
  simp only [newExc, newTuple]
  refine wpAny_bind (wpAny_newObj_type ?_ (by size_fits))
  refine wpAny_bind (m := firstArgMember _ _) (wpAny_of_eq (a := Value.none) (by first | rfl | (simp only [firstArgMember]; rfl)) ?_)
  refine wpAny_newObj_type ?_ (by size_fits)
  simp only [raiseNew]
  refine wpAny_bind (wpAny_handled ?_)
  first | rw [show A.in1.handled = none from hh] | rw [hh]
  refine wpAny_bind (wpAny_pure (wpAny_throw ?_))
  exact hQ _ _ ⟨_, _, _, rfl, Heap.get?_push_size _ rfl, rfl, rfl, rfl⟩ (((Heap.ExtBut.refl it s.heap).push _).push _)
end CpCmb

set_option Elab.async false
set_option linter.all false
set_option maxRecDepth 100000
set_option maxHeartbeats 4000000
namespace CpCmb
open PySem PySem.Spec
theorem nxt_nil (n : Nat) : nxtC n [] = none := rfl
theorem nxt_one {n i : Nat} (h : i < n) : nxtC n [i] = if i + 1 < n then some [i + 1] else none := by
  unfold nxtC
  have e : (List.range [i].length).reverse = [0] := rfl
  rw [e, List.find?_cons]
  by_cases c : i + 1 < n
  · have : ([i].getD 0 0 != 0 + n - [i].length) = true := by
      show (i != 0 + n - 1) = true
      rw [bne_iff_ne]; omega
    rw [this, if_pos c]; rfl
  · have : ([i].getD 0 0 != 0 + n - [i].length) = false := by
      show (i != 0 + n - 1) = false
      rw [bne_eq_false_iff_eq]; omega
    rw [this, if_neg c]; rfl
theorem nxt_two {n i j : Nat} (hi : i < j) (hj : j < n) : nxtC n [i, j] = if j + 1 < n then some [i, j + 1] else if i + 2 < n then some [i + 1, i + 2] else none := by
  unfold nxtC
  have e : (List.range [i, j].length).reverse = [1, 0] := rfl
  rw [e, List.find?_cons]
  by_cases c : j + 1 < n
  · have : ([i, j].getD 1 0 != 1 + n - [i, j].length) = true := by
      show (j != 1 + n - 2) = true
      rw [bne_iff_ne]; omega
    rw [this, if_pos c]; rfl
  · have : ([i, j].getD 1 0 != 1 + n - [i, j].length) = false := by
      show (j != 1 + n - 2) = false
      rw [bne_eq_false_iff_eq]; omega
    rw [this, if_neg c, List.find?_cons]
    by_cases c2 : i + 2 < n
    · have : ([i, j].getD 0 0 != 0 + n - [i, j].length) = true := by
        show (i != 0 + n - 2) = true
        rw [bne_iff_ne]; omega
      rw [this, if_pos c2]; rfl
    · have : ([i, j].getD 0 0 != 0 + n - [i, j].length) = false := by
        show (i != 0 + n - 2) = false
        rw [bne_eq_false_iff_eq]; omega
      rw [this, if_neg c2]; rfl
/-- one after another, then e -/
def Runs (f : List Nat → Option (List Nat)) (e : Option (List Nat)) : List (List Nat) → Prop
  | [] => True
  | [x] => f x = e
  | x :: y :: r => f x = some y ∧ Runs f e (y :: r)
theorem runs_app {f : List Nat → Option (List Nat)} {e : Option (List Nat)} {y : List Nat} {ys : List (List Nat)} (h2 : Runs f e (y :: ys)) : ∀ {xs : List (List Nat)}, Runs f (some y) xs → Runs f e (xs ++ y :: ys)
  | [], _ => h2
  | [x], h => ⟨h, h2⟩
  | x :: z :: r, h => ⟨h.1, runs_app h2 (xs := z :: r) h.2⟩
theorem runs_idx {f : List Nat → Option (List Nat)} : ∀ {rows : List (List Nat)} {i : Nat} {x : List Nat}, Runs f none rows → rows[i]? = some x → f x = rows[i + 1]?
  | [x], 0, _, h, e => by cases e; exact h
  | [x], i + 1, _, _, e => by simp at e
  | x :: y :: r, 0, _, h, e => by cases e; exact h.1
  | x :: y :: r, i + 1, z, h, e => by
    exact runs_idx (rows := y :: r) (i := i) h.2 e
/-- the rows of one number, of two numbers -/
def rw1 (n : Nat) : List (List Nat) := (List.range' 0 n).map fun i => [i]
def blk2 (n i : Nat) : List (List Nat) := (List.range' (i + 1) (n - (i + 1))).map fun j => [i, j]
def rw2 (n : Nat) : List (List Nat) := (List.range' 0 (n - 1)).flatMap (blk2 n)
def rws (n : Nat) : Nat → List (List Nat)
  | 0 => [[]]
  | 1 => rw1 n
  | _ => rw2 n
theorem runs1 {n : Nat} : ∀ (m a : Nat), a + m = n → Runs (nxtC n) none ((List.range' a m).map fun i => [i])
  | 0, _, _ => trivial
  | 1, a, h => by
    show nxtC n [a] = none
    rw [nxt_one (by omega), if_neg (by omega)]
  | m + 2, a, h => by
    refine ⟨?_, runs1 (m + 1) (a + 1) (by omega)⟩
    show nxtC n [a] = some [a + 1]
    rw [nxt_one (by omega), if_pos (by omega)]
theorem runs_blk {n i : Nat} : ∀ (m a : Nat), i < a → a + m = n → Runs (nxtC n) (if i + 2 < n then some [i + 1, i + 2] else none) ((List.range' a m).map fun j => [i, j])
  | 0, _, _, _ => trivial
  | 1, a, h, h2 => by
    show nxtC n [i, a] = _
    rw [nxt_two h (by omega), if_neg (by omega)]
  | m + 2, a, h, h2 => by
    refine ⟨?_, runs_blk (m + 1) (a + 1) (by omega) (by omega)⟩
    show nxtC n [i, a] = some [i, a + 1]
    rw [nxt_two h (by omega), if_pos (by omega)]
theorem blk_head {n i : Nat} (h : i + 1 < n) : ∃ r, blk2 n i = [i, i + 1] :: r := by
  unfold blk2
  obtain ⟨m, hm⟩ : ∃ m, n - (i + 1) = m + 1 := ⟨n - (i + 1) - 1, by omega⟩
  rw [hm, List.range'_succ, List.map_cons]
  exact ⟨_, rfl⟩
theorem runs2 {n : Nat} : ∀ (m lo : Nat), lo + m + 1 = n → Runs (nxtC n) none ((List.range' lo m).flatMap (blk2 n))
  | 0, _, _ => trivial
  | 1, lo, h => by
    show Runs (nxtC n) none (blk2 n lo ++ [])
    rw [List.append_nil]
    have := runs_blk (n := n) (i := lo) (n - (lo + 1)) (lo + 1) (by omega) (by omega)
    rw [if_neg (by omega)] at this
    exact this
  | m + 2, lo, h => by
    rw [List.range'_succ, List.flatMap_cons]
    have ih := runs2 (n := n) (m + 1) (lo + 1) (by omega)
    rw [List.range'_succ, List.flatMap_cons] at ih ⊢
    obtain ⟨r, er⟩ := blk_head (n := n) (i := lo + 1) (by omega)
    rw [er, List.cons_append] at ih ⊢
    refine runs_app ih ?_
    have := runs_blk (n := n) (i := lo) (n - (lo + 1)) (lo + 1) (by omega) (by omega)
    rw [if_pos (show lo + 2 < n by omega)] at this
    exact this
theorem runs_rws {n : Nat} : ∀ {c : Nat}, c ≤ 2 → Runs (nxtC n) none (rws n c)
  | 0, _ => nxt_nil n
  | 1, _ => runs1 n 0 (by omega)
  | 2, _ => by
    cases n with
    | zero => exact trivial
    | succ n => exact runs2 n 0 (by omega)
theorem rws_in {n : Nat} : ∀ {c : Nat}, c ≤ 2 → ∀ row ∈ rws n c, (∀ k ∈ row, k < n) ∧ row.length = c ∧ row.Pairwise (· < ·)
  | 0, _, row, h => by rw [List.mem_singleton.mp h]; exact ⟨fun k hk => (by cases hk), rfl, .nil⟩
  | 1, _, row, h => by
    obtain ⟨i, hi, rfl⟩ := List.mem_map.mp h
    have := List.mem_range'_1.mp hi
    exact ⟨fun k hk => (by rw [List.mem_singleton.mp hk]; omega), rfl, List.pairwise_singleton _ _⟩
  | 2, _, row, h => by
    obtain ⟨i, hi, h⟩ := List.mem_flatMap.mp h
    obtain ⟨j, hj, rfl⟩ := List.mem_map.mp h
    have := List.mem_range'_1.mp hi
    have := List.mem_range'_1.mp hj
    refine ⟨fun k hk => ?_, rfl, by simp; omega⟩
    simp at hk
    omega
theorem rws_first {n c : Nat} (hc : c ≤ 2) (h : c ≤ n) : (rws n c)[0]? = some (List.range c) := by
  match c, hc with
  | 0, _ => rfl
  | 1, _ =>
    obtain ⟨m, rfl⟩ : ∃ m, n = m + 1 := ⟨n - 1, by omega⟩
    rfl
  | 2, _ =>
    obtain ⟨m, rfl⟩ : ∃ m, n = m + 2 := ⟨n - 2, by omega⟩
    show (rw2 (m + 2))[0]? = _
    unfold rw2
    rw [show m + 2 - 1 = m + 1 by omega, List.range'_succ, List.flatMap_cons]
    obtain ⟨r, er⟩ := blk_head (n := m + 2) (i := 0) (by omega)
    rw [er]; rfl
theorem rws_none {n c : Nat} (hc : c ≤ 2) (h : n < c) : rws n c = [] := by
  match c, hc with
  | 0, _ => omega
  | 1, _ =>
    obtain rfl : n = 0 := by omega
    rfl
  | 2, _ =>
    have : n = 0 ∨ n = 1 := by omega
    rcases this with rfl | rfl <;> rfl
end CpCmb

set_option Elab.async false
set_option linter.all false
set_option maxRecDepth 100000
set_option maxHeartbeats 4000000
namespace CpCmb
open PySem PySem.Spec PyProof.Rows L2
section
variable {prog : Program} {w : World} {A : Around} {E : Value → Shared → Prop} {s : Shared}
theorem next_first {it pool : Addr} {res : Value} {idx : List Nat} {items : Array Value} {n : Nat} {po : Obj} {Q : Option Value → Shared → Prop} (hit : IsCmb s.heap it pool 0 res idx) (hp : s.heap.get? pool = some po) (hd : po.data = .seq items n) (hpi : pool ≠ it) (hz : idx.length ≤ 1000)
    (hQ : ∀ h', IsCmb h' it pool 1 (.ref s.heap.objs.size) idx → h'.get? s.heap.objs.size = some { cls := .type "tuple", data := .seq (idx.map fun i => items.getD i .none).toArray } → (∀ b o, b ≠ it → s.heap.get? b = some o → h'.get? b = some o) →
      Q (some (.ref s.heap.objs.size)) { s with heap := h' }) : wpAny (model prog w) A (pyNext (.ref it)) Q E s := by
  unfold pyNext
  exact wpAny_bind (wpAny_attempt (cmb_first hit hp hd hpi hz fun h' a b c => wpAny_pure (hQ h' a b c)))
theorem next_item {f : Nat → List Nat → Option (List Nat)} (F : ItemP f) {it pool : Addr} {res : Value} {idx nxt : List Nat} {items : Array Value} {n : Nat} {po : Obj} {Q : Option Value → Shared → Prop} (hit : IsCmb s.heap it pool 1 res idx) (hp : s.heap.get? pool = some po) (hd : po.data = .seq items n) (hpi : pool ≠ it) (hz : nxt.length ≤ 1000) (hf : f items.size idx = some nxt)
    (hQ : ∀ h', IsCmb h' it pool 1 (.ref s.heap.objs.size) nxt → h'.get? s.heap.objs.size = some { cls := .type "tuple", data := .seq (nxt.map fun i => items.getD i .none).toArray } → (∀ b o, b ≠ it → s.heap.get? b = some o → h'.get? b = some o) →
      Q (some (.ref s.heap.objs.size)) { s with heap := h' }) : wpAny (model prog w) A (pyNext (.ref it)) Q E s := by
  unfold pyNext
  exact wpAny_bind (wpAny_attempt (F hit hp hd hpi hz hf fun h' a b c => wpAny_pure (hQ h' a b c)))
theorem next_end {f : Nat → List Nat → Option (List Nat)} (F : EndP f) {it pool : Addr} {res : Value} {idx : List Nat} {items : Array Value} {n : Nat} {po : Obj} {Q : Option Value → Shared → Prop} (hh : A.handled = none) (hit : IsCmb s.heap it pool 1 res idx) (hp : s.heap.get? pool = some po) (hd : po.data = .seq items n) (hf : f items.size idx = none)
    (hQ : ∀ h', Heap.ExtBut it s.heap h' → Q none { s with heap := h' }) : wpAny (model prog w) A (pyNext (.ref it)) Q E s := by
  unfold pyNext
  refine wpAny_bind (wpAny_attempt (F hh hit hp hd hf fun e h' st x => ?_))
  obtain ⟨a, o, vs, rfl, ho, hc, _⟩ := st
  exact wpAny_bind (wpAny_isInstance (T := "StopIteration") (b := true) ⟨o, ho, hc⟩ isSubtype_stop (wpAny_pure (hQ _ x)))
theorem iter_cmb {it pool : Addr} {st : Int} {res : Value} {idx : List Nat} {Q : Value → Shared → Prop} (hit : IsCmb s.heap it pool st res idx) (h : Q (.ref it) s) : wpAny (model prog w) A (pyIter (.ref it)) Q E s := by
  have hT : s.TypeIs (.ref it) "itertools.combinations" := ⟨_, hit, rfl⟩
  refine wpAny_pyIter_slot hT slot_cmb_iter (wpAny_call_entry slot_cmb_iter hT entry_cmb_iter ?_ (args_cmb_iter _))
  show wpAny _ _ (ret (.ref it)) _ _ s
  exact wpAny_pure ⟨_, rfl, "itertools.combinations", _, hT, slot_cmb_next.lookup, h⟩
end
end CpCmb

set_option Elab.async false
set_option linter.all false
set_option maxRecDepth 100000
set_option maxHeartbeats 4000000
namespace CpCmb
open PySem PySem.Spec PyProof.Rows L2
theorem rows_small : ∀ n, n ≤ 6 → ∀ r, r ≤ n → ((rowsOf 0 n r).all fun row => row.all (fun k => decide (k < n)) && decide (row.length ≤ 6)) = true := by decide +kernel
theorem runs_at {f : List Nat → Option (List Nat)} : ∀ {rows : List (List Nat)} {i : Nat} {x : List Nat}, runsB f rows = true → rows[i]? = some x → f x = rows[i + 1]?
  | [x], 0, _, h, e => by
    cases e
    unfold runsB at h
    simpa using h
  | [x], i + 1, _, _, e => by simp at e
  | x :: y :: r, 0, _, h, e => by
    cases e
    unfold runsB at h
    rw [Bool.and_eq_true] at h
    have := h.1
    simpa using this
  | x :: y :: r, i + 1, z, h, e => by
    unfold runsB at h
    rw [Bool.and_eq_true] at h
    exact runs_at (rows := y :: r) (i := i) h.2 e
def Itb (rows : List (List Nat)) : It := ⟨fun i _ => i < rows.length, fun i H v H' => ∃ T row, rows[i]? = some row ∧ v = .ref T ∧ H T = none ∧ H' = upd H T (.tup (row.map fun k : Nat => V.int (k : Int))), fun i _ => rows.length ≤ i⟩
/-- the pool: the numbers below n -/
def PoolOk (h : Heap) (pool : Addr) (n : Nat) : Prop := ∃ (items : Array Value) (c : Nat) (po : Obj), h.get? pool = some po ∧ po.data = .seq items c ∧ items.size = n ∧ ∀ i, i < n → ∃ t, items.getD i .none = .int (i : Int) t
def CmbT (it pool : Addr) (n : Nat) (rows : List (List Nat)) (i : Nat) (h : Heap) : Prop := ∃ st res idx, IsCmb h it pool st res idx ∧ PoolOk h pool n ∧ pool ≠ it ∧ ((i = 0 ∧ st = 0 ∧ rows[0]? = some idx) ∨ (0 < i ∧ st = 1 ∧ rows[i - 1]? = some idx))
theorem vals_row {items : Array Value} {n : Nat} (h : ∀ i, i < n → ∃ t, items.getD i .none = .int (i : Int) t) : ∀ {row : List Nat}, (∀ k ∈ row, k < n) → Vals (row.map fun k : Nat => V.int (k : Int)) (row.map fun i => items.getD i .none)
  | [], _ => .nil
  | k :: r, hk => .cons (by
      obtain ⟨t, e⟩ := h k (hk k (List.mem_cons_self ..))
      show RelV (V.int (k : Int)) (items.getD k .none)
      rw [e]
      exact ⟨t, rfl⟩) (vals_row h fun j hj => hk j (List.mem_cons_of_mem _ hj))
theorem turn_cmb {P : Program} {w : World} {K : PySem.W.Frag} {f : Nat → List Nat → Option (List Nat)} {x : Str} {px : Pos} {it pool : Addr} {n : Nat} {rows : List (List Nat)} (FI : ItemP f) (FE : EndP f) (hr : runsB (f n) rows = true) (hs : ∀ row ∈ rows, (∀ k ∈ row, k < n) ∧ row.length ≤ 6) (hne : rows ≠ []) :
    Turn P w K (.Name x px) (Itb rows) [it, pool] it (CmbT it pool n rows) where
  mem := by simp
  obj := fun i h ⟨st, res, idx, hit, ⟨items, c, po, hp, hd, _, _⟩, _, _⟩ b hb => by
    rcases List.mem_cons.mp hb with z | z
    · rw [z]; exact ⟨_, hit, fun v e => by cases e⟩
    · rw [List.mem_singleton.mp z]; exact ⟨po, hp, fun v e => by rw [hd] at e; cases e⟩
  keep := fun i h h' ⟨st, res, idx, hit, ⟨items, c, po, hp, hd, h1, h2⟩, hpi, q⟩ k =>
    ⟨st, res, idx, k it (by simp) _ hit, ⟨items, c, po, k pool (by simp) _ hp, hd, h1, h2⟩, hpi, q⟩
  item := by
    intro X hP hw hK hc i pins s σ H E I hf st hg
    subst hP hw hK
    obtain ⟨sta, res, idx, hit, ⟨items, c, po, hp, hd, h1, h2⟩, hpi, q⟩ := st
    have hg : i < rows.length := hg
    obtain ⟨row, hrow⟩ : ∃ row, rows[i]? = some row := ⟨_, List.getElem?_eq_getElem hg⟩
    obtain ⟨hk, hl⟩ := hs row (List.mem_of_getElem? hrow)
    have fin : ∀ h', IsCmb h' it pool 1 (.ref s.heap.objs.size) row → h'.get? s.heap.objs.size = some { cls := .type "tuple", data := .seq (row.map fun i => items.getD i .none).toArray } → (∀ b o, b ≠ it → s.heap.get? b = some o → h'.get? b = some o) →
        ∃ u, some (Value.ref s.heap.objs.size) = some u ∧ wpAny (model X.prog X.w) X.A (letOwnedTupleGo (.Name x px) (.ref it) u) (fun _ s2 => ∃ x H', Inv X pins σ H' s2 ∧ RelV x u ∧ (Itb rows).yld i H x H' ∧ CmbT it pool n rows (i + 1) s2.heap ∧ ∀ b ∈ [it, pool], H' b = none) E { s with heap := h' } := fun h' a b k => by
      have nT : H s.heap.objs.size = none := I.hok.fresh (Nat.le_refl _)
      have nit : ∀ b ∈ [it, pool], b < s.heap.objs.size := fun b hb => by
        rcases List.mem_cons.mp hb with z | z
        · rw [z]; exact Heap.lt_size hit
        · rw [List.mem_singleton.mp z]; exact Heap.lt_size hp
      have I1 : Inv X pins σ (upd H s.heap.objs.size (.tup (row.map fun k : Nat => V.int (k : Int)))) { s with heap := h' } :=
        I.turnedNew (t' := s.toks) (ch := [it]) (fun b o hb e => k b o (by simpa using hb) e) (fun b hb => hf b (by rw [List.mem_singleton.mp hb]; simp)) (Nat.le_refl _)
          ⟨by show (row.map _).length ≤ sizeLine; rw [List.length_map]; exact Nat.le_trans hl (by decide), _, vals_row h2 hk, ⟨_, b, rfl, _, rfl⟩⟩
      refine ⟨_, rfl, wpAny_pure ⟨.ref s.heap.objs.size, _, I1, rfl, ⟨_, row, hrow, rfl, nT, rfl⟩, ⟨1, _, row, a, ⟨items, c, po, k pool po hpi hp, hd, h1, h2⟩, hpi, .inr ⟨by omega, rfl, hrow⟩⟩, fun b hb => ?_⟩⟩
      rw [upd_ne (Nat.ne_of_lt (nit b hb))]
      exact (hf b hb).1
    rcases q with ⟨i0, rfl, e⟩ | ⟨i1, rfl, e⟩
    · subst i0
      rw [hrow] at e
      cases e
      exact next_first hit hp hd hpi (Nat.le_trans hl (by decide)) fin
    · have e2 := runs_at hr e
      rw [show i - 1 + 1 = i by omega, hrow, ← h1] at e2
      exact next_item FI hit hp hd hpi (Nat.le_trans hl (by decide)) e2 fin
  done := by
    intro X hP hw hK hc i pins s σ H E I hf st hg
    subst hP hw hK
    obtain ⟨sta, res, idx, hit, ⟨items, c, po, hp, hd, h1, h2⟩, hpi, q⟩ := st
    have hg : rows.length ≤ i := hg
    rcases q with ⟨i0, _, e⟩ | ⟨i1, rfl, e⟩
    · have : 0 < rows.length := List.length_pos_iff.mpr hne
      omega
    · have e2 := runs_at hr e
      rw [show i - 1 + 1 = i by omega, List.getElem?_eq_none hg, ← h1] at e2
      exact next_end FE (I.ok.hd hc) hit hp hd e2 fun h' k => ⟨rfl, I.turnedL (t' := s.toks) (ch := [it]) (fun b o hb e => k b o (by simpa using hb) e) (fun b hb => hf b (by rw [List.mem_singleton.mp hb]; simp))⟩
  self := fun A i s Q E ⟨st, res, idx, hit, _⟩ h => iter_cmb hit h
end CpCmb

set_option Elab.async false
set_option linter.all false
set_option maxRecDepth 100000
set_option maxHeartbeats 4000000
namespace CpCmb
open PySem PySem.Spec PyProof.Rows
section
variable {prog : Program} {w : World} {A : Around} {E : Value → Shared → Prop} {s : Shared}
theorem wp_class {a b : Value} {Q : Value × List Value → Shared → Prop} (h : Q (.type "itertools.combinations", [a, b]) s) : wpAny (model prog w) A (Builtin.Itertools.itClassAndRest "combinations" ⟨[.type "itertools.combinations", a, b], []⟩) Q E s := by
  have happ : ("itertools." ++ "combinations" : String) = "itertools.combinations" := by decide
  unfold Builtin.Itertools.itClassAndRest
  have hsub : isSubtype (.type "itertools.combinations") (.type ("itertools." ++ "combinations")) = pure true := by rw [happ]; exact sub_cmb
  repeat (first
      | wp_step
      | simp only [List.head?_cons, List.length_cons, List.length_nil, Bool.not_true, Bool.false_eq_true, if_false]
      | (refine wpAny_of_eq hsub ?_))
  all_goals first | exact h
theorem wp_named {a b : Value} {Q : List (Option Value) → Shared → Prop} (h : Q [some a, some b] s) : wpAny (model prog w) A (Builtin.Itertools.itBindNamed "combinations" ["iterable", "r"] 2 2 [a, b] []) Q E s :=
  wpAny_of_eq (show Builtin.Itertools.itBindNamed "combinations" ["iterable", "r"] 2 2 [a, b] [] = pure [some a, some b] from rfl) h
theorem wp_ssize {c : Nat} {tc : Tok} {Q : Int → Shared → Prop} (hc : c ≤ 1000) (h : Q (c : Int) s) : wpAny (model prog w) A (Builtin.Itertools.itSsizeArg (.int (c : Int) tc)) Q E s := by
  have hn' : ¬ ((decide ((c : Int) < -(2 ^ 63 : Int)) || decide ((c : Int) ≥ 2 ^ 63)) = true) := by
    rw [decide_eq_false (show ¬ (c : Int) < -(2 ^ 63 : Int) by omega), decide_eq_false (show ¬ (c : Int) ≥ 2 ^ 63 by omega)]
    decide
  unfold Builtin.Itertools.itSsizeArg
  show wpAny _ _ (asIndex (.int (c : Int) tc) >>= _) _ _ s
  refine wpAny_bind ?_
  unfold asIndex
  repeat (first | wp_step | (refine wpAny_ite_false (decide_eq_false hn') ?_))
  all_goals first | exact h
end
end CpCmb

set_option Elab.async false
set_option linter.all false
set_option maxRecDepth 100000
set_option maxHeartbeats 4000000
namespace CpCmb
open PySem PySem.Spec PyProof.Rows
section
variable {prog : Program} {w : World} {A : Around} {E : Value → Shared → Prop} {s : Shared}
theorem call_cmb {r : Addr} {n c : Nat} {t u v tc : Tok} {Q : Value → Shared → Prop} (hh : A.handled = none) (hr : IsRange s.heap r 0 (n : Int) 1 t u v) (hrs : s.heap.objs.size ≤ r + 1) (hn : n ≤ 1000) (hc : c ≤ n)
    (h : ∀ h' pool tk, s.heap.objs.size ≤ pool → IsCmb h' (pool + 1) pool 0 .none (List.range c) → PoolOk h' pool n → (∀ b o, s.heap.get? b = some o → h'.get? b = some o) → Q (.ref (pool + 1)) { s with heap := h', toks := tk }) :
    wpAny (model prog w) A (call (.type "itertools.combinations") [.ref r, .int (c : Int) tc]) Q E s := by
  refine callType_newIn called_cmb (by decide +kernel) (typeCall_cmb_2 _ _) (newCall_cmb_2 _ _) (fun obj => F.args_object_init_3 obj _ _) entry_cmb_new (S := fun A R s => wpAny (model prog w) A.in1 (Builtin.«itertools.combinations.__new__» ⟨[.type "itertools.combinations", .ref r, .int (c : Int) tc], []⟩) (fun fin s' => match fin with | .done f => R (.ok f) s' | .again c' => c'.quiet = true ∧ codeAny (model prog w) A c' R s') (fun e s' => R (.error e) s') s) (fun A R s h => h) ?_
  unfold Builtin.«itertools.combinations.__new__»
  refine wpAny_bind ?_
  show wpAny _ A.in1.in1 (Builtin.Itertools.itClassAndRest "combinations" ⟨[.type "itertools.combinations", .ref r, .int (c : Int) tc], []⟩ >>= _) _ _ s
  refine wpAny_bind (wp_class ?_)
  show wpAny _ A.in1.in1 (Builtin.Itertools.itBindNamed "combinations" ["iterable", "r"] 2 2 [.ref r, .int (c : Int) tc] [] >>= _) _ _ s
  refine wpAny_bind (wp_named ?_)
  show wpAny _ A.in1.in1 (Builtin.Itertools.itSsizeArg (.int (c : Int) tc) >>= _) _ _ s
  refine wpAny_bind (wp_ssize (by omega) ?_)
  show wpAny _ A.in1.in1 (collect (.ref r) >>= _) _ _ s
  refine wpAny_bind (L2.collect_range (A := A.in1.in1) hh hr (small_one (by omega) (by omega) (by omega) (by omega)) (n := n) (by rw [rangeSize_nat]; congr 1) (by omega) fun h' tk acc hk hacc => ?_)
  dsimp only
  rw [if_neg (show ¬ (c : Int) < 0 by omega), if_neg (show ¬ Builtin.Itertools.itTooMany (c : Int) = true by unfold Builtin.Itertools.itTooMany; rw [decide_eq_false (by omega)]; decide)]
  refine wpAny_bind (wpAny_newTuple ?_ (by rw [Array.length_toList, hacc.1]; exact Nat.le_trans hn (by decide)))
  refine wpAny_pure ?_
  dsimp only
  rw [Int.toNat_natCast, Array.length_toList, hacc.1, if_neg (show ¬ c > n by omega)]
  refine wpAny_bind ?_
  have hd := noDict_cmb
  unfold Builtin.Itertools.itNewRecord
  rw [hd]
  rw [if_pos (by decide)]
  refine wpAny_newObj_type ?_ (by
    have e : (([Value.ref h'.objs.size, rawInt 0, Value.none] ++ (List.range c).map fun (i : Nat) => rawInt i).toArray).size = c + 3 := by simp
    show _ ≤ sizeLine + 2
    exact Nat.le_trans (Nat.le_of_eq e) (Nat.le_trans (show c + 3 ≤ 2000 by omega) (by decide)))
  refine wpAny_pure ?_
  have hsz : (h'.push { cls := .type "tuple", data := .seq acc.toList.toArray }).objs.size = h'.objs.size + 1 := size_push' ..
  have gP : ((h'.push { cls := .type "tuple", data := .seq acc.toList.toArray }).push { cls := .type "itertools.combinations", data := .fields (cmbF h'.objs.size 0 .none (List.range c)).toArray }).get? h'.objs.size = some { cls := .type "tuple", data := .seq acc.toList.toArray } := Heap.get?_push_of_some _ (Heap.get?_push_size _ rfl)
  have gR : ((h'.push { cls := .type "tuple", data := .seq acc.toList.toArray }).push { cls := .type "itertools.combinations", data := .fields (cmbF h'.objs.size 0 .none (List.range c)).toArray }).get? (h'.objs.size + 1) = some (cmbO h'.objs.size 0 .none (List.range c)) := by
    rw [← hsz]
    exact Heap.get?_push_size _ rfl
  have hle : s.heap.objs.size ≤ h'.objs.size := Nat.le_trans hrs (Heap.lt_size (hk r _ hr))
  have q := h _ h'.objs.size tk hle gR ⟨acc.toList.toArray, _, _, gP, rfl, by rw [Array.toArray_toList]; exact hacc.1, fun i hi => ?_⟩ (fun b o e => Heap.get?_push_of_some _ (Heap.get?_push_of_some _ (hk b o e)))
  · rw [← hsz] at q gR
    exact ⟨⟨_, gR, rfl⟩, q⟩
  · have hi' : i < acc.size := by rw [hacc.1]; exact hi
    obtain ⟨t, e⟩ := hacc.2 i acc[i] (Array.getElem?_eq_getElem hi')
    refine ⟨t, ?_⟩
    rw [Array.toArray_toList, Array.getD_eq_getD_getElem?, Array.getElem?_eq_getElem hi']
    show acc[i] = _
    rw [e]
    congr 1
    omega
end
end CpCmb

set_option Elab.async false
set_option linter.all false
set_option maxRecDepth 100000
set_option maxHeartbeats 4000000
namespace CpCmb
open PySem PySem.Spec PyProof.Rows L2
def iComb (ta : TE) (j : Nat) : TI := fun σ H R => ta σ H fun x H1 => ∃ n c : Nat, x = .int (n : Int) ∧ σ[j]? = some (some (.int (c : Int))) ∧ n ≤ 6 ∧ c ≤ n ∧ R (Itb (rowsOf 0 n c)) H1
theorem rows_first : ∀ n, n ≤ 6 → ∀ r, r ≤ n → (rowsOf 0 n r)[0]? = some (List.range r) := by decide +kernel
theorem pi_comb {X : Cx} {x y : Str} {px py p p2 pos pos2 : Pos} {a : Expr} {ta : TE} {j : Nat} (hc : X.calm = true) (hgc : Gl X "combinations") (hmc : X.mg "combinations" = some (.type "itertools.combinations")) (hg : Gl X "range") (hm : X.mg "range" = none) (ha : PE X a ta)
    (hN : X.N[j]? = some y) (hv : Vis X.env.scope y) (hd : (y == ("__debug__" : Str)) = false := by decide) (hcd : (y == ("__classdict__" : Str)) = false := by decide)
    (na : starEach [a] X.env = (false, eval a X.env) :: starEach [] X.env := by rfl) :
    PI X (.Name x px) (.Call (.Name "combinations" p) [.Call (.Name "range" p2) [a] [] pos2, .Name y py] [] pos) (iComb ta j) := by
  obtain ⟨f, FI, FE, SP⟩ := cmb_f
  refine ⟨fun pins s σ H R I h => ?_⟩
  have n1 : starEach [.Call (.Name "range" p2) [a] [] pos2, .Name y py] X.env = (false, eval (.Call (.Name "range" p2) [a] [] pos2) X.env) :: starEach [.Name y py] X.env := by rfl
  have n2 : starEach [.Name y py] X.env = (false, eval (.Name y py) X.env) :: starEach [] X.env := by rfl
  refine Call_ (ld_glob I hgc hmc (PyProof.Rows.callWith_type1 (args_cons (Call_ (ld_blt I hg hm boot_range (PyProof.Rows.callWith_type1 (one_arg ha I h (fun v s2 z H2 I2 r q => ?_) na) na))) n1) n1 (by rfl)) (by decide))
  obtain ⟨n, c, rfl, hσ, hn, hcn, hR⟩ := q
  obtain ⟨t, rfl⟩ := r
  refine call_range_1 ?_
  have I3 : Inv X pins σ H2 { s2 with heap := s2.heap.push { cls := .type "range", data := .fields #[.int 0 s2.toks, .int (n : Int) t, .int 1 (s2.toks + 1)] }, toks := s2.toks + 1 + 1 } := I2.kept (t' := s2.toks + 1 + 1) fun b o e => Heap.get?_push_of_some _ e
  obtain ⟨u, ru, hu⟩ := (Gq.ex_var (pos := py) hN hv hd hcd).run pins σ H2 _ (.int (c : Int)) I3 hσ
  refine args_cons (hu _ _ (args_nil ?_)) n2
  obtain ⟨tc, rfl⟩ := ru
  have hsz : (s2.heap.push { cls := .type "range", data := .fields #[.int 0 s2.toks, .int (n : Int) t, .int 1 (s2.toks + 1)] }).objs.size = s2.heap.objs.size + 1 := size_push' ..
  refine call_cmb (I3.ok.hd hc) (IsRange.new _ _ _ _ _ _ _) (Nat.le_of_eq hsz) (by omega) hcn fun h' pool tk hle hC hP hk => ?_
  have I4 := I3.kept (t' := tk) hk
  have hs : ∀ row ∈ rowsOf 0 n c, (∀ k ∈ row, k < n) ∧ row.length ≤ 6 := fun row hrow => by
    have q := List.all_eq_true.mp (rows_small n hn c hcn) row hrow
    rw [Bool.and_eq_true, List.all_eq_true] at q
    exact ⟨fun k hk => of_decide_eq_true (q.1 k hk), of_decide_eq_true q.2⟩
  have h0 := rows_first n hn c hcn
  have hne : rowsOf 0 n c ≠ [] := fun z => by rw [z] at h0; cases h0
  refine iter_cmb hC ⟨pool + 1, [pool + 1, pool], CmbT (pool + 1) pool n (rowsOf 0 n c), Itb (rowsOf 0 n c), H2, rfl, I4, turn_cmb FI FE (SP n hn c hcn) hs hne, ⟨0, .none, List.range c, hC, hP, Nat.ne_of_lt (Nat.lt_succ_self _), .inl ⟨rfl, rfl, h0⟩⟩, fun b hb => ?_, hR⟩
  have hb' : (s2.heap.push { cls := .type "range", data := .fields #[.int 0 s2.toks, .int (n : Int) t, .int 1 (s2.toks + 1)] }).objs.size ≤ b := by
    rcases List.mem_cons.mp hb with z | z
    · rw [z]; exact Nat.le_succ_of_le hle
    · rw [List.mem_singleton.mp z]; exact hle
  exact I3.fpOk hb' (I3.hok.fresh hb')
end CpCmb

set_option Elab.async false
set_option linter.all false
set_option maxRecDepth 100000
set_option maxHeartbeats 4000000
namespace CpCmb
open PySem PySem.Spec PyProof.Rows L2
/-! ### combinations of a list -/
theorem next_over {prog : Program} {w : World} {A : Around} {E : Value → Shared → Prop} {s : Shared} {it pool : Addr} {res : Value} {idx : List Nat} {Q : Option Value → Shared → Prop} (hh : A.handled = none) (hit : IsCmb s.heap it pool 2 res idx)
    (hQ : ∀ h', Heap.ExtBut it s.heap h' → Q none { s with heap := h' }) : wpAny (model prog w) A (pyNext (.ref it)) Q E s := by
  unfold pyNext
  refine wpAny_bind (wpAny_attempt (cmb_over hh hit fun e h' st x => ?_))
  obtain ⟨a, o, vs, rfl, ho, hc, _⟩ := st
  exact wpAny_bind (wpAny_isInstance (T := "StopIteration") (b := true) ⟨o, ho, hc⟩ isSubtype_stop (wpAny_pure (hQ _ x)))
/-- the items of one row -/
def pick (xs : List V) (row : List Nat) : List V := row.map fun k => xs.getD k .non
def Itp (rows : List (List Nat)) (xs : List V) : It := ⟨fun i _ => i < rows.length, fun i H v H' => ∃ T row, rows[i]? = some row ∧ v = .ref T ∧ H T = none ∧ H' = upd H T (.tup (pick xs row)), fun i _ => rows.length ≤ i⟩
def PoolL (h : Heap) (pool : Addr) (vs : List Value) : Prop := ∃ (c : Nat) (po : Obj), h.get? pool = some po ∧ po.data = .seq vs.toArray c
def CmbL (it pool : Addr) (vs : List Value) (rows : List (List Nat)) (i : Nat) (h : Heap) : Prop := ∃ st res idx, IsCmb h it pool st res idx ∧ PoolL h pool vs ∧ pool ≠ it ∧ ((i = 0 ∧ st = 0 ∧ rows[0]? = some idx) ∨ (0 < i ∧ st = 1 ∧ rows[i - 1]? = some idx) ∨ (i = 0 ∧ st = 2 ∧ rows = []))
theorem vals_at {xs : List V} {vs : List Value} (r : Vals xs vs) : ∀ {k : Nat}, k < vs.length → RelV (xs.getD k .non) (vs.getD k .none) := by
  induction r with
  | nil => intro k h; exact absurd h (Nat.not_lt_zero _)
  | cons h t ih =>
    intro k hk
    cases k with
    | zero => exact h
    | succ k => exact ih (Nat.lt_of_succ_lt_succ hk)
theorem vals_pick {xs : List V} {vs : List Value} (r : Vals xs vs) : ∀ {row : List Nat}, (∀ k ∈ row, k < vs.length) → Vals (pick xs row) (row.map fun i => vs.toArray.getD i .none)
  | [], _ => .nil
  | k :: t, hk => .cons (by
      show RelV (xs.getD k .non) (vs.toArray.getD k .none)
      have : vs.toArray.getD k .none = vs.getD k .none := by
        rw [Array.getD_eq_getD_getElem?, List.getElem?_toArray]
        rfl
      rw [this]
      exact vals_at r (hk k (List.mem_cons_self ..))) (vals_pick r fun j hj => hk j (List.mem_cons_of_mem _ hj))
theorem turn_cmbL {P : Program} {w : World} {K : PySem.W.Frag} {f : Nat → List Nat → Option (List Nat)} {x : Str} {px : Pos} {it pool : Addr} {xs : List V} {vs : List Value} {rows : List (List Nat)} (FI : ItemP f) (FE : EndP f) (rv : Vals xs vs) (hr : ∀ i x, rows[i]? = some x → f vs.length x = rows[i + 1]?) (hs : ∀ row ∈ rows, (∀ k ∈ row, k < vs.length) ∧ row.length ≤ 6) :
    Turn P w K (.Name x px) (Itp rows xs) [it, pool] it (CmbL it pool vs rows) where
  mem := by simp
  obj := fun i h ⟨st, res, idx, hit, ⟨c, po, hp, hd⟩, _, _⟩ b hb => by
    rcases List.mem_cons.mp hb with z | z
    · rw [z]; exact ⟨_, hit, fun v e => by cases e⟩
    · rw [List.mem_singleton.mp z]; exact ⟨po, hp, fun v e => by rw [hd] at e; cases e⟩
  keep := fun i h h' ⟨st, res, idx, hit, ⟨c, po, hp, hd⟩, hpi, q⟩ k =>
    ⟨st, res, idx, k it (by simp) _ hit, ⟨c, po, k pool (by simp) _ hp, hd⟩, hpi, q⟩
  item := by
    intro X hP hw hK hc i pins s σ H E I hf st hg
    subst hP hw hK
    obtain ⟨sta, res, idx, hit, ⟨c, po, hp, hd⟩, hpi, q⟩ := st
    have hg : i < rows.length := hg
    obtain ⟨row, hrow⟩ : ∃ row, rows[i]? = some row := ⟨_, List.getElem?_eq_getElem hg⟩
    obtain ⟨hk, hl⟩ := hs row (List.mem_of_getElem? hrow)
    have fin : ∀ h', IsCmb h' it pool 1 (.ref s.heap.objs.size) row → h'.get? s.heap.objs.size = some { cls := .type "tuple", data := .seq (row.map fun i => vs.toArray.getD i .none).toArray } → (∀ b o, b ≠ it → s.heap.get? b = some o → h'.get? b = some o) →
        ∃ u, some (Value.ref s.heap.objs.size) = some u ∧ wpAny (model X.prog X.w) X.A (letOwnedTupleGo (.Name x px) (.ref it) u) (fun _ s2 => ∃ x H', Inv X pins σ H' s2 ∧ RelV x u ∧ (Itp rows xs).yld i H x H' ∧ CmbL it pool vs rows (i + 1) s2.heap ∧ ∀ b ∈ [it, pool], H' b = none) E { s with heap := h' } := fun h' a b k => by
      have nT : H s.heap.objs.size = none := I.hok.fresh (Nat.le_refl _)
      have nit : ∀ b ∈ [it, pool], b < s.heap.objs.size := fun b hb => by
        rcases List.mem_cons.mp hb with z | z
        · rw [z]; exact Heap.lt_size hit
        · rw [List.mem_singleton.mp z]; exact Heap.lt_size hp
      have I1 : Inv X pins σ (upd H s.heap.objs.size (.tup (pick xs row))) { s with heap := h' } :=
        I.turnedNew (t' := s.toks) (ch := [it]) (fun b o hb e => k b o (by simpa using hb) e) (fun b hb => hf b (by rw [List.mem_singleton.mp hb]; simp)) (Nat.le_refl _)
          ⟨by show (row.map _).length ≤ sizeLine; rw [List.length_map]; exact Nat.le_trans hl (by decide), _, vals_pick rv hk, ⟨_, b, rfl, _, rfl⟩⟩
      refine ⟨_, rfl, wpAny_pure ⟨.ref s.heap.objs.size, _, I1, rfl, ⟨_, row, hrow, rfl, nT, rfl⟩, ⟨1, _, row, a, ⟨c, po, k pool po hpi hp, hd⟩, hpi, .inr (.inl ⟨by omega, rfl, hrow⟩)⟩, fun b hb => ?_⟩⟩
      rw [upd_ne (Nat.ne_of_lt (nit b hb))]
      exact (hf b hb).1
    rcases q with ⟨i0, rfl, e⟩ | ⟨i1, rfl, e⟩ | ⟨i0, rfl, e⟩
    · subst i0
      rw [hrow] at e
      cases e
      exact next_first hit hp hd hpi (Nat.le_trans hl (by decide)) fin
    · have e2 := hr _ _ e
      rw [show i - 1 + 1 = i by omega, hrow] at e2
      exact next_item FI hit hp hd hpi (Nat.le_trans hl (by decide)) (by rw [List.size_toArray]; exact e2) fin
    · rw [e] at hg; exact absurd hg (Nat.not_lt_zero _)
  done := by
    intro X hP hw hK hc i pins s σ H E I hf st hg
    subst hP hw hK
    obtain ⟨sta, res, idx, hit, ⟨c, po, hp, hd⟩, hpi, q⟩ := st
    have hg : rows.length ≤ i := hg
    rcases q with ⟨i0, _, e⟩ | ⟨i1, rfl, e⟩ | ⟨i0, rfl, e⟩
    · have : 0 < rows.length := by
        have := (List.getElem?_eq_some_iff.mp e).1; exact this
      omega
    · have e2 := hr _ _ e
      rw [show i - 1 + 1 = i by omega, List.getElem?_eq_none hg] at e2
      exact next_end FE (I.ok.hd hc) hit hp hd (by rw [List.size_toArray]; exact e2) fun h' k => ⟨rfl, I.turnedL (t' := s.toks) (ch := [it]) (fun b o hb e => k b o (by simpa using hb) e) (fun b hb => hf b (by rw [List.mem_singleton.mp hb]; simp))⟩
    · exact next_over (I.ok.hd hc) hit fun h' k => ⟨rfl, I.turnedL (t' := s.toks) (ch := [it]) (fun b o hb e => k b o (by simpa using hb) e) (fun b hb => hf b (by rw [List.mem_singleton.mp hb]; simp))⟩
  self := fun A i s Q E ⟨st, res, idx, hit, _⟩ h => iter_cmb hit h
section
variable {prog : Program} {w : World} {A : Around} {E : Value → Shared → Prop} {s : Shared}
theorem call_cmbL {r : Addr} {vs : List Value} {c : Nat} {tc : Tok} {Q : Value → Shared → Prop} (hr : s.heap.IsList r vs.toArray) (hn : vs.length ≤ 1000) (hc : c ≤ 100)
    (h : ∀ h' pool, s.heap.objs.size ≤ pool → IsCmb h' (pool + 1) pool (if c > vs.length then 2 else 0) .none (List.range c) → PoolL h' pool vs → (∀ b o, s.heap.get? b = some o → h'.get? b = some o) → Q (.ref (pool + 1)) { s with heap := h' }) :
    wpAny (model prog w) A (call (.type "itertools.combinations") [.ref r, .int (c : Int) tc]) Q E s := by
  refine callType_newIn called_cmb (by decide +kernel) (typeCall_cmb_2 _ _) (newCall_cmb_2 _ _) (fun obj => F.args_object_init_3 obj _ _) entry_cmb_new (S := fun A R s => wpAny (model prog w) A.in1 (Builtin.«itertools.combinations.__new__» ⟨[.type "itertools.combinations", .ref r, .int (c : Int) tc], []⟩) (fun fin s' => match fin with | .done f => R (.ok f) s' | .again c' => c'.quiet = true ∧ codeAny (model prog w) A c' R s') (fun e s' => R (.error e) s') s) (fun A R s h => h) ?_
  unfold Builtin.«itertools.combinations.__new__»
  refine wpAny_bind ?_
  show wpAny _ A.in1.in1 (Builtin.Itertools.itClassAndRest "combinations" ⟨[.type "itertools.combinations", .ref r, .int (c : Int) tc], []⟩ >>= _) _ _ s
  refine wpAny_bind (wp_class ?_)
  show wpAny _ A.in1.in1 (Builtin.Itertools.itBindNamed "combinations" ["iterable", "r"] 2 2 [.ref r, .int (c : Int) tc] [] >>= _) _ _ s
  refine wpAny_bind (wp_named ?_)
  show wpAny _ A.in1.in1 (Builtin.Itertools.itSsizeArg (.int (c : Int) tc) >>= _) _ _ s
  refine wpAny_bind (wp_ssize (by omega) ?_)
  show wpAny _ A.in1.in1 (collect (.ref r) >>= _) _ _ s
  refine wpAny_bind (collect_list hr ?_ (Nat.le_trans hn (by decide)))
  generalize hh' : (s.heap.push (seqObj "list" #[] 0)).update s.heap.objs.size (Obj.mapSeq (· ++ vs.toArray)) = h'
  have hk : ∀ b o, s.heap.get? b = some o → h'.get? b = some o := fun b o q => by
    have hlt : b < s.heap.objs.size := Heap.lt_size q
    rw [← hh', Heap.get?_update_ne _ _ _ _ (Nat.ne_of_lt hlt)]
    exact Heap.get?_push_of_some _ q
  have hle : s.heap.objs.size ≤ h'.objs.size := by
    rw [← hh', Heap.size_update, size_push']
    omega
  dsimp only
  rw [if_neg (show ¬ (c : Int) < 0 by omega), if_neg (show ¬ Builtin.Itertools.itTooMany (c : Int) = true by unfold Builtin.Itertools.itTooMany; rw [decide_eq_false (by omega)]; decide)]
  refine wpAny_bind (wpAny_newTuple ?_ (Nat.le_trans hn (by decide)))
  refine wpAny_pure ?_
  dsimp only
  rw [Int.toNat_natCast]
  refine wpAny_bind ?_
  have hd := noDict_cmb
  unfold Builtin.Itertools.itNewRecord
  rw [hd]
  rw [if_pos (by decide)]
  refine wpAny_newObj_type ?_ (by
    have e : (([Value.ref h'.objs.size, rawInt (if c > vs.length then 2 else 0), Value.none] ++ (List.range c).map fun (i : Nat) => rawInt i).toArray).size = c + 3 := by simp
    show _ ≤ sizeLine + 2
    exact Nat.le_trans (Nat.le_of_eq e) (Nat.le_trans (show c + 3 ≤ 2000 by omega) (by decide)))
  refine wpAny_pure ?_
  have hsz : (h'.push { cls := .type "tuple", data := .seq vs.toArray }).objs.size = h'.objs.size + 1 := size_push' ..
  have gP : ((h'.push { cls := .type "tuple", data := .seq vs.toArray }).push { cls := .type "itertools.combinations", data := .fields (cmbF h'.objs.size (if c > vs.length then 2 else 0) .none (List.range c)).toArray }).get? h'.objs.size = some { cls := .type "tuple", data := .seq vs.toArray } := Heap.get?_push_of_some _ (Heap.get?_push_size _ rfl)
  have gR : ((h'.push { cls := .type "tuple", data := .seq vs.toArray }).push { cls := .type "itertools.combinations", data := .fields (cmbF h'.objs.size (if c > vs.length then 2 else 0) .none (List.range c)).toArray }).get? (h'.objs.size + 1) = some (cmbO h'.objs.size (if c > vs.length then 2 else 0) .none (List.range c)) := by
    rw [← hsz]
    exact Heap.get?_push_size _ rfl
  have q := h _ h'.objs.size hle gR ⟨_, _, gP, rfl⟩ (fun b o e => Heap.get?_push_of_some _ (Heap.get?_push_of_some _ (hk b o e)))
  rw [← hsz] at q gR
  exact ⟨⟨_, gR, rfl⟩, q⟩
end
def iCombL (K : PySem.W.Frag) (j1 j2 : Nat) : TI := fun σ H R => ∃ (a : Addr) (xs : List V) (c : Nat), σ[j1]? = some (some (.ref a)) ∧ σ[j2]? = some (some (.int (c : Int))) ∧ SqL K H a xs ∧ xs.length ≤ 1000 ∧ c ≤ 2 ∧ R (Itp (rws xs.length c) xs) H
theorem pi_combL {X : Cx} {K : PySem.W.Frag} {x y1 y2 : Str} {px py1 py2 p pos : Pos} {j1 j2 : Nat} (hK : X.K = K) (hc : X.calm = true) (hgc : Gl X "combinations") (hmc : X.mg "combinations" = some (.type "itertools.combinations"))
    (hN1 : X.N[j1]? = some y1) (hv1 : Vis X.env.scope y1) (hN2 : X.N[j2]? = some y2) (hv2 : Vis X.env.scope y2) (hd1 : (y1 == ("__debug__" : Str)) = false := by decide) (hcd1 : (y1 == ("__classdict__" : Str)) = false := by decide) (hd2 : (y2 == ("__debug__" : Str)) = false := by decide) (hcd2 : (y2 == ("__classdict__" : Str)) = false := by decide) :
    PI X (.Name x px) (.Call (.Name "combinations" p) [.Name y1 py1, .Name y2 py2] [] pos) (iCombL K j1 j2) := by
  subst hK
  obtain ⟨f, FI, FE, _, SP⟩ := cmb_f2
  refine ⟨fun pins s σ H R I h => ?_⟩
  have n1 : starEach [.Name y1 py1, .Name y2 py2] X.env = (false, eval (.Name y1 py1) X.env) :: starEach [.Name y2 py2] X.env := by rfl
  have n2 : starEach [.Name y2 py2] X.env = (false, eval (.Name y2 py2) X.env) :: starEach [] X.env := by rfl
  obtain ⟨a, xs, c, h1, h2, hs, hn, hcn, hR⟩ := h
  obtain ⟨u1, r1, hu1⟩ := (Gq.ex_var (pos := py1) hN1 hv1 hd1 hcd1).run pins σ H _ (.ref a) I h1
  obtain ⟨u2, r2, hu2⟩ := (Gq.ex_var (pos := py2) hN2 hv2 hd2 hcd2).run pins σ H _ (.int (c : Int)) I h2
  refine Call_ (ld_glob I hgc hmc (PyProof.Rows.callWith_type1 (args_cons (hu1 _ _ (args_cons (hu2 _ _ (args_nil ?_)) n2)) n1) n1 (by rfl)) (by decide))
  obtain ⟨tc, rfl⟩ := r2
  obtain rfl : u1 = Value.ref a := r1
  obtain ⟨its, rv, hl, hz⟩ := I.list hs
  have hlen := rv.length
  refine call_cmbL hl.isList (by omega) (by omega) fun h' pool hle hC hP hk => ?_
  have I4 := I.kept (t' := s.toks) hk
  have hs' : ∀ row ∈ rws xs.length c, (∀ k ∈ row, k < its.length) ∧ row.length ≤ 6 := fun row hrow => by
    obtain ⟨q1, q2, _⟩ := rws_in hcn row hrow
    exact ⟨fun k hk => by have := q1 k hk; omega, by omega⟩
  refine iter_cmb hC ⟨pool + 1, [pool + 1, pool], CmbL (pool + 1) pool its (rws xs.length c), Itp (rws xs.length c) xs, H, rfl, I4, turn_cmbL FI FE rv (fun i x e => by rw [SP, ← hlen]; exact runs_idx (runs_rws hcn) e) hs', ⟨_, .none, List.range c, hC, hP, Nat.ne_of_lt (Nat.lt_succ_self _), ?_⟩, fun b hb => ?_, hR⟩
  · by_cases cc : c > its.length
    · exact .inr (.inr ⟨rfl, if_pos cc, rws_none hcn (by omega)⟩)
    · exact .inl ⟨rfl, if_neg cc, rws_first hcn (by omega)⟩
  · have hb' : s.heap.objs.size ≤ b := by
      rcases List.mem_cons.mp hb with z | z
      · rw [z]; exact Nat.le_succ_of_le hle
      · rw [List.mem_singleton.mp z]; exact hle
    exact I.fpOk hb' (I.hok.fresh hb')
end CpCmb

set_option Elab.async false
set_option linter.all false
set_option maxRecDepth 100000
set_option maxHeartbeats 4000000
namespace Dk
open PySem PySem.Spec PyProof.Rows L2 TL
/-! ### reminders that are of no use -/
def withR (h : Hd) (qs : List Pr) : Hd := ⟨h.ts, h.ks, h.cs, qs⟩
theorem fold_same {h h' : Hd} {t : Int} (ek : h'.ks = h.ks) : ∀ (lv : List Int), (∀ q ∈ lv, thinks h' t q = thinks h t q) → ∀ a, lv.foldl (leaveStep h' t) a = lv.foldl (leaveStep h t) a
  | [], _, _ => rfl
  | q :: lv, hq, a => by
    have e : leaveStep h' t a q = leaveStep h t a q := by
      unfold leaveStep
      rw [hq q (.head _), ek]
    rw [List.foldl_cons, List.foldl_cons, e]
    exact fold_same ek lv (fun x hx => hq x (.tail _ hx)) _
theorem adv_same {h h' : Hd} {t : Int} {c : Cs} (et : h'.ts = h.ts) (ek : h'.ks = h.ks) (hq : ∀ q ∈ leaversOf (wishes h.ts t) (arrive (wishes h.ts t) c).1, thinks h' t q = thinks h t q) : adv h' t c = adv h t c := by
  have e : leaveAll h' t (wishes h.ts t) (arrive (wishes h.ts t) c).1 = leaveAll h t (wishes h.ts t) (arrive (wishes h.ts t) c).1 := fold_same ek _ hq _
  unfold adv depart
  rw [et, e, ek]
/-- reminders alike -/
theorem stt_mem {h : Hd} {qs qs' : List Pr} (e : ∀ r, r ∈ qs ↔ r ∈ qs') : ∀ n, stt (withR h qs) n = stt (withR h qs') n
  | 0 => rfl
  | n + 1 => by
    show (adv (withR h qs) (n : Int) (stt (withR h qs) n)).1 = (adv (withR h qs') (n : Int) (stt (withR h qs') n)).1
    rw [stt_mem e n, adv_same (h := withR h qs') (h' := withR h qs) rfl rfl fun q _ => ?_]
    unfold thinks
    show (decide (q ∈ h.cs) || decide (_ ∈ qs)) = (decide (q ∈ h.cs) || decide (_ ∈ qs'))
    congr 1
    exact decide_eq_decide.mpr (e _)
theorem sm_of_stt {h h' : Hd} (e : ∀ n, stt h' n = stt h n) : IsSm h' ↔ IsSm h := by
  unfold IsSm smAt
  constructor
  · intro k m; have := k m; rw [e] at this; exact this
  · intro k m; rw [e]; exact k m
theorem sm_mem {h : Hd} {qs qs' : List Pr} (e : ∀ r, r ∈ qs ↔ r ∈ qs') : IsSm (withR h qs) ↔ IsSm (withR h qs') := sm_of_stt (stt_mem e)
/-- who leaves wanted to be at home before -/
theorem leaver_was {h : Hd} {n : Nat} {q : Int} (hq : q ∈ leaversOf (wishes h.ts (n : Int)) (arrive (wishes h.ts (n : Int)) (stt h n)).1) :
    ∃ p : Nat, q = (p : Int) ∧ p < h.ts.length ∧ wants (wishes h.ts (n : Int)) q = false ∧ (n = 0 ∨ wants (wishes h.ts ((n : Int) - 1)) q = true) := by
  obtain ⟨h1, h2⟩ := List.mem_filter.mp hq
  have hw : wants (wishes h.ts (n : Int)) q = false := by simpa using h2
  have g := gd_arrive (wishes_len h.ts (n : Int)) (gd_stt h n)
  have hin := g.hi q h1
  obtain ⟨p, rfl⟩ := Int.eq_ofNat_of_zero_le hin.1
  have hp : p < h.ts.length := by have := hin.2; omega
  refine ⟨p, rfl, hp, hw, ?_⟩
  have hh : (p : Int) ∈ (stt h n).home := by
    unfold arrive at h1
    dsimp only at h1
    split at h1
    · exact h1
    · split at h1
      · rcases List.mem_append.mp (srt_mem.mp h1) with m | m
        · exact m
        · have := (List.mem_filter.mp m).2
          rw [hw] at this
          cases this
      · exact h1
  cases n with
  | zero => exact .inl rfl
  | succ n =>
    refine .inr ?_
    have := home_mem (h := h) n hp
    rw [decide_eq_true hh] at this
    have := (Bool.and_eq_true_iff.mp this.symm).1
    have e : (((n + 1 : Nat) : Int) - 1) = (n : Int) := by omega
    rw [e]; exact this
/-- reminders that differ only where nobody can leave -/
theorem stt_use {h : Hd} (hT : Tabs h.ts) {qs qs' : List Pr} (e : ∀ (t p : Nat) (x : Str), t < per h.ts → h.ts[p]? = some x → canL x (t : Int) = true → (((t : Int), (p : Int)) ∈ qs ↔ ((t : Int), (p : Int)) ∈ qs')) : ∀ n, stt (withR h qs) n = stt (withR h qs') n
  | 0 => rfl
  | n + 1 => by
    show (adv (withR h qs) (n : Int) (stt (withR h qs) n)).1 = (adv (withR h qs') (n : Int) (stt (withR h qs') n)).1
    rw [stt_use hT e n, adv_same (h := withR h qs') (h' := withR h qs) rfl rfl fun q hq => ?_]
    obtain ⟨p, rfl, hp, w1, w2⟩ := leaver_was hq
    have hp : p < h.ts.length := hp
    have w1 : wants (wishes h.ts (n : Int)) (p : Int) = false := w1
    have w2 : n = 0 ∨ wants (wishes h.ts ((n : Int) - 1)) (p : Int) = true := w2
    have hx : h.ts[p]? = some h.ts[p] := List.getElem?_eq_getElem hp
    have hpp := per_pos hT
    unfold thinks
    show (decide ((p : Int) ∈ h.cs) || decide (((n : Int) % ((per h.ts : Nat) : Int), (p : Int)) ∈ qs)) = (decide ((p : Int) ∈ h.cs) || decide (((n : Int) % ((per h.ts : Nat) : Int), (p : Int)) ∈ qs'))
    congr 1
    have em : (n : Int) % ((per h.ts : Nat) : Int) = ((n % per h.ts : Nat) : Int) := by omega
    rw [em]
    refine decide_eq_decide.mpr (e (n % per h.ts) p h.ts[p] (Nat.mod_lt _ (by omega)) hx ?_)
    rw [wants_of hx] at w1
    have hxm : h.ts[p] ∈ h.ts := List.getElem_mem hp
    have hl : ∀ a b : Int, a % ((per h.ts : Nat) : Int) = b % ((per h.ts : Nat) : Int) → homeL h.ts[p] a = homeL h.ts[p] b := fun a b eab => homeL_per hT hxm eab
    unfold canL
    rw [← hl (n : Int) _ (by rw [← em, Int.emod_emod_of_dvd _ (Int.dvd_refl _)]), w1]
    show (decide _ || homeL _ _) = true
    rcases w2 with rfl | w2
    · rw [Nat.zero_mod]; rfl
    · by_cases c : n % per h.ts = 0
      · rw [c]; rfl
      · rw [wants_of hx] at w2
        rw [Bool.or_eq_true]
        refine .inr ?_
        rw [← w2]
        refine (hl _ _ ?_)
        rw [← em]
        exact Int.emod_sub_emod _ _ _
theorem sm_use {h : Hd} (hT : Tabs h.ts) {qs qs' : List Pr} (e : ∀ (t p : Nat) (x : Str), t < per h.ts → h.ts[p]? = some x → canL x (t : Int) = true → (((t : Int), (p : Int)) ∈ qs ↔ ((t : Int), (p : Int)) ∈ qs')) : IsSm (withR h qs) ↔ IsSm (withR h qs') := sm_of_stt (stt_use hT e)
theorem mem_useful {h : Hd} {per : Nat} {r : Pr} : r ∈ useful h per ↔ ∃ (t p : Nat) (x : Str), r = ((t : Int), (p : Int)) ∧ t < per ∧ h.ts[p]? = some x ∧ canL x (t : Int) = true ∧ r ∉ h.rs := by
  unfold useful usefulAt
  constructor
  · intro m
    obtain ⟨t, ht, m⟩ := List.mem_flatMap.mp m
    obtain ⟨p, hp, rfl⟩ := List.mem_map.mp m
    obtain ⟨h1, h2⟩ := List.mem_filter.mp hp
    have hpl := List.mem_range.mp h1
    have hx : h.ts[p]? = some h.ts[p] := List.getElem?_eq_getElem hpl
    unfold useB at h2
    rw [hx, Bool.and_eq_true] at h2
    refine ⟨t, p, h.ts[p], rfl, List.mem_range.mp ht, hx, h2.1, ?_⟩
    simpa using h2.2
  · rintro ⟨t, p, x, rfl, ht, hx, hc, hn⟩
    refine List.mem_flatMap.mpr ⟨t, List.mem_range.mpr ht, List.mem_map.mpr ⟨p, List.mem_filter.mpr ⟨List.mem_range.mpr (List.getElem?_eq_some_iff.mp hx).1, ?_⟩, rfl⟩⟩
    unfold useB
    rw [hx]
    show (canL x (t : Int) && _) = true
    rw [hc, decide_eq_false hn]; rfl
theorem useful_nodup (h : Hd) (per : Nat) : (useful h per).Pairwise plt := by
  unfold useful usefulAt
  induction per with
  | zero => exact .nil
  | succ n ih =>
    rw [List.range_succ, List.flatMap_append]
    refine List.pairwise_append.mpr ⟨ih, ?_, fun a ha b hb => ?_⟩
    · simp only [List.flatMap_cons, List.flatMap_nil, List.append_nil]
      rw [List.pairwise_map]
      exact List.Pairwise.imp (fun hab => .inr ⟨rfl, by show ((_ : Nat) : Int) < ((_ : Nat) : Int); omega⟩) (List.Pairwise.filter _ List.pairwise_lt_range)
    · obtain ⟨t, ht, ha⟩ := List.mem_flatMap.mp ha
      obtain ⟨p, _, rfl⟩ := List.mem_map.mp ha
      simp only [List.flatMap_cons, List.flatMap_nil, List.append_nil] at hb
      obtain ⟨p', _, rfl⟩ := List.mem_map.mp hb
      have := List.mem_range.mp ht
      exact .inl (by show ((t : Nat) : Int) < ((n : Nat) : Int); omega)
/-! ### plans -/
open Classical in
noncomputable def smB (h : Hd) : Bool := decide (IsSm h)
open Classical in
theorem smB_iff {h : Hd} : smB h = true ↔ IsSm h := by unfold smB; exact decide_eq_true_iff
theorem smB_congr {h h' : Hd} (e : IsSm h ↔ IsSm h') : smB h = smB h' := by rw [Bool.eq_iff_iff, smB_iff, smB_iff, e]
theorem smB_no {h : Hd} : smB h = false ↔ ¬ IsSm h := by rw [← smB_iff]; cases smB h <;> simp
def sel (U : List Pr) (row : List Nat) : List Pr := row.map fun k => U.getD k (0, 0)
def most10 (h : Hd) (L : Nat) : Nat := min L (10 - h.rs.length)
def plansOf (U : List Pr) (m : Nat) : List (List Pr) := (List.range (m + 1)).flatMap fun c => (CpCmb.rws U.length c).map (sel U)
noncomputable def planOf (h : Hd) (L : Nat) : Option (List Pr) := (plansOf (useful h (per h.ts)) (most10 h L)).find? fun qs => smB (withR h (h.rs ++ qs))
theorem sel_mem {U : List Pr} {row : List Nat} (hr : ∀ k ∈ row, k < U.length) : ∀ r ∈ sel U row, r ∈ U := by
  intro r hr'
  obtain ⟨k, hk, rfl⟩ := List.mem_map.mp hr'
  have := hr k hk
  rw [List.getD_eq_getElem?_getD, List.getElem?_eq_getElem this]
  exact List.getElem_mem this
theorem prs_at {H : Hp} : ∀ {xs : List V} {rs : List Pr} {k : Nat}, Prs H xs rs → k < rs.length → PrAt H (xs.getD k .non) (rs.getD k (0, 0))
  | [], [], _, .nil, h => absurd h (Nat.not_lt_zero _)
  | x :: xs, r :: rs, 0, .cons a _, _ => a
  | x :: xs, r :: rs, k + 1, .cons _ q, h => prs_at (k := k) q (Nat.lt_of_succ_lt_succ h)
theorem prs_pick {H : Hp} {xs : List V} {U : List Pr} (h : Prs H xs U) : ∀ {row : List Nat}, (∀ k ∈ row, k < U.length) → Prs H (CpCmb.pick xs row) (sel U row)
  | [], _ => .nil
  | k :: r, hr => .cons (prs_at h (hr k (.head _))) (prs_pick h fun j hj => hr j (.tail _ hj))
theorem prs_app {H : Hp} {xs ys : List V} {rs qs : List Pr} (h : Prs H xs rs) (k : Prs H ys qs) : Prs H (xs ++ ys) (rs ++ qs) := by
  induction h with
  | nil => exact k
  | cons a _ ih => exact .cons a ih
theorem sel_pair {U : List Pr} (hU : U.Pairwise plt) {row : List Nat} (hr : ∀ k ∈ row, k < U.length) (hp : row.Pairwise (· < ·)) : (sel U row).Pairwise plt := by
  unfold sel
  rw [List.pairwise_map]
  refine hp.imp_of_mem fun {a b} ha hb hab => ?_
  have h1 := hr a ha
  have h2 := hr b hb
  rw [List.getD_eq_getElem?_getD, List.getD_eq_getElem?_getD, List.getElem?_eq_getElem h1, List.getElem?_eq_getElem h2]
  exact List.pairwise_iff_getElem.mp hU a b h1 h2 hab
theorem plt_ne {r s : Pr} (h : plt r s) : r ≠ s := by
  rintro rfl
  rcases h with h | ⟨_, h⟩ <;> omega
theorem find_flat {α : Type} {f : Nat → List α} {n c i : Nat} {x : α} (p : α → Bool) (hc : c ≤ n) (hi : (f c)[i]? = some x) (hp : p x = true) (h1 : ∀ c', c' < c → ∀ r ∈ f c', p r = false) (h2 : ∀ r ∈ (f c).take i, p r = false) : ((List.range (n + 1)).flatMap f).find? p = some x := by
  have e1 : List.range (n + 1) = List.range c ++ c :: (List.range (n - c)).map (fun x => c + (x + 1)) := by
    have e : n + 1 = c + (n - c + 1) := by omega
    rw [e, List.range_add, List.range_succ_eq_map, List.map_cons, List.map_map]
    rfl
  rw [e1, List.flatMap_append, List.flatMap_cons]
  have hil : i < (f c).length := (List.getElem?_eq_some_iff.mp hi).1
  have e2 : f c = (f c).take i ++ x :: (f c).drop (i + 1) := by
    have e := List.drop_eq_getElem_cons hil
    rw [(List.getElem?_eq_some_iff.mp hi).2] at e
    rw [← e, List.take_append_drop]
  rw [e2, List.find?_append, List.find?_append, List.find?_append]
  have z1 : ((List.range c).flatMap f).find? p = none := by
    rw [List.find?_eq_none]
    intro r hr
    obtain ⟨c', hc', hr⟩ := List.mem_flatMap.mp hr
    rw [h1 c' (List.mem_range.mp hc') r hr]; decide
  have z2 : ((f c).take i).find? p = none := by
    rw [List.find?_eq_none]
    intro r hr
    rw [h2 r hr]; decide
  rw [z1, z2, List.find?_cons, hp]; rfl
end Dk

set_option Elab.async false
set_option linter.all false
set_option maxRecDepth 100000
set_option maxHeartbeats 4000000
namespace Dk
open PySem PySem.Spec PyProof.Rows L2 TL
/-- reminders that a house may have, in any order -/
structure RemOk (h : Hd) (qs : List Pr) : Prop where
  nd : qs.Nodup
  rm : ∀ r ∈ qs, (0 : Int) ≤ r.1 ∧ r.1 < ((per h.ts : Nat) : Int) ∧ (0 : Int) ≤ r.2 ∧ r.2 < (h.ts.length : Int)
  r10 : qs.length ≤ 10
theorem Parts.rem {h : Hd} {qs rs' : List Pr} (hP : Parts h.ts h.ks h.cs h.rs) (hR : RemOk h qs) (p : rs'.Perm qs) (s : rs'.Pairwise plt) : Parts h.ts h.ks h.cs rs' :=
  ⟨hP.tabs, hP.n1, hP.n6, hP.k0, hP.k9, hP.cp, hP.cm, s, fun r hr => hR.rm r (p.mem_iff.mp hr), by rw [p.length_eq]; exact hR.r10⟩
def spWithR (K : PySem.W.Frag) (CH : Addr) : Sp := fun vs H Q _ => ∃ (hp a : Addr) (h : Hd) (xs : List V) (qs : List Pr), vs = [.ref hp, .ref a] ∧ HoAt K CH H hp h ∧ Parts h.ts h.ks h.cs h.rs ∧ SqL K H a xs ∧ Prs H xs qs ∧ RemOk h qs ∧
  ∀ (H' : Hp) (p : Addr) (rs' : List Pr), Same H H' → H p = none → rs'.Perm qs → HoAt K CH H' p (withR h rs') → Parts h.ts h.ks h.cs rs' → Q (.ref p) H'
/-- a plan -/
def PlanAt (H : Hp) (v : V) : Option (List Pr) → Prop
  | none => v = .non
  | some qs => ∃ T ys, v = .ref T ∧ H T = some (.tup ys) ∧ Prs H ys qs
theorem PlanAt.mono {H H' : Hp} {v : V} {o : Option (List Pr)} (h : PlanAt H v o) (s : Same H H') : PlanAt H' v o := by
  cases o with
  | none => exact h
  | some qs => obtain ⟨T, ys, e, q, r⟩ := h; exact ⟨T, ys, e, s _ _ q, r.mono fun t zs z => s _ _ z⟩
def spPlan (K : PySem.W.Frag) (CH : Addr) : Sp := fun vs H Q _ => ∃ (hp : Addr) (h : Hd) (L : Nat), vs = [.ref hp, .int (L : Int)] ∧ L ≤ 2 ∧ HoAt K CH H hp h ∧ Parts h.ts h.ks h.cs h.rs ∧
  ∀ (H' : Hp) (v : V), Same H H' → PlanAt H' v (planOf h L) → Q v H'
structure TxtPn (K : PySem.W.Frag) (mg : Str → Option Value) (fPn : Addr) (fdPn : FuncData) : Prop where
  FPn : Fun K "plan_reminders" "plan_reminders" sPlan fPn fdPn
  comb : mg "combinations" = some (.type "itertools.combinations")
  min : mg "min" = none
  mostP : ∃ t, mg "MOST_PLANNED" = some (.int 2 t)
  rems : ∃ t, mg "MOST_REMINDERS" = some (.int 10 t)
theorem prs_nilr {H : Hp} {ys : List V} {qs : List Pr} (h : Prs H ys qs) : Prs H (ys ++ []) qs := by rw [List.append_nil]; exact h
theorem walk_pick {rows : List (List Nat)} {xs : List V} : Walk (CpCmb.Itp rows xs) rows.length (fun _ => True) (fun i H v H' => ∃ T row, rows[i]? = some row ∧ v = .ref T ∧ H T = none ∧ H' = upd H T (.tup (CpCmb.pick xs row))) :=
  ⟨fun _ _ hi _ => hi, fun _ _ => Nat.le_refl _, fun _ _ _ _ _ _ y => y⟩
section
variable {P : Program} {w : World} {K : PySem.W.Frag} {mg : Str → Option Value} {base : Heap} {CC CH fHL : Addr} {fdHL : FuncData} {fLu fCl fWr : Addr} {fdLu fdCl fdWr : FuncData} {fCP pPe gPe pPs gPs : Addr} {fdCP fdPe fdPs : FuncData}
  {C fI : Addr} {fdI : FuncData} {fII fIB fHO : Addr} {fdII fdIB fdHO : FuncData} {fIT fIR fAs : Addr} {fdIT fdIR fdAs : FuncData}
  {fP fT fK fC fR : Addr} {fdP fdT fdK fdC fdR : FuncData} {fH : Addr} {fdH : FuncData} {dvs : List V} {fCi fAd fSn : Addr} {fdCi fdAd fdSn : FuncData} {fSo fSm : Addr} {fdSo fdSm : FuncData} {fPn : Addr} {fdPn : FuncData}
theorem scWithR : FnScope ["house", "reminders"] ["house", "reminders"] (defScope sWithR) := ⟨rfl, rfl, rfl, by decide +kernel, rfl, by decide +kernel, by decide +kernel⟩
theorem ok_withr (PL : TxtPl K mg fLu fCl fWr fdLu fdCl fdWr) (C' : TxtCo K mg CC CH fHL fdHL) (T : TxtA mg) (TC : TxtC mg) (TF : TxtF K mg fII fIB fHO fdII fdIB fdHO) (TI : TxtI K mg fIT fIR fAs fdIT fdIR fdAs) (TH : TxtIH K mg C fI fdI)
    (TL' : TxtL K mg CH fP fT fK fC fR fdP fdT fdK fdC fdR)
    (FH : FunD K "__init__" "House.__init__" (defArgs sInit) (defBody sInit) (defScope sInit) dvs [] fH fdH) (bH : Binds K fdH ["self", "tables", "keys", "careful", "reminders"] []) (M : Mk K CH fH) (gH : mg "House" = some (.ref CH)) :
    FnOk P w K mg base CX0 7 fWr fdWr ["house", "reminders"] (spWithR K CH) := by
  have GH : FnOk P w K mg base (L2.CX P w) 5 fH fdH ["self", "tables", "keys", "careful", "reminders"] (spInit K CH C) := ok_init FH T TC TF TI TH TL'
  refine PL.FWr.ok scWithR (fun vs H Q E h => ?_) (fun cdv A outer s H vs Q E hr h => ?_)
  · obtain ⟨hp, a, h, xs, qs, rfl, _⟩ := h
    rfl
  · obtain ⟨hp, a, h, xs, qs, rfl, hho, hP, hl, hq, hR, k⟩ := h
    refine ⟨_, pss_one (ps_ret (pe_make M GH hr rfl gH bH .nil passL (pa_cons (pe_fld (pv 0) rfl) (pa_cons (pe_fld (pv 0) rfl) (pa_cons (pe_fld (pv 0) rfl) (pa_cons (pe_callTy call_tuple_of (by rfl) C'.tuple (by decide +kernel) (pa_cons (pe_callB cr_sortedPO (by rfl) C'.sorted (by decide +kernel) (pa_cons (pv 1) pa_nil)) pa_nil)) pa_nil)))))), ?_⟩
    obtain ⟨⟨d, bT, bC, bR, ys, g1, g2, g3, g4, g5⟩⟩ := id hho
    refine ⟨_, rfl, hp, CH, d, _, _, rfl, g1, C'.clH, C'.nT, hf_tables _ _ _ _, _, rfl, hp, CH, d, _, _, rfl, g1, C'.clH, C'.nK, hf_keys _ _ _ _, _, rfl, hp, CH, d, _, _, rfl, g1, C'.clH, C'.nC, hf_careful _ _ _ _, _, rfl, a, xs, kf H, rfl, hl, fun x hx => hq.mem x hx, fun zs p hs hst hp' => ?_⟩
    refine ⟨p, zs, rfl, .inl ⟨SqL.of upd_same, fun aR haR => ?_⟩⟩
    have s3 := same_upd (o := .lst zs) hp'
    have s4 := same_upd (o := .tup zs) haR
    have s34 := s3.trans s4
    have perm : zs.Perm xs := hst.perm
    have hPy : Prs H zs (zs.map (kf H)) := Prs.of_mem fun y hy => hq.mem y (perm.mem_iff.mp hy)
    have permR : (zs.map (kf H)).Perm qs := by
      have := perm.map (kf H)
      rw [hq.kf] at this
      exact this
    have hpl : (zs.map (kf H)).Pairwise plt := by
      refine sorted_plt ?_ (permR.nodup_iff.mpr hR.nd)
      rw [List.pairwise_map]
      exact hs
    have hPk := hP.rem hR permR hpl
    have eR : (upd (upd H p (.lst zs)) aR (.tup zs)) aR = some (.tup zs) := upd_same
    generalize upd (upd H p (.lst zs)) aR (.tup zs) = H2 at s34 eR
    exact init_ok hPk (sSqT s34 g2) (sSqT s34 g3) (SqT.of eR) (hPy.mono fun t us z => s34 _ _ z) fun H3 p3 s5 hp3 hA => k H3 p3 _ (s34.trans s5) (s34.free hp3) permR ⟨hA⟩ hPk
abbrev nPlan : List Str := ["house", "limit", "most", "reminders", "count", "more"]
theorem scPlan : FnScope nPlan ["house", "limit"] (defScope sPlan) := ⟨rfl, rfl, rfl, by decide +kernel, rfl, by decide +kernel, by decide +kernel⟩
theorem ok_plan (PN : TxtPn K mg fPn fdPn) (PL : TxtPl K mg fLu fCl fWr fdLu fdCl fdWr) (SM : TxtSm K mg fSm fSo fdSm fdSo) (Z : TxtSc P w K mg base CC CH fCi fAd fSn fdCi fdAd fdSn) (HP : TxtHp K mg CH fCP pPe gPe pPs gPs fdCP fdPe fdPs) (C' : TxtCo K mg CC CH fHL fdHL) (T : TxtA mg) (TC : TxtC mg) (TF : TxtF K mg fII fIB fHO fdII fdIB fdHO) (TI : TxtI K mg fIT fIR fAs fdIT fdIR fdAs) (TH : TxtIH K mg C fI fdI)
    (TL' : TxtL K mg CH fP fT fK fC fR fdP fdT fdK fdC fdR)
    (FH : FunD K "__init__" "House.__init__" (defArgs sInit) (defBody sInit) (defScope sInit) dvs [] fH fdH) (bH : Binds K fdH ["self", "tables", "keys", "careful", "reminders"] []) (M : Mk K CH fH) (gH : mg "House" = some (.ref CH)) :
    FnOk P w K mg base CX0 10 fPn fdPn ["house", "limit"] (spPlan K CH) := by
  have GW : FnOk P w K mg base CX0 7 fWr fdWr ["house", "reminders"] (spWithR K CH) := ok_withr PL C' T TC TF TI TH TL' FH bH M gH
  have GL : FnOk P w K mg base CX0 4 fLu fdLu ["house"] (spListU K CH) := ok_listu PL HP C' T TC
  have GS : FnOk P w K mg base CX0 9 fSm fdSm ["house"] (spSmooth K CH) := ok_smooth SM Z
  have GB : FnOk P w K mg base CX0 2 fIB fdIB ["value", "limit"] (spIsBelow K) := ok_isbelow TF
  obtain ⟨tm, em⟩ := PN.mostP
  obtain ⟨tr, er⟩ := PN.rems
  refine PN.FPn.ok scPlan (fun vs H Q E h => ?_) (fun cdv A outer s H vs Q E hr h => ?_)
  · obtain ⟨hp, h, L, rfl, _⟩ := h
    rfl
  · obtain ⟨hp, h, L, rfl, hL, hho, hP, k⟩ := h
    have hr7 : Room 7 (A.deeper (envOfC (Str.ofString "plan_reminders") (defScope sPlan) s.heap.objs.size fPn cdv)) := hr.mono (by decide)
    have hr4 : Room 4 (A.deeper (envOfC (Str.ofString "plan_reminders") (defScope sPlan) s.heap.objs.size fPn cdv)) := hr.mono (by decide)
    have hr2 : Room 2 (A.deeper (envOfC (Str.ofString "plan_reminders") (defScope sPlan) s.heap.objs.size fPn cdv)) := hr.mono (by decide)
    refine ⟨_, pss_cons (ps_if (pt_not (pt_val (pe_call GB hr2 rfl TF.gIB TF.FIB.kp TF.bIB .nil pass0 (pa_cons (pv 1) (pa_cons (pe_op op_add (pe_glob (v := .int 2) (by rfl) em ⟨_, rfl⟩) pe_int) pa_nil))))) (pss_one ps_never) pss_nil)
      (pss_cons (ps_set (i := 2) scPlan.nd rfl (.inl rfl) (pe_callB (call_min2 rfl) (by rfl) PN.min (by decide +kernel) (pa_cons (pv 1) (pa_cons (pe_op op_sub (pe_glob (v := .int 10) (by rfl) er ⟨_, rfl⟩) (pe_callB call_len_seq (by rfl) T.len PySem.boot_len (pa_cons (pe_fld (pv 0) rfl) pa_nil))) pa_nil))))
      (pss_cons (ps_set (i := 3) scPlan.nd rfl (.inl rfl) (pe_call GL hr4 rfl PL.gLu PL.FLu.kp PL.bLu .nil pass0 (pa_cons (pv 0) pa_nil)))
      (pss_cons (ps_for PassesOwn.never rfl (pi_range1 (by rfl) T.range (pa_cons (pe_op op_add (pv 2) pe_int) pa_nil)) (pg_name (i := 4) scPlan.nd rfl (.inl rfl))
        (pss_one (ps_for PassesOwn.never rfl (CpCmb.pi_combL (K := K) (j1 := 3) (j2 := 4) rfl rfl (by rfl) PN.comb rfl (.inl rfl) rfl (.inl rfl)) (pg_name (i := 5) scPlan.nd rfl (.inl rfl))
          (pss_one (ps_if (pt_val (pe_call GS hr rfl SM.gSm SM.FSm.kp SM.bSm .nil pass0 (pa_cons (pe_call GW hr7 rfl PL.gWr PL.FWr.kp PL.bWr .nil pass0 (pa_cons (pv 0) (pa_cons (pe_lst (StX.pa_star (pe_fld (pv 0) rfl) (StX.pa_star (pv 5) pa_nil))) pa_nil))) pa_nil))) (pss_one (ps_ret (pv 5))) pss_nil)))))
      (pss_one (ps_ret pe_non))))), ?_⟩
    have h10 := hP.r10
    refine ⟨_, rfl, _, _, rfl, rfl, .int (L : Int), .int (L : Int), 3, rfl, .int _, _, rfl, ?_⟩
    rw [below_is (Int.natCast_nonneg L) (by omega : (L : Int) < 3)]
    refine iteF ?_
    obtain ⟨⟨d, bT, bC, bR, xs, g1, g2, g3, g4, g5⟩⟩ := id hho
    have hxl := g5.len
    refine ⟨_, rfl, _, rfl, hp, CH, d, _, _, rfl, g1, C'.clH, C'.nR, hf_rem _ _ _ _, bR, _, rfl, .inr g4, _, _, rfl, rfl, _, _, rfl, ?_⟩
    have em : (if (10 : Int) - (xs.length : Int) < (L : Int) then (10 : Int) - (xs.length : Int) else (L : Int)) = ((most10 h L : Nat) : Int) := by
      unfold most10
      split <;> omega
    dsimp only
    rw [em]
    have hm2 : most10 h L ≤ 2 := by unfold most10; omega
    have hmr : most10 h L + h.rs.length ≤ 10 := by unfold most10; omega
    generalize hM : most10 h L = M at hm2 hmr
    refine ⟨_, rfl, hp, h, rfl, hho, hP, fun H1 aU ys s1 nU eU pU => ?_⟩
    have hul := pU.len
    have hu6 := useful_len (h := h) hP.n6 (per h.ts)
    have h24 := per24 hP.tabs
    have hUp := useful_nodup h (per h.ts)
    have hUm : ∀ r ∈ useful h (per h.ts), ((0 : Int) ≤ r.1 ∧ r.1 < ((per h.ts : Nat) : Int) ∧ (0 : Int) ≤ r.2 ∧ r.2 < (h.ts.length : Int)) ∧ r ∉ h.rs := fun r hr => by
      obtain ⟨t, p, x, rfl, ht, hx, _, hn⟩ := mem_useful.mp hr
      have := (List.getElem?_eq_some_iff.mp hx).1
      exact ⟨⟨by show (0 : Int) ≤ (t : Int); omega, by show (t : Int) < _; omega, by show (0 : Int) ≤ (p : Int); omega, by show (p : Int) < _; omega⟩, hn⟩
    unfold planOf at k
    rw [hM] at k
    generalize hU : useful h (per h.ts) = U at k pU hul hu6 hUp hUm
    refine ⟨_, rfl, _, _, rfl, rfl, _, rfl, by omega, by omega, for_range (lo := 0) (n := (((M : Nat) : Int) + 1).toNat) (fun c σ H' => (∃ v4 v5, σ = [some (.ref hp), some (.int (L : Int)), some (.int (M : Int)), some (.ref aU), v4, v5]) ∧ Same H1 H' ∧ ∀ c', c' < c → ∀ qs ∈ (CpCmb.rws U.length c').map (sel U), smB (withR h (h.rs ++ qs)) = false) ⟨⟨_, _, rfl⟩, Same.refl _, fun j hj => absurd hj (Nat.not_lt_zero j)⟩ ?_ ?_⟩
    · rintro c σ H2 hc ⟨⟨v4, v5, rfl⟩, s2, hh⟩
      have hcm : c ≤ M := by omega
      have hc2 : c ≤ 2 := by omega
      have e0 : (0 : Int) + (c : Int) = (c : Int) := Int.zero_add _
      rw [e0]
      refine ⟨aU, ys, c, rfl, rfl, SqL.of (s2 _ _ eU), by omega, hc2, ?_⟩
      rw [hul]
      refine for_it walk_pick (fun i σ H' => (∃ v5, σ = [some (.ref hp), some (.int (L : Int)), some (.int (M : Int)), some (.ref aU), some (.int (c : Int)), v5]) ∧ Same H1 H' ∧ ∀ qs ∈ ((CpCmb.rws U.length c).map (sel U)).take i, smB (withR h (h.rs ++ qs)) = false) ⟨⟨_, rfl⟩, s2, fun row hrow => by cases hrow⟩ (fun _ _ _ _ _ => trivial) ?_ ?_
      · rintro i x σ H4 H5 hi ⟨⟨v5, rfl⟩, s4, hh2⟩ ⟨T', row, hrow, rfl, hT', rfl⟩
        have hmem := List.mem_of_getElem? hrow
        obtain ⟨r1, r2, r3⟩ := CpCmb.rws_in hc2 row hmem
        have s5 := same_upd (o := .tup (CpCmb.pick ys row)) hT'
        have eT : (upd H4 T' (.tup (CpCmb.pick ys row))) T' = some (.tup (CpCmb.pick ys row)) := upd_same
        have s45 := s4.trans s5
        generalize upd H4 T' (.tup (CpCmb.pick ys row)) = H5 at s45 eT
        have ho5 := (hho.mono s1).mono s45
        obtain ⟨⟨d5, bT, bC, bR, xs, q1, q2, q3, q4, q5⟩⟩ := id ho5
        have hpk : Prs H5 (CpCmb.pick ys row) (sel U row) := prs_pick (pU.mono fun t us z => s45 _ _ z) r1
        have hql := q5.len
        have hkl := hpk.len
        have hsl : (sel U row).length = c := by unfold sel; rw [List.length_map, r2]
        refine ⟨_, rfl, _, rfl, hp, CH, d5, _, _, rfl, q1, C'.clH, C'.nR, hf_rem _ _ _ _, bR, xs, rfl, .inl q4, _, rfl, T', _, rfl, .inl (SqT.of eT), ?_, fun l hl => ?_⟩
        · rw [List.append_nil, List.length_append]
          exact Nat.le_trans (by omega : _ ≤ 100) (by decide)
        have s6 := same_upd (o := .lst (xs ++ (CpCmb.pick ys row ++ []))) hl
        have hRm : RemOk h (h.rs ++ sel U row) := by
          refine ⟨List.nodup_append.mpr ⟨hP.rp.imp fun z => plt_ne z, (sel_pair hUp r1 r3).imp fun z => plt_ne z, fun a ha b hb e => ?_⟩, fun r hr => ?_, by rw [List.length_append]; omega⟩
          · subst e
            exact (hUm a (sel_mem r1 a hb)).2 ha
          · rcases List.mem_append.mp hr with m | m
            · exact hP.rm r m
            · exact (hUm r (sel_mem r1 r m)).1
        refine ⟨hp, l, h, xs ++ (CpCmb.pick ys row ++ []), h.rs ++ sel U row, rfl, ho5.mono s6, hP, SqL.of upd_same, ?_, hRm, fun H6 p rs' s7 hpn hperm hA hPk => ?_⟩
        · exact prs_app (q5.mono fun t us z => s6 _ _ z) (prs_nilr (hpk.mono fun t us z => s6 _ _ z))
        refine ⟨p, withR h rs', rfl, hA, hP.tabs, hP.n6, fun H7 b s8 hb => ⟨_, rfl, ?_⟩⟩
        have s57 := (s6.trans s7).trans s8
        have s47 := s45.trans s57
        have hsm : b = true ↔ IsSm (withR h (h.rs ++ sel U row)) := hb.trans (sm_mem fun r => hperm.mem_iff)
        have hi' : ((CpCmb.rws U.length c).map (sel U))[i]? = some (sel U row) := by rw [List.getElem?_map, hrow]; rfl
        cases b with
        | true =>
          refine iteT ⟨_, rfl, k H7 _ (s1.trans s47) ?_⟩
          have ef : (plansOf U M).find? (fun qs => smB (withR h (h.rs ++ qs))) = some (sel U row) := find_flat (f := fun c => (CpCmb.rws U.length c).map (sel U)) _ hcm hi' (smB_iff.mpr (hsm.mp rfl)) hh hh2
          rw [ef]
          exact ⟨T', _, rfl, s57 _ _ eT, hpk.mono fun t us z => s57 _ _ z⟩
        | false =>
          refine iteF ⟨⟨_, rfl⟩, s47, fun qs hqs => ?_⟩
          rw [take_more hi'] at hqs
          rcases List.mem_append.mp hqs with m | m
          · exact hh2 qs m
          · rw [List.mem_singleton.mp m, smB_no]
            exact fun z => by have := hsm.mpr z; cases this
      · rintro σ H4 ⟨⟨v5, rfl⟩, s4, hh2⟩
        refine ⟨⟨_, _, rfl⟩, s4, fun c' hc' qs hqs => ?_⟩
        by_cases e : c' = c
        · rw [e] at hqs
          have hl : (CpCmb.rws U.length c).length = ((CpCmb.rws U.length c).map (sel U)).length := (List.length_map ..).symm
          rw [hl, List.take_length] at hh2
          exact hh2 qs hqs
        · exact hh c' (by omega) qs hqs
    · rintro σ H2 ⟨⟨v4, v5, rfl⟩, s2, hh⟩
      refine k H2 _ (s1.trans s2) ?_
      have ef : (plansOf U M).find? (fun qs => smB (withR h (h.rs ++ qs))) = none := by
        rw [List.find?_eq_none]
        intro qs hqs
        obtain ⟨c, hc, hqs⟩ := List.mem_flatMap.mp hqs
        have := List.mem_range.mp hc
        rw [hh c (by omega) qs hqs]; decide
      rw [ef]
      rfl
end
end Dk

set_option Elab.async false
set_option linter.all false
set_option maxRecDepth 100000
set_option maxHeartbeats 4000000
namespace Dk
open PySem PySem.Spec PyProof.Rows L2 TL
/-! ### never more keys out than there are -/
theorem kb_take {ks : Int} {c : Cs} {p : Int} (h : (c.carr.length : Int) ≤ ks) : ((takeKey ks c p).1.carr.length : Int) ≤ ks := by
  unfold takeKey
  split
  · exact h
  · rename_i hn
    show ((srt (c.carr ++ [p])).length : Int) ≤ ks
    rw [srt_len, List.length_append]
    show ((c.carr.length + 1 : Nat) : Int) ≤ ks
    omega
theorem kb_step {h : Hd} {t : Int} {a : Cs × Bool × List Ev} {q : Int} (k : (a.1.carr.length : Int) ≤ h.ks) : ((leaveStep h t a q).1.carr.length : Int) ≤ h.ks := by
  unfold leaveStep
  split
  · split <;> exact kb_take k
  · exact k
theorem kb_fold {h : Hd} {t : Int} : ∀ (lv : List Int) (a : Cs × Bool × List Ev), (a.1.carr.length : Int) ≤ h.ks → ((lv.foldl (leaveStep h t) a).1.carr.length : Int) ≤ h.ks
  | [], _, k => k
  | q :: r, a, k => kb_fold r _ (kb_step k)
theorem kb_adv {h : Hd} {t : Int} {c : Cs} (k : (c.carr.length : Int) ≤ h.ks) : ((adv h t c).1.carr.length : Int) ≤ h.ks := by
  have ka : ((arrive (wishes h.ts t) c).1.carr.length : Int) ≤ h.ks := by
    have : (arrive (wishes h.ts t) c).1.carr.length ≤ c.carr.length := by
      unfold arrive
      dsimp only
      split
      · exact Nat.le_refl _
      · split
        · exact List.length_filter_le _ _
        · exact Nat.le_refl _
    omega
  have kl : ((leaveAll h t (wishes h.ts t) (arrive (wishes h.ts t) c).1).1.carr.length : Int) ≤ h.ks := kb_fold _ _ ka
  show ((depart h t (wishes h.ts t) (arrive (wishes h.ts t) c).1).1.carr.length : Int) ≤ h.ks
  unfold depart
  split
  · split
    · show ((closeC h.ks _ _).1.carr.length : Int) ≤ h.ks
      unfold closeC
      split
      · exact kb_take kl
      · exact kl
    · exact kl
  · exact kl
theorem kb_stt {h : Hd} (k : 0 ≤ h.ks) : ∀ n, ((stt h n).carr.length : Int) ≤ h.ks
  | 0 => k
  | n + 1 => kb_adv (kb_stt k n)
/-! ### the law's scenes -/
def ScL (H : Hp) (a qI qO qC : Addr) (ks : Int) (c : Cs) : Prop := H a = some (.lst [.ref qI, .ref qO, .ref qC, .int (ks - (c.carr.length : Int)), .bl c.opn]) ∧ H qI = some (.lst (c.home.map V.int)) ∧ H qO = some (.lst (c.wait.map V.int)) ∧ H qC = some (.lst (c.carr.map V.int))
theorem ScL.mono {H H' : Hp} {a qI qO qC : Addr} {ks : Int} {c : Cs} (h : ScL H a qI qO qC ks c) (s : Same H H') : ScL H' a qI qO qC ks c := ⟨s _ _ h.1, s _ _ h.2.1, s _ _ h.2.2.1, s _ _ h.2.2.2⟩
def hdOf (ts : List Str) (ks : Int) (cs : List Int) (rs : List Pr) : Hd := ⟨ts, ks, cs, rs⟩
def spLeave : Sp := fun vs H Q _ => ∃ (pa sc e qI qO qC : Addr) (t : Int) (c : Cs) (ts : List Str) (ks : Int) (cs : List Int) (rs : List Pr) (evs : List Ev), vs = [.ref pa, .ref sc, .int t, .ref e] ∧ PartsAt H pa ts ks cs rs ∧ Parts ts ks cs rs ∧ ScL H sc qI qO qC ks c ∧ Gd ts.length c ∧ (c.carr.length : Int) ≤ ks ∧
  EvAt H e t evs ∧ evs.length ≤ 100 ∧ ∀ (H' : Hp) (r sc' e' qI' qC' : Addr), Same H H' → H sc' = none → H qI' = none → H qC' = none → H' r = some (.tup [.ref sc', .ref e']) → ScL H' sc' qI' qO qC' ks (depart (hdOf ts ks cs rs) t (wishes ts t) c).1 → EvAt H' e' t (evs ++ (depart (hdOf ts ks cs rs) t (wishes ts t) c).2) → (e' = e ∨ H e' = none) → Q (.ref r) H'
abbrev nLeave : List Str := ["_law_parts_here", "_law_scene", "_law_tick_here", "_law_events", "_law_inside", "_law_outside", "_law_carrying", "_law_hanging", "_law_unlocked", "_law_wants", "_law_table_here", "_law_taken", "_law_left", "_law_k", "_law_thinks"]
structure CondLv (D : Ends) (σ : L2.St) (H : Hp) : Prop where
  ex : ∃ (v0 v1 v2 v9 v10 v11 v12 v13 v14 : Option V) (e qI qO qC : Addr) (hg : Int) (op : Bool) (cl : List Int), σ = [v0, v1, v2, some (.ref e), some (.ref qI), some (.ref qO), some (.ref qC), some (.int hg), some (.bl op), v9, v10, v11, v12, v13, v14] ∧ H qC = some (.lst (cl.map V.int)) ∧
    ∀ (H' : Hp) (r sc qC' : Addr), Same H H' → H sc = none → H qC' = none → H' r = some (.tup [.ref sc, .ref e]) → H' sc = some (.lst [.ref qI, .ref qO, .ref qC', .int hg, .bl op]) → H' qC' = some (.lst ((srt cl).map V.int)) → D.rt (.ref r) H'
section
variable {P : Program} {w : World} {K : PySem.W.Frag} {mg : Str → Option Value} {base : Heap} {fTb fLn : Addr} {fdTb fdLn : FuncData}
theorem ints_dp {K : PySem.W.Frag} {H : Hp} {a : Addr} {l : List Int} (h : H a = some (.lst (l.map V.int))) : Dp K H (.ref a) (.list (dI l)) := .lst (SqL.of h) (dpAll_dI l)
theorem ints_shaped (l : List Int) : SeqAt.shaped (.list (dI l)) = true := by
  obtain ⟨h1, h2⟩ := dI_lay l
  unfold SeqAt.shaped
  rw [show PyData.canLay0 (.list (dI l)) = true from h1, decide_eq_true (show PyData.depth (.list (dI l)) ≤ 64 by show PyData.depthAll (dI l) + 1 ≤ 64; rw [h2]; decide)]
  rfl
theorem ints_nil (l : List Int) : PyData.eqv (.list (dI l)) (.list []) = l.isEmpty := by cases l <;> rfl
end
end Dk

set_option Elab.async false
set_option linter.all false
set_option maxRecDepth 100000
set_option maxHeartbeats 4000000
namespace Dk
open PySem PySem.Spec PyProof.Rows L2 TL
def lfV : Option Int → V
  | none => .non
  | some q => .int q
def closeW (lf : Option Int) (hm : List Int) (tk hg : Int) (op : Bool) (cl : List Int) (evs : List Ev) : Int × Bool × List Int × List Ev :=
  match lf with
  | none => (hg, op, cl, evs)
  | some q => if hm.isEmpty = true ∧ tk = 0 then (if 0 < hg then (hg - 1, op, cl ++ [q], evs ++ [(wTake, .int q)]) else (hg, true, cl, evs ++ [(wOpen, .non)])) else (hg, op, cl, evs)
structure CondLi (D : Ends) (σ : L2.St) (H : Hp) : Prop where
  ex : ∃ (v0 v1 v9 v10 v13 v14 : Option V) (t : Int) (e qI qO qC : Addr) (hg : Int) (op : Bool) (cl hm : List Int) (evs : List Ev) (tk : Int) (lf : Option Int), σ = [v0, v1, some (.int t), some (.ref e), some (.ref qI), some (.ref qO), some (.ref qC), some (.int hg), some (.bl op), v9, v10, some (.int tk), some (lfV lf), v13, v14] ∧
    H qI = some (.lst (hm.map V.int)) ∧ H qC = some (.lst (cl.map V.int)) ∧ hm.length ≤ 100 ∧ cl.length ≤ 300 ∧ EvAt H e t evs ∧ evs.length ≤ 1000 ∧
    ∀ (H' : Hp) (r sc e' qC' : Addr), Same H H' → H sc = none → H qC' = none → H' r = some (.tup [.ref sc, .ref e']) → H' sc = some (.lst [.ref qI, .ref qO, .ref qC', .int (closeW lf hm tk hg op cl evs).1, .bl (closeW lf hm tk hg op cl evs).2.1]) → H' qC' = some (.lst ((srt (closeW lf hm tk hg op cl evs).2.2.1).map V.int)) →
      EvAt H' e' t (closeW lf hm tk hg op cl evs).2.2.2 → (e' = e ∨ H e' = none) → D.rt (.ref r) H'
/-- events + [(t, word, x)] -/
theorem ev_cat {H : Hp} {e : Addr} {t : Int} {evs : List Ev} {x : Ev} (h : EvAt H e t evs) (hz : evs.length ≤ 1000) {Q : VK}
    (k : ∀ H' e', Same H H' → H e' = none → EvAt H' e' t (evs ++ [x]) → Q (.ref e') H') :
    ∀ u, H u = none → ∀ l, (upd H u (.tup [.int t, .str x.1, x.2])) l = none → rCat (.ref e) (.ref l) (upd (upd H u (.tup [.int t, .str x.1, x.2])) l (.lst [.ref u])) Q := by
  intro u hu l hl
  obtain ⟨xs, e1, e2⟩ := h
  have s1 := same_upd (o := .tup [.int t, .str x.1, x.2]) hu
  have eu : (upd H u (.tup [.int t, .str x.1, x.2])) u = some (.tup [.int t, .str x.1, x.2]) := upd_same
  have s2 := same_upd (o := .lst [.ref u]) hl
  refine ⟨e, l, xs, _, rfl, rfl, s2 _ _ (s1 _ _ e1), upd_same, ?_, fun p hp => ?_⟩
  · rw [e2.len]; exact Nat.le_trans (by show evs.length + 1 ≤ 1001; omega) (by decide)
  · have s3 := same_upd (o := .lst (xs ++ [.ref u])) hp
    refine k _ p ((s1.trans s2).trans s3) ((s1.trans s2).free hp) ⟨_, upd_same, ?_⟩
    exact Evs.snoc (e2.mono fun a ys z => s3 _ _ (s2 _ _ (s1 _ _ z))) (s3 _ _ (s2 _ _ eu))
section
variable {P : Program} {w : World} {K : PySem.W.Frag} {mg : Str → Option Value} {base : Heap} {fTb fLn : Addr} {fdTb fdLn : FuncData}
end
end Dk

set_option Elab.async false
set_option linter.all false
set_option maxRecDepth 100000
set_option maxHeartbeats 4000000
namespace Dk
open PySem PySem.Spec PyProof.Rows L2 TL
/-! ### pure: the keys taken -/
structure AccP (h : Hd) (c0 : Cs) (a : Cs × Bool × List Ev) : Prop where
  home : a.1.home = c0.home
  wait : a.1.wait = c0.wait
  opn : a.1.opn = c0.opn
  srtd : a.1.carr.Pairwise (· ≤ ·)
  le : (a.1.carr.length : Int) ≤ h.ks
theorem tkk_no {ks : Int} {c : Cs} {q : Int} (e : (c.carr.length : Int) = ks) : takeKey ks c q = (c, false) := by unfold takeKey; rw [if_pos e]
theorem tkk_yes {ks : Int} {c : Cs} {q : Int} (e : (c.carr.length : Int) ≠ ks) : takeKey ks c q = ({ c with carr := srt (c.carr ++ [q]) }, true) := by unfold takeKey; rw [if_neg e]
theorem accP_take {h : Hd} {c0 c : Cs} {b b' : Bool} {e e' : List Ev} {q : Int} (k : AccP h c0 (c, b, e)) : AccP h c0 ((takeKey h.ks c q).1, b', e') := by
  have hk := kb_take (p := q) k.le
  by_cases z : (c.carr.length : Int) = h.ks
  · rw [tkk_no z] at hk ⊢; exact ⟨k.home, k.wait, k.opn, k.srtd, k.le⟩
  · rw [tkk_yes z] at hk ⊢; exact ⟨k.home, k.wait, k.opn, srt_sorted _, hk⟩
theorem accP_step {h : Hd} {t : Int} {c0 : Cs} {a : Cs × Bool × List Ev} {q : Int} (k : AccP h c0 a) : AccP h c0 (leaveStep h t a q) := by
  unfold leaveStep
  split
  · split <;> exact accP_take (b := a.2.1) (e := a.2.2) k
  · exact ⟨k.home, k.wait, k.opn, k.srtd, k.le⟩
theorem accP_fold {h : Hd} {t : Int} {c0 : Cs} : ∀ (l : List Int) (a : Cs × Bool × List Ev), AccP h c0 a → AccP h c0 (l.foldl (leaveStep h t) a)
  | [], _, k => k
  | q :: r, a, k => accP_fold r _ (accP_step k)
theorem accP_lv {h : Hd} {t : Int} {ws : List Bool} {c : Cs} (hs : c.carr.Pairwise (· ≤ ·)) (hk : (c.carr.length : Int) ≤ h.ks) (i : Nat) : AccP h (stay ws c) (lvAcc h t ws c i) := accP_fold _ _ ⟨rfl, rfl, rfl, hs, hk⟩
theorem lvAcc_all {h : Hd} {t : Int} {ws : List Bool} {c : Cs} : lvAcc h t ws c (leaversOf ws c).length = leaveAll h t ws c := by unfold lvAcc leaveAll; rw [List.take_length]
theorem last_take {l : List Int} {i : Nat} {q : Int} (e : l[i]? = some q) : (l.take (i + 1)).getLast? = some q := by
  rw [take_more e]; simp
/-- the law's end of a tick and the program's -/
theorem dep_close {h : Hd} {t : Int} {ws : List Bool} {c : Cs} (hs : c.carr.Pairwise (· ≤ ·)) (hk : (c.carr.length : Int) ≤ h.ks) {cl : List Int} (hp : cl.Perm (leaveAll h t ws c).1.carr) {tk : Int} (htk : tk = 0 ↔ (leaveAll h t ws c).2.1 = false) {evs : List Ev} {r : Int × Bool × List Int × List Ev}
    (hr : r = closeW (leaversOf ws c).getLast? (stay ws c).home tk (h.ks - ((leaveAll h t ws c).1.carr.length : Int)) c.opn cl (evs ++ (leaveAll h t ws c).2.2)) :
    r.1 = h.ks - ((depart h t ws c).1.carr.length : Int) ∧ r.2.1 = (depart h t ws c).1.opn ∧ srt r.2.2.1 = (depart h t ws c).1.carr ∧ r.2.2.2 = evs ++ (depart h t ws c).2 ∧ (depart h t ws c).1.home = (stay ws c).home ∧ (depart h t ws c).1.wait = c.wait := by
  have A : AccP h (stay ws c) (leaveAll h t ws c) := by rw [← lvAcc_all]; exact accP_lv hs hk _
  have ho : (leaveAll h t ws c).1.opn = c.opn := A.opn
  have hw : (leaveAll h t ws c).1.wait = c.wait := A.wait
  have hsr : srt cl = (leaveAll h t ws c).1.carr := (srt_uniq hp.symm A.srtd).symm
  have plain : r = (h.ks - ((leaveAll h t ws c).1.carr.length : Int), c.opn, cl, evs ++ (leaveAll h t ws c).2.2) → depart h t ws c = ((leaveAll h t ws c).1, (leaveAll h t ws c).2.2) → r.1 = h.ks - ((depart h t ws c).1.carr.length : Int) ∧ r.2.1 = (depart h t ws c).1.opn ∧ srt r.2.2.1 = (depart h t ws c).1.carr ∧ r.2.2.2 = evs ++ (depart h t ws c).2 ∧ (depart h t ws c).1.home = (stay ws c).home ∧ (depart h t ws c).1.wait = c.wait := fun e1 e2 => by
    rw [e1, e2]
    exact ⟨rfl, ho.symm, hsr, rfl, A.home, hw⟩
  cases hl : (leaversOf ws c).getLast? with
  | none =>
    refine plain ?_ ?_
    · rw [hr, hl]; rfl
    · unfold depart; rw [hl]
  | some q =>
    rw [hl] at hr
    have hr2 : r = if (stay ws c).home.isEmpty = true ∧ tk = 0 then (if 0 < h.ks - ((leaveAll h t ws c).1.carr.length : Int) then (h.ks - ((leaveAll h t ws c).1.carr.length : Int) - 1, c.opn, cl ++ [q], evs ++ (leaveAll h t ws c).2.2 ++ [(wTake, .int q)]) else (h.ks - ((leaveAll h t ws c).1.carr.length : Int), true, cl, evs ++ (leaveAll h t ws c).2.2 ++ [(wOpen, .non)])) else (h.ks - ((leaveAll h t ws c).1.carr.length : Int), c.opn, cl, evs ++ (leaveAll h t ws c).2.2) := hr
    have hd : depart h t ws c = if ((stay ws c).home.isEmpty && !(leaveAll h t ws c).2.1) = true then ((closeC h.ks (leaveAll h t ws c).1 q).1, (leaveAll h t ws c).2.2 ++ [(closeC h.ks (leaveAll h t ws c).1 q).2]) else ((leaveAll h t ws c).1, (leaveAll h t ws c).2.2) := by unfold depart; rw [hl]
    by_cases cc : (stay ws c).home.isEmpty = true ∧ tk = 0
    · have cb : ((stay ws c).home.isEmpty && !(leaveAll h t ws c).2.1) = true := by rw [cc.1, htk.mp cc.2]; rfl
      rw [if_pos cc] at hr2
      rw [if_pos cb] at hd
      have hle := A.le
      by_cases z : ((leaveAll h t ws c).1.carr.length : Int) = h.ks
      · rw [if_neg (by omega)] at hr2
        have ec : closeC h.ks (leaveAll h t ws c).1 q = ({ (leaveAll h t ws c).1 with opn := true }, (wOpen, .non)) := by unfold closeC; rw [tkk_no z]; exact if_neg (by intro h; cases h)
        rw [hr2, hd, ec]
        exact ⟨rfl, rfl, hsr, by rw [List.append_assoc], A.home, hw⟩
      · rw [if_pos (by omega)] at hr2
        have ec : closeC h.ks (leaveAll h t ws c).1 q = ({ (leaveAll h t ws c).1 with carr := srt ((leaveAll h t ws c).1.carr ++ [q]) }, (wTake, .int q)) := by unfold closeC; rw [tkk_yes z]; exact if_pos rfl
        rw [hr2, hd, ec]
        refine ⟨?_, ho.symm, ?_, by rw [List.append_assoc], A.home, hw⟩
        · show _ = h.ks - ((srt ((leaveAll h t ws c).1.carr ++ [q])).length : Int)
          rw [srt_len, List.length_append]
          show h.ks - ((leaveAll h t ws c).1.carr.length : Int) - 1 = h.ks - (((leaveAll h t ws c).1.carr.length + 1 : Nat) : Int)
          omega
        · show srt (cl ++ [q]) = srt ((leaveAll h t ws c).1.carr ++ [q])
          exact (srt_uniq (((srt_perm _).trans (hp.symm.append_right [q]))) (srt_sorted _)).symm
    · have cb : ((stay ws c).home.isEmpty && !(leaveAll h t ws c).2.1) ≠ true := fun e => cc (by
        rw [Bool.and_eq_true] at e
        refine ⟨e.1, htk.mpr ?_⟩
        cases q2 : (leaveAll h t ws c).2.1 with
        | false => rfl
        | true => rw [q2] at e; exact absurd e.2 (by decide))
      rw [if_neg cc] at hr2
      rw [if_neg cb] at hd
      exact plain hr2 hd
end Dk

set_option Elab.async false
set_option linter.all false
set_option maxRecDepth 100000
set_option maxHeartbeats 4000000
namespace Dk
open PySem PySem.Spec PyProof.Rows L2 TL
theorem EvAt.mono {H H' : Hp} {a : Addr} {t : Int} {evs : List Ev} (h : EvAt H a t evs) (s : Same H H') : EvAt H' a t evs := by
  obtain ⟨xs, b1, b2⟩ := h
  exact ⟨xs, s _ _ b1, b2.mono fun a ys z => s _ _ z⟩
theorem or_val {ta tb : TE} {σ : L2.St} {H : Hp} {a b : Bool} {Q : VK} (h1 : ∀ R : VK, R (.bl a) H → ta σ H R) (h2 : ∀ R : VK, (∀ H', Same H H' → R (.bl b) H') → tb σ H R) (hq : ∀ H', Same H H' → Q (.bl (a || b)) H') : tOrV ta tb σ H Q := h1 _ ⟨a, rfl, by
  cases a with
  | true => exact iteT (hq H (Same.refl H))
  | false => exact iteF (h2 _ hq)⟩
theorem leave_inj {h : Hd} {t q : Int} {a : Cs × Bool × List Ev} (k : thinks h t q = false ∨ (a.1.carr.length : Int) = h.ks) : leaveStep h t a q = (a.1, a.2.1, a.2.2 ++ [(wLeave, .int q)]) := by
  unfold leaveStep
  split
  · rename_i ht
    rcases k with k | k
    · rw [ht] at k; cases k
    · rw [tkk_no k]; exact if_neg (by intro h; cases h)
  · rfl
theorem leave_key {h : Hd} {t q : Int} {a : Cs × Bool × List Ev} (k : thinks h t q = true) (n : (a.1.carr.length : Int) ≠ h.ks) : leaveStep h t a q = ({ a.1 with carr := srt (a.1.carr ++ [q]) }, true, a.2.2 ++ [(wLeave, .int q)] ++ [(wTake, .int q)]) := by
  unfold leaveStep
  rw [if_pos k, tkk_yes n]; exact if_pos rfl
section
variable {P : Program} {w : World} {K : PySem.W.Frag} {mg : Str → Option Value} {base : Heap} {fTb fLn : Addr} {fdTb fdLn : FuncData}
end
end Dk

set_option Elab.async false
set_option linter.all false
set_option maxRecDepth 100000
set_option maxHeartbeats 4000000
namespace Dk
open PySem PySem.Spec PyProof.Rows L2 TL
/-! ### pure: who comes -/
theorem filt_len (p : Int → Bool) : ∀ l : List Int, (l.filter p).length + (l.filter fun x => !p x).length = l.length
  | [] => rfl
  | a :: l => by
    have ih := filt_len p l
    rw [List.filter_cons, List.filter_cons]
    cases h : p a with
    | true => rw [if_pos rfl, if_neg (by decide), List.length_cons, List.length_cons]; omega
    | false => rw [if_neg (by decide), if_pos (by decide), List.length_cons, List.length_cons]; omega
theorem count_swap {A B : List Int} (ha : A.Nodup) (hb : B.Nodup) : (A.filter fun x => decide (x ∈ B)).length = (B.filter fun x => decide (x ∈ A)).length := by
  refine List.Perm.length_eq ((List.perm_ext_iff_of_nodup (ha.filter _) (hb.filter _)).mpr fun x => ?_)
  rw [List.mem_filter, List.mem_filter, decide_eq_true_eq, decide_eq_true_eq]
  exact And.comm
theorem comers_nodup (ws : List Bool) (home : List Int) : (comersOf ws home).Nodup := (up_nodup (rg_up _)).filter _
theorem filt_all {p : Int → Bool} : ∀ {l : List Int}, (∀ x ∈ l, p x = true) → l.filter p = l := fun h => List.filter_eq_self.mpr h
theorem any_filt (p : Int → Bool) (l : List Int) : (l.filter p).isEmpty = !(l.any p) := by
  induction l with
  | nil => rfl
  | cons a l ih =>
    rw [List.filter_cons, List.any_cons]
    cases h : p a with
    | true => rfl
    | false => rw [if_neg (by decide), ih]; rfl
theorem opn_home {n : Nat} {c : Cs} (g : Gd n c) : (c.opn && c.home.isEmpty) = c.opn := by
  cases h : c.opn with
  | false => rfl
  | true => rw [g.op h]; rfl
theorem srt_ne {l : List Int} (h : l ≠ []) : (srt l).isEmpty = false := by
  cases q : srt l with
  | nil =>
    have := srt_len l
    rw [q] at this
    cases l with
    | nil => exact absurd rfl h
    | cons a l => simp at this
  | cons a r => rfl
theorem arr_yes {n : Nat} {ws : List Bool} {c : Cs} {ks : Int} (g : Gd n c) (h : canEnter c (comersOf ws c.home) = true) :
    (arrive ws c).1 = ⟨srt (c.home ++ comersOf ws c.home), [], c.carr.filter (fun p => !decide (p ∈ comersOf ws c.home)), c.opn && (srt (c.home ++ comersOf ws c.home)).isEmpty⟩ ∧ (arrive ws c).2 = (comersOf ws c.home).map (fun p => (wEnter, V.int p)) ∧
    ks - (c.carr.length : Int) + (((comersOf ws c.home).filter fun p => decide (p ∈ c.carr)).length : Int) = ks - ((c.carr.filter (fun p => !decide (p ∈ comersOf ws c.home))).length : Int) := by
  have hn := comers_nodup ws c.home
  have hlen : ks - (c.carr.length : Int) + (((comersOf ws c.home).filter fun p => decide (p ∈ c.carr)).length : Int) = ks - ((c.carr.filter (fun p => !decide (p ∈ comersOf ws c.home))).length : Int) := by
    rw [count_swap hn (up_nodup g.cu)]
    have := filt_len (fun p => decide (p ∈ comersOf ws c.home)) c.carr
    omega
  refine ⟨?_, ?_, hlen⟩
  · unfold arrive
    dsimp only
    cases hc : comersOf ws c.home with
    | nil =>
      rw [if_pos (show ([] : List Int).isEmpty = true from rfl), List.append_nil, srt_self g.hu, filt_all (fun x _ => by simp), opn_home g]
    | cons a l =>
      rw [hc] at h
      rw [if_neg (by simp), if_pos h, srt_ne (by simp), Bool.and_false]
  · unfold arrive
    dsimp only
    cases hc : comersOf ws c.home with
    | nil => rw [if_pos (show ([] : List Int).isEmpty = true from rfl)]; rfl
    | cons a l =>
      rw [hc] at h
      rw [if_neg (by simp), if_pos h]
theorem arr_no {n : Nat} {ws : List Bool} {c : Cs} (g : Gd n c) (h : canEnter c (comersOf ws c.home) = false) :
    (arrive ws c).1 = ⟨c.home, comersOf ws c.home, c.carr, c.opn && c.home.isEmpty⟩ ∧ (arrive ws c).2 = (comersOf ws c.home).map (fun p => (wWait, V.int p)) := by
  rw [opn_home g]
  unfold arrive
  dsimp only
  cases hc : comersOf ws c.home with
  | nil => rw [if_pos (show ([] : List Int).isEmpty = true from rfl)]; exact ⟨rfl, rfl⟩
  | cons a l =>
    rw [hc] at h
    rw [if_neg (by simp), if_neg (by rw [h]; decide)]; exact ⟨rfl, rfl⟩
/-! ### the law's tick -/
abbrev nTickF : List Str := ["_law_parts_here", "_law_scene", "_law_tick_here", "_law_inside", "_law_outside", "_law_carrying", "_law_hanging", "_law_unlocked", "_law_wants", "_law_table_here", "_law_events", "_law_comers", "_law_k"]
structure TxtLv (K : PySem.W.Frag) (mg : Str → Option Value) (fLv : Addr) (fdLv : FuncData) : Prop where
structure CondTt (D : Ends) (σ : L2.St) (H : Hp) : Prop where
  ex : ∃ (pa qI qO qC e : Addr) (v1 v8 v9 v11 v12 : Option V) (t : Int) (op0 : Bool) (c : Cs) (ts : List Str) (ks : Int) (cs : List Int) (rs : List Pr) (evs : List Ev), σ = [some (.ref pa), v1, some (.int t), some (.ref qI), some (.ref qO), some (.ref qC), some (.int (ks - (c.carr.length : Int))), some (.bl op0), v8, v9, some (.ref e), v11, v12] ∧ PartsAt H pa ts ks cs rs ∧ Parts ts ks cs rs ∧
    H qI = some (.lst (c.home.map V.int)) ∧ H qO = some (.lst (c.wait.map V.int)) ∧ H qC = some (.lst (c.carr.map V.int)) ∧ (op0 && c.home.isEmpty) = c.opn ∧ Gd ts.length c ∧ (c.carr.length : Int) ≤ ks ∧ EvAt H e t evs ∧ evs.length ≤ 100 ∧
    ∀ (H' : Hp) (r sc' e' qI' qC' : Addr), Same H H' → H sc' = none → H qI' = none → H qC' = none → H' r = some (.tup [.ref sc', .ref e']) → ScL H' sc' qI' qO qC' ks (depart (hdOf ts ks cs rs) t (wishes ts t) c).1 → EvAt H' e' t (evs ++ (depart (hdOf ts ks cs rs) t (wishes ts t) c).2) → (e' = e ∨ H e' = none) → D.rt (.ref r) H'
section
variable {P : Program} {w : World} {K : PySem.W.Frag} {mg : Str → Option Value} {base : Heap} {fTb fLn fLv : Addr} {fdTb fdLn fdLv : FuncData}
end
end Dk

set_option Elab.async false
set_option linter.all false
set_option maxRecDepth 100000
set_option maxHeartbeats 4000000
namespace Dk
open PySem PySem.Spec PyProof.Rows L2 TL
def holdN (cm carr : List Int) : Int := ((cm.filter fun p => decide (p ∈ carr)).length : Int)
section
variable {P : Program} {w : World} {K : PySem.W.Frag} {mg : Str → Option Value} {base : Heap}
end
end Dk

set_option Elab.async false
set_option linter.all false
set_option maxRecDepth 100000
set_option maxHeartbeats 4000000
namespace Dk
open PySem PySem.Spec PyProof.Rows L2 TL
theorem canEnter_eq (c : Cs) (cm : List Int) : canEnter c cm = (!c.home.isEmpty || (c.opn || !(cm.filter fun p => decide (p ∈ c.carr)).isEmpty)) := by
  unfold canEnter
  rw [any_filt, Bool.not_not]
  cases c.home.isEmpty <;> cases c.opn <;> rfl
def spTickL : Sp := fun vs H Q _ => ∃ (pa sc qI qO qC : Addr) (t : Int) (c : Cs) (ts : List Str) (ks : Int) (cs : List Int) (rs : List Pr), vs = [.ref pa, .ref sc, .int t] ∧ PartsAt H pa ts ks cs rs ∧ Parts ts ks cs rs ∧ ScL H sc qI qO qC ks c ∧ Gd ts.length c ∧ (c.carr.length : Int) ≤ ks ∧
  ∀ (H' : Hp) (r sc' e' qI' qO' qC' : Addr), Same H H' → H sc' = none → H e' = none → H qI' = none → H qO' = none → H qC' = none → H' r = some (.tup [.ref sc', .ref e']) → ScL H' sc' qI' qO' qC' ks (adv (hdOf ts ks cs rs) t c).1 → EvAt H' e' t (adv (hdOf ts ks cs rs) t c).2 → Q (.ref r) H'
section
variable {P : Program} {w : World} {K : PySem.W.Frag} {mg : Str → Option Value} {base : Heap} {fTb fLn fLv : Addr} {fdTb fdLn fdLv : FuncData}
end
end Dk

set_option Elab.async false
set_option linter.all false
set_option maxRecDepth 100000
set_option maxHeartbeats 4000000
namespace Dk
open PySem PySem.Spec PyProof.Rows L2 TL
abbrev nDays : List Str := ["_law_parts_here", "_law_ticks", "_law_scene", "_law_scenes", "_law_events", "_law_tick_here", "_law_some"]
/-- a scene apart from two lists -/
def ScA (Hb : Hp) (sl el : Addr) (H : Hp) (sc qI qO qC : Addr) (ks : Int) (c : Cs) : Prop := ScL H sc qI qO qC ks c ∧ (sc ≠ sl ∧ sc ≠ el ∧ Hb sc = none) ∧ (qI ≠ sl ∧ qI ≠ el ∧ Hb qI = none) ∧ (qO ≠ sl ∧ qO ≠ el ∧ Hb qO = none) ∧ (qC ≠ sl ∧ qC ≠ el ∧ Hb qC = none)
theorem ScA.kp {Hb : Hp} {sl el : Addr} {H H' : Hp} {sc qI qO qC : Addr} {ks : Int} {c : Cs} (h : ScA Hb sl el H sc qI qO qC ks c) (k : Kp2 sl el H H') : ScA Hb sl el H' sc qI qO qC ks c := by
  obtain ⟨⟨a1, a2, a3, a4⟩, n1, n2, n3, n4⟩ := h
  exact ⟨⟨k _ _ n1.1 n1.2.1 a1, k _ _ n2.1 n2.2.1 a2, k _ _ n3.1 n3.2.1 a3, k _ _ n4.1 n4.2.1 a4⟩, n1, n2, n3, n4⟩
def ScSs (Hb : Hp) (sl el : Addr) (H : Hp) (hd : Hd) (xs : List V) (n : Nat) : Prop := xs.length = n ∧ ∀ i, i < n → ∃ sc qI qO qC, xs[i]? = some (.ref sc) ∧ ScA Hb sl el H sc qI qO qC hd.ks (stt hd (i + 1))
theorem ScSs.kp {Hb : Hp} {sl el : Addr} {H H' : Hp} {hd : Hd} {xs : List V} {n : Nat} (h : ScSs Hb sl el H hd xs n) (k : Kp2 sl el H H') : ScSs Hb sl el H' hd xs n :=
  ⟨h.1, fun i hi => by
    obtain ⟨sc, qI, qO, qC, a, b⟩ := h.2 i hi
    exact ⟨sc, qI, qO, qC, a, b.kp k⟩⟩
theorem ScSs.snoc {Hb : Hp} {sl el : Addr} {H : Hp} {hd : Hd} {xs : List V} {n : Nat} {sc qI qO qC : Addr} (h : ScSs Hb sl el H hd xs n) (b : ScA Hb sl el H sc qI qO qC hd.ks (stt hd (n + 1))) : ScSs Hb sl el H hd (xs ++ [.ref sc]) (n + 1) := by
  obtain ⟨h1, h2⟩ := h
  refine ⟨by rw [List.length_append, h1]; rfl, fun i hi => ?_⟩
  by_cases e : i = n
  · subst e
    exact ⟨sc, qI, qO, qC, by rw [← h1]; simp, b⟩
  · obtain ⟨sc', qI', qO', qC', a, b'⟩ := h2 i (by omega)
    exact ⟨sc', qI', qO', qC', by rw [List.getElem?_append_left (by omega)]; exact a, b'⟩
def TupK (sl el : Addr) (H H' : Hp) : Prop := Kp2 sl el H H' ∧ ∀ a ys, H a = some (.tup ys) → H' a = some (.tup ys)
theorem tupK_same {sl el : Addr} {H H' : Hp} (s : Same H H') : TupK sl el H H' := ⟨Kp2.same s, fun a ys z => s _ _ z⟩
theorem tupK_upd1 {sl el : Addr} {H : Hp} {xs : List V} {o : HO} (e : H sl = some (.lst xs)) : TupK sl el H (upd H sl o) := ⟨fun b u n1 n2 h => by rw [upd_ne n1]; exact h, fun a ys z => by rw [upd_ne (fun q => by rw [q, e] at z; cases z)]; exact z⟩
theorem tupK_upd2 {sl el : Addr} {H : Hp} {xs : List V} {o : HO} (e : H el = some (.lst xs)) : TupK sl el H (upd H el o) := ⟨fun b u n1 n2 h => by rw [upd_ne n2]; exact h, fun a ys z => by rw [upd_ne (fun q => by rw [q, e] at z; cases z)]; exact z⟩
def evOf (h : Hd) (i : Nat) : List Ev := (adv h (i : Int) (stt h i)).2
def EvA (Hb : Hp) (sl el : Addr) (H : Hp) (e : Addr) (t : Int) (evs : List Ev) : Prop := EvAt H e t evs ∧ e ≠ sl ∧ e ≠ el ∧ Hb e = none
theorem EvA.kp {Hb : Hp} {sl el : Addr} {H H' : Hp} {e : Addr} {t : Int} {evs : List Ev} (h : EvA Hb sl el H e t evs) (k : TupK sl el H H') : EvA Hb sl el H' e t evs := by
  obtain ⟨⟨xs, b1, b2⟩, n1, n2, n3⟩ := h
  exact ⟨⟨xs, k.1 _ _ n1 n2 b1, b2.mono k.2⟩, n1, n2, n3⟩
def EvSs (Hb : Hp) (sl el : Addr) (H : Hp) (hd : Hd) (ys : List V) (n : Nat) : Prop := ys.length = n ∧ ∀ i, i < n → ∃ e, ys[i]? = some (.ref e) ∧ EvA Hb sl el H e (i : Int) (evOf hd i)
theorem EvSs.kp {Hb : Hp} {sl el : Addr} {H H' : Hp} {hd : Hd} {ys : List V} {n : Nat} (h : EvSs Hb sl el H hd ys n) (k : TupK sl el H H') : EvSs Hb sl el H' hd ys n :=
  ⟨h.1, fun i hi => by
    obtain ⟨e, a, b⟩ := h.2 i hi
    exact ⟨e, a, b.kp k⟩⟩
theorem EvSs.snoc {Hb : Hp} {sl el : Addr} {H : Hp} {hd : Hd} {ys : List V} {n : Nat} {e : Addr} (h : EvSs Hb sl el H hd ys n) (b : EvA Hb sl el H e (n : Int) (evOf hd n)) : EvSs Hb sl el H hd (ys ++ [.ref e]) (n + 1) := by
  obtain ⟨h1, h2⟩ := h
  refine ⟨by rw [List.length_append, h1]; rfl, fun i hi => ?_⟩
  by_cases q : i = n
  · subst q
    exact ⟨e, by rw [← h1]; simp, b⟩
  · obtain ⟨e', a, b'⟩ := h2 i (by omega)
    exact ⟨e', by rw [List.getElem?_append_left (by omega)]; exact a, b'⟩
def spDaysL : Sp := fun vs H Q _ => ∃ (pa : Addr) (n : Nat) (ts : List Str) (ks : Int) (cs : List Int) (rs : List Pr), vs = [.ref pa, .int (n : Int)] ∧ n ≤ 400000 ∧ PartsAt H pa ts ks cs rs ∧ Parts ts ks cs rs ∧
  ∀ (H' : Hp) (r sl el : Addr) (xs ys : List V), Same H H' → H' r = some (.tup [.ref sl, .ref el]) → H sl = none → H el = none → H' sl = some (.lst xs) → H' el = some (.lst ys) → ScSs H sl el H' (hdOf ts ks cs rs) xs n → EvSs H sl el H' (hdOf ts ks cs rs) ys n → Q (.ref r) H'
structure TxtTk2 (K : PySem.W.Frag) (mg : Str → Option Value) (fTl : Addr) (fdTl : FuncData) : Prop where
section
variable {P : Program} {w : World} {K : PySem.W.Frag} {mg : Str → Option Value} {base : Heap} {fTb fLn fLv fTl : Addr} {fdTb fdLn fdLv fdTl : FuncData}
end
end Dk

set_option Elab.async false
set_option linter.all false
set_option maxRecDepth 100000
set_option maxHeartbeats 2000000
namespace Gf
open PySem PySem.Spec PyProof.Rows L2
/-! ### for in a generator's body -/
def tGFor (wi : TI) (g : TG) (tb : TGn) : TGn := fun D ys σ H => wi σ H fun J H1 => ∃ W : Nat → Nat → List V → L2.St → Hp → Prop, (∃ m, W 0 m ys σ H1) ∧ ∀ i m ys σ H, W i m ys σ H → (J.stop i H ∧ D.nx ys σ H) ∨
  (J.go i H ∧ ∃ N : List V → L2.St → Hp → Prop, (∀ ys' σ' H', N ys' σ' H' → ∃ m', m' < m ∧ W (i + 1) m' ys' σ' H') ∧ ∀ x H', J.yld i H x H' → g x σ H' fun σ2 H2 => tb { nx := N, rt := D.rt, bk := D.nx, ct := N } ys σ2 H2)
def pinsOf (h : Heap) (fp : List Addr) : List (Addr × Obj) := fp.filterMap fun b => (h.get? b).map fun o => (b, o)
theorem pinsOf_mem {h : Heap} {fp : List Addr} {p : Addr × Obj} (hp : p ∈ pinsOf h fp) : p.1 ∈ fp ∧ h.get? p.1 = some p.2 := by
  unfold pinsOf at hp
  obtain ⟨b, hb, e⟩ := List.mem_filterMap.mp hp
  cases q : h.get? b with
  | none => rw [q] at e; cases e
  | some o =>
    rw [q] at e
    cases e
    exact ⟨hb, q⟩
theorem mem_pinsOf {h : Heap} {fp : List Addr} {b : Addr} {o : Obj} (hb : b ∈ fp) (e : h.get? b = some o) : (b, o) ∈ pinsOf h fp :=
  List.mem_filterMap.mpr ⟨b, hb, by rw [e]; rfl⟩
theorem inv_less {X : Cx} {pins pins' : List (Addr × Obj)} {σ : L2.St} {H : Hp} {s : Shared} (I : L2.Inv X pins σ H s) (h : ∀ p ∈ pins', p ∈ pins) : L2.Inv X pins' σ H s :=
  { I with pin := fun p hp => I.pin p (by
      rcases List.mem_append.mp hp with hp | hp
      · exact List.mem_append.mpr (.inl hp)
      · exact List.mem_append.mpr (.inr (h p hp))) }
theorem gs_for {X : Cx} {tg iter : Expr} {body : List Stmt} {wi : TI} {g : TG} {tb : TGn} {pos : Pos} (hp : PassesOwn (model X.prog X.w) X.A X.env X.xe) (hc : X.calm = true) (hi : PI X tg iter wi) (hg : PG X tg g) (hb : GSs X body tb)
    (hs : ∀ x, foldedSetIterable iter X.env x = pure x := by intro x; rfl) : GS X (.For tg iter body [] pos) (tGFor wi g tb) := by
  refine ⟨fun A S ip R n ys s₀ c fs K J gd lv s σ H D gc hn k hI ht => ?_⟩
  obtain ⟨acc, cc, rv, I⟩ := hI
  unfold exec
  refine seg_bind_wrap (wpAny_standAt ?_)
  refine seg_bind_wrap ?_
  rw [gc.over]
  refine wpAny_mono (hi.run ((S, lstObj acc cc) :: ip) s σ H _ I ht) (fun v s1 h1 => ?_) (fun e s' he => k.exc n s₀ e s' he)
  refine seg_bind_wrap ?_
  rw [hs, gc.over]
  refine wpAny_pure ?_
  refine seg_bind_wrap (wpAny_standAt ?_)
  refine seg_bind_wrap ?_
  rw [gc.over]
  refine wpAny_holding (wpAny_mono h1 (fun itv s2 h2 => ?_) (fun e s' he => k.exc n s₀ e s' he))
  obtain ⟨it, fp, tn, Jt, H2, rfl, I2, T, st2, f2, W, ⟨m0, w0⟩, turn⟩ := h2
  refine seg_call fun p => ?_
  have gl : ∀ {ip' : List (Addr × Obj)}, (∀ p ∈ ip', p.1 ≠ S) → ∀ (kk : Result → Sem PySem.Fin), GC X S ip' A (Code.forLoop tg (.ref it) body [] X.env) (Frame.ret kk none (gd false) (lv []) c p [] :: fs) id := fun hip kk =>
    gc_loop ⟨gc.pn, hip, gc.apart, gc.over, gc.split, gc.guard, gc.gd⟩ rfl rfl
  have key : ∀ m i n ys s₀ s σ H, n + ys.length = sizeLine → W i m ys σ H → GI X S ip ys σ H s → tn i s.heap → (∀ b ∈ fp, H b = none) →
      Seg (model X.prog X.w) A R (GY X S) n s₀ (Code.forLoop tg (.ref it) body [] X.env) ((model X.prog X.w).den (Code.forLoop tg (.ref it) body [] X.env)) (Frame.ret (fun r => Sem.wrap K J gd lv ((match r with
          | Except.ok f => Sem.pure f
          | Except.error e => Sem.raise e).onRaise (cameBack X.env))) none (gd false) (lv []) c p [] :: fs) s := by
    intro m
    induction m using Nat.strongRecOn with
    | ind m ih =>
      intro i n ys s₀ s σ H hn w hI st hf
      obtain ⟨acc, cc, rv, I⟩ := hI
      have fpk : ∀ b ∈ fp, FpOk X ((S, lstObj acc cc) :: ip) H b := fun b hb' => by
        obtain ⟨q1, q2, q3, q4, q5, q6⟩ := f2 b hb'
        refine ⟨hf b hb', q2, q3, q4, q5, fun p' hp' => ?_⟩
        rcases List.mem_append.mp hp' with z | z
        · exact q6 p' (List.mem_append.mpr (.inl z))
        · rcases List.mem_cons.mp z with z | z
          · have q7 := q6 _ (List.mem_append.mpr (.inr (List.mem_cons_self ..)))
            rw [z]; exact q7
          · exact q6 p' (List.mem_append.mpr (.inr (List.mem_cons_of_mem _ z)))
      have fpS : ∀ b ∈ fp, b ≠ S := fun b hb' e => (fpk b hb').2.2.2.2.2 (S, lstObj acc cc) (List.mem_append.mpr (.inr (List.mem_cons_self ..))) e.symm
      have ee : ∀ n s₀ e s', X.xe e s' → Seg (model X.prog X.w) A R (GY X S) n s₀ (Code.forLoop tg (.ref it) body [] X.env) ((do noteFrame e X.env; theTreesLotGoes e : Sem Unit).bind fun _ => Sem.raise e) (Frame.ret (fun r => Sem.wrap K J gd lv ((match r with
          | Except.ok f => Sem.pure f
          | Except.error e => Sem.raise e).onRaise (cameBack X.env))) none (gd false) (lv []) c p [] :: fs) s' := fun n s₀ e s' he => by
        refine seg_bind ?_
        rw [(gl gc.ip _).over]
        exact wpAny_bind (wpAny_mono (hp e s' he) (fun _ s'' hcb => wpAny_theTreesLotGoes (seg_leaf (Except.error e) (seg_cameBack gc k hcb))) (fun y s'' hcb => seg_leaf (Except.error y) (seg_cameBack gc k hcb)))
      show Seg _ A R _ n s₀ _ ((forTurn tg (.ref it) body [] X.env).onRaise (fun x => do noteFrame x X.env; theTreesLotGoes x)) _ s
      rw [Sem.onRaise_eq_wrap]
      unfold forTurn
      refine seg_bind_wrap (wpAny_standAt ?_)
      refine seg_bind_wrap ?_
      rw [(gl gc.ip _).over]
      refine wpAny_onRaise ?_
      rcases turn i m ys σ H w with ⟨hstop, hnx⟩ | ⟨hgo, N, hN, hy⟩
      · refine wpAny_mono (T.done X rfl rfl rfl hc i ((S, lstObj acc cc) :: ip) s σ H (fun _ _ => False) I fpk st hstop) (fun r s1 hr => ?_) (fun _ _ z => z.elim)
        obtain ⟨rfl, I1⟩ := hr
        refine seg_again rfl ?_
        show Seg _ A R _ n s₀ _ (do let f ← (execs [] X.env).onRaise (fun x => do noteFrame x X.env; theTreesLotGoes x); pure (Fin.done f)) _ s1
        refine seg_bind ?_
        refine wpAny_onRaise ?_
        refine wpAny_pure ?_
        exact seg_leaf (Except.ok Flow.next) (k.ok n ys s₀ s1 Flow.next hn ⟨σ, H, ⟨acc, cc, rv, I1⟩, hnx⟩)
      · refine wpAny_mono (T.item X rfl rfl rfl hc i ((S, lstObj acc cc) :: ip) s σ H (fun _ _ => False) I fpk st hgo) (fun r s1 hr => ?_) (fun _ _ z => z.elim)
        obtain ⟨u, rfl, h2⟩ := hr
        refine seg_bind_wrap ?_
        rw [(gl gc.ip _).over]
        refine wpAny_mono h2 (fun _ s2 hh => ?_) (fun _ _ z => z.elim)
        obtain ⟨x, H', I', hx, hyl, st', hf'⟩ := hh
        have I'' : L2.Inv X ((S, lstObj acc cc) :: (pinsOf s2.heap fp ++ ip)) σ H' s2 := by
          refine { I' with pin := fun p' hp' => ?_ }
          rcases List.mem_append.mp hp' with z | z
          · exact I'.pin p' (List.mem_append.mpr (.inl z))
          · rcases List.mem_cons.mp z with z | z
            · exact I'.pin p' (List.mem_append.mpr (.inr (by rw [z]; exact List.mem_cons_self ..)))
            · rcases List.mem_append.mp z with z | z
              · obtain ⟨m1, m2⟩ := pinsOf_mem z
                obtain ⟨_, q2, q3, _⟩ := fpk _ m1
                obtain ⟨o, eo, no⟩ := T.obj _ _ st' _ m1
                rw [m2] at eo
                cases eo
                exact ⟨m2, hf' _ m1, q2, q3, no⟩
              · exact I'.pin p' (List.mem_append.mpr (.inr (List.mem_cons_of_mem _ z)))
        have hip : ∀ p' ∈ pinsOf s2.heap fp ++ ip, p'.1 ≠ S := fun p' hp' => by
          rcases List.mem_append.mp hp' with z | z
          · exact fpS _ (pinsOf_mem z).1
          · exact gc.ip p' z
        have back : ∀ {ys' : List V} {σ' : L2.St} {H3 : Hp} {s3 : Shared}, GI X S (pinsOf s2.heap fp ++ ip) ys' σ' H3 s3 → GI X S ip ys' σ' H3 s3 ∧ tn (i + 1) s3.heap ∧ ∀ b ∈ fp, H3 b = none := fun hI3 => by
          obtain ⟨acc3, cc3, rv3, I3⟩ := hI3
          have hpin : ∀ b ∈ fp, ∀ o, s2.heap.get? b = some o → _ := fun b hb' o eo => I3.pin (b, o) (List.mem_append.mpr (.inr (List.mem_cons_of_mem _ (List.mem_append.mpr (.inl (mem_pinsOf hb' eo))))))
          refine ⟨⟨acc3, cc3, rv3, inv_less I3 fun p' hp' => ?_⟩, T.keep _ _ _ st' fun b hb' o eo => (hpin b hb' o eo).1, fun b hb' => ?_⟩
          · rcases List.mem_cons.mp hp' with z | z
            · rw [z]; exact List.mem_cons_self ..
            · exact List.mem_cons_of_mem _ (List.mem_append.mpr (.inr z))
          · obtain ⟨o, eo, _⟩ := T.obj _ _ st' b hb'
            exact (hpin b hb' o eo).2.1
        refine seg_bind_wrap ?_
        rw [(gl gc.ip _).over]
        refine wpAny_mono (hg.run _ s2 σ H' x u _ I'' hx (hy x H' hyl)) (fun _ s3 h3 => ?_) (fun e s' he => ee n s₀ e s' he)
        obtain ⟨σ3, H3, I3, h3⟩ := h3
        rw [Sem.bind_eq_wrap', Sem.wrap_wrap]
        refine hb.run A S (pinsOf s2.heap fp ++ ip) R n ys s₀ _ _ _ _ _ _ s3 σ3 H3 { nx := N, rt := D.rt, bk := D.nx, ct := N } (gl hip _) hn ⟨fun n' ys' s₀' s' f hn' hq => ?_, fun n' s₀' e s' he => ee n' s₀' e s' he⟩ ⟨acc, cc, rv, I3⟩ h3
        cases f with
        | next =>
          obtain ⟨σ', H4, hI4, hn4⟩ := hq
          obtain ⟨m', hm, w'⟩ := hN ys' σ' H4 hn4
          obtain ⟨g1, g2, g3⟩ := back hI4
          exact seg_again rfl (ih m' hm (i + 1) n' ys' s₀' s' σ' H4 hn' w' g1 g2 g3)
        | cont =>
          obtain ⟨σ', H4, hI4, hn4⟩ := hq
          obtain ⟨m', hm, w'⟩ := hN ys' σ' H4 hn4
          obtain ⟨g1, g2, g3⟩ := back hI4
          exact seg_again rfl (ih m' hm (i + 1) n' ys' s₀' s' σ' H4 hn' w' g1 g2 g3)
        | brk =>
          obtain ⟨σ', H4, hI4, hn4⟩ := hq
          exact seg_leaf (Except.ok Flow.next) (k.ok n' ys' s₀' s' Flow.next hn' ⟨σ', H4, (back hI4).1, hn4⟩)
        | ret v =>
          obtain ⟨v', σ', H4, hI4, hv, hr⟩ := hq
          exact seg_leaf (Except.ok (Flow.ret v)) (k.ok n' ys' s₀' s' (Flow.ret v) hn' ⟨v', σ', H4, (back hI4).1, hv, hr⟩)
  exact key m0 0 n ys s₀ s2 σ H2 hn w0 ⟨acc, cc, rv, I2⟩ st2 fun b hb => (f2 b hb).1
end Gf

set_option Elab.async false
set_option linter.all false
set_option maxRecDepth 100000
set_option maxHeartbeats 2000000
namespace Gf
open PySem PySem.Spec PyProof.Rows L2
theorem close_list : typeLookup (Value.type "list_iterator") (Str.ofString "close") = pure none := by
  rw [typeLookup_type, builtinLookup_eq_fast]
  rfl
theorem special_list_item {prog : Program} {w : World} {A : Around} {E : Value → Shared → Prop} {s : Shared} {it l : Addr} {i : Nat} {items : Array Value} {x : Value} {Q : Option Value → Shared → Prop}
    (hit : s.heap.IsListIter it l i) (hl : s.heap.IsList l items) (hx : items[i]? = some x)
    (hQ : ∀ h' : Heap, h'.IsListIter it l (i + 1) → Heap.SameBut it s.heap h' → Q (some x) { heap := h', gens := s.gens, drawn := s.drawn, toks := s.toks, os := s.os }) :
    wpAny (model prog w) A (callSpecial? (Value.ref it) (Str.ofString "__next__")) Q E s := by
  obtain ⟨o, ho, hc, hd⟩ := id hit
  obtain ⟨ol, hol, hcl, nl, hdl⟩ := hl
  refine wpAny_callSpecial?_slot (Heap.IsListIter.typeIs hit) slot_listiter_next (wpAny_call_entry slot_listiter_next (Heap.IsListIter.typeIs hit) entry_listiter_next ?_ (args_listiter_next _))
  refine wpAny_bind (wpAny_pure (a := (Value.ref it, [])) ?_)
  refine wpAny_bind (wpAny_field ho hd rfl ?_)
  show wpAny _ _ (if _ then _ else _) _ _ _
  rw [if_neg (by intro h; cases h)]
  refine wpAny_bind (wpAny_field ho hd rfl ?_)
  refine wpAny_bind (wpAny_seqItems hol hdl ?_)
  show wpAny _ _ (match items[((i : Int)).toNat]? with | some x => _ | none => _) _ _ _
  rw [Int.toNat_natCast, hx]
  refine wpAny_bind (wpAny_setField ho hd (by simp) (wpAny_pure ⟨x, rfl, ?_⟩))
  refine hQ _ ⟨_, Heap.get?_update_self _ ho (Obj.isFreed_of_fields (Obj.data_mapFields hd _)), (Obj.cls_mapFields o _).trans hc, ?_⟩ (Heap.SameBut.update _ _ _)
  rw [Obj.data_mapFields hd]
  rfl
end Gf
namespace Gf
open PySem PySem.Spec PyProof.Rows L2
theorem special_list_end {prog : Program} {w : World} {A : Around} {E : Value → Shared → Prop} {s : Shared} {it l : Addr} {i : Nat} {items : Array Value} {Q : Option Value → Shared → Prop} (hh : A.handled = none)
    (hit : s.heap.IsListIter it l i) (hl : s.heap.IsList l items) (hx : items[i]? = none)
    (hE : ∀ (e : Value) (h' : Heap), StopX e h' → Heap.ExtBut it s.heap h' → E e { heap := h', gens := s.gens, drawn := s.drawn, toks := s.toks, os := s.os }) :
    wpAny (model prog w) A (callSpecial? (Value.ref it) (Str.ofString "__next__")) Q E s := by
  obtain ⟨o, ho, hc, hd⟩ := id hit
  obtain ⟨ol, hol, hcl, nl, hdl⟩ := hl
  refine wpAny_callSpecial?_slot (Heap.IsListIter.typeIs hit) slot_listiter_next (wpAny_call_entry slot_listiter_next (Heap.IsListIter.typeIs hit) entry_listiter_next ?_ (args_listiter_next _))
  refine wpAny_bind (wpAny_pure (a := (Value.ref it, [])) ?_)
  refine wpAny_bind (wpAny_field ho hd rfl ?_)
  show wpAny _ _ (if _ then _ else _) _ _ _
  rw [if_neg (by intro h; cases h)]
  refine wpAny_bind (wpAny_field ho hd rfl ?_)
  refine wpAny_bind (wpAny_seqItems hol hdl ?_)
  show wpAny _ _ (match items[((i : Int)).toNat]? with | some x => _ | none => _) _ _ _
  rw [Int.toNat_natCast, hx]
  refine wpAny_bind (wpAny_rule ?_)
  refine wpAny_bind (wpAny_setField ho hd (by simp) ?_)
  refine wpAny_bind ?_
  show wpAny _ _ (newExc (Value.type "StopIteration") []) _ _ _
  unfold newExc
  refine wpAny_bind ?_
  refine wpAny_newObj_type ?_
  refine wpAny_bind (wpAny_of_eq rfl ?_)
  refine wpAny_newObj_type ?_
  refine wpAny_raiseNew_none hh ?_
  refine hE _ _ ⟨_, _, _, rfl, Heap.get?_push_size _ rfl, rfl, rfl, by rfl⟩ (fun b o' hb e => ?_)
  have e1 : (s.heap.update it (Obj.mapFields fun x => x.setIfInBounds 0 Value.none)).get? b = some o' := by
    rw [(Heap.SameBut.update s.heap it _).2 b hb]; exact e
  exact Heap.get?_push_of_some _ (Heap.get?_push_of_some _ e1)
end Gf

set_option Elab.async false
set_option linter.all false
set_option maxRecDepth 100000
set_option maxHeartbeats 2000000
namespace Gf
open PySem PySem.Spec PyProof.Rows L2
def tYfL (te : TE) : TYf := fun σ H Q => te σ H fun x H1 => ∃ a xs, x = V.ref a ∧ H1 a = some (HO.lst xs) ∧ Q xs H1
theorem yf_list {X : Cx} {e : Expr} {te : TE} (he : PE X e te) : YfE X e (tYfL te) := by
  refine ⟨fun pins s σ H Q I h => ?_⟩
  refine thn (he.run pins s σ H (fun x H1 => ∃ a xs, x = V.ref a ∧ H1 a = some (HO.lst xs) ∧ Q xs H1) I h) fun v s1 hx => ?_
  obtain ⟨x, H1, I1, r1, a, xs, ex, ha, hq⟩ := hx
  subst ex
  have ev : v = Value.ref a := r1
  subst ev
  obtain ⟨hlen, its, nn, rits, hget⟩ := I1.hok a (HO.lst xs) ha
  have ht : s1.heap.IsList a its.toArray := ⟨_, hget, rfl, nn, rfl⟩
  have ksz := fun b o (e : s1.heap.get? b = some o) => Nat.ne_of_lt (Heap.lt_size e)
  refine ⟨"list", Heap.IsList.typeIs ht, by decide, ?_⟩
  refine PySem.Flt.iter_list_ ht fun s₂ es hh hb hne => ?_
  subst es
  have kp := fun b o (e : s1.heap.get? b = some o) => Heap.get?_push_of_some { cls := Value.type "list_iterator", data := Data.fields #[Value.ref a, Value.int 0 0] } e
  refine ⟨s1.heap.objs.size, H1, xs, fun j h => h.IsListIter s1.heap.objs.size a j ∧ h.IsList a its.toArray, rfl, Inv.kept I1 kp, .inr (Inv.sz I1), Nat.ne_of_gt (Inv.lt I1), fun y c hy => ?_, HOk.fresh I1.hok (Nat.le_refl _), fun p hp => ksz _ _ (I1.pin p hp).1, hh, ?_, hq⟩
  · obtain ⟨v, o, ho, _⟩ := I1.cell y c hy
    exact ksz _ _ ho
  · refine ⟨⟨"list_iterator", fun j h q => ?_, close_list, by decide⟩, fun j h h' q hk => ?_, fun A' j x s2 Q' E' hA hx q hQ => ?_, fun A' s2 Q' E' hA q hE => ?_⟩
    · obtain ⟨⟨o, ho, hc, _⟩, _⟩ := q
      exact ⟨o, ho, hc⟩
    · obtain ⟨⟨o, ho, r⟩, ⟨o2, ho2, r2⟩⟩ := q
      exact ⟨⟨o, hk _ _ (.inl rfl) ho, r⟩, ⟨o2, hk _ _ (.inr (by rw [ha]; exact fun z => by cases z)) ho2, r2⟩⟩
    · obtain ⟨q1, q2⟩ := q
      obtain ⟨u, hu, ru⟩ := Vals.get rits hx
      have hne' : a ≠ s1.heap.objs.size := hne
      refine special_list_item q1 q2 (by rw [List.getElem?_toArray]; exact hu) fun h' q1' hs => ?_
      refine hQ u h' s2.toks ru ⟨q1', ?_⟩ fun b o hb eb => by rw [hs.2 b hb]; exact eb
      obtain ⟨o2, ho2, r2⟩ := q2
      exact ⟨o2, by rw [hs.2 a hne']; exact ho2, r2⟩
    · obtain ⟨q1, q2⟩ := q
      have hnone : its.toArray[xs.length]? = none := by
        have e := Vals.length rits
        rw [List.getElem?_toArray]
        exact List.getElem?_eq_none_iff.mpr (by omega)
      exact special_list_end hA q1 q2 hnone fun e h' hS hk => hE e h' s2.toks hS fun b o hb eb => hk b o hb eb
end Gf

set_option Elab.async false
set_option linter.all false
set_option maxRecDepth 100000
set_option maxHeartbeats 2000000
namespace Dk
open PySem PySem.Spec PyProof.Rows L2 TL
/-! ### what happens in a tick, and quiet periods -/
def evIn (h : Hd) (i : Nat) : List Ev := (adv h (i : Int) (stt h i)).2
theorem adv_perE {h : Hd} (hT : Tabs h.ts) {i j : Int} (e : i % ((per h.ts : Nat) : Int) = j % ((per h.ts : Nat) : Int)) (c : Cs) : adv h i c = adv h j c := by
  have ew := wishes_per hT e
  have es : leaveStep h i = leaveStep h j := by
    funext a p
    unfold leaveStep
    rw [thinks_per e]
  unfold adv depart leaveAll
  rw [ew, es]
theorem leave_grows (h : Hd) (t : Int) : ∀ (l : List Int) (a : Cs × Bool × List Ev), a.2.2.length + l.length ≤ (l.foldl (leaveStep h t) a).2.2.length ∧ (l.foldl (leaveStep h t) a).2.2.length ≤ a.2.2.length + 2 * l.length
  | [], a => ⟨Nat.le_refl _, Nat.le_refl _⟩
  | q :: r, a => by
    have ih := leave_grows h t r (leaveStep h t a q)
    have h1 : a.2.2.length + 1 ≤ (leaveStep h t a q).2.2.length ∧ (leaveStep h t a q).2.2.length ≤ a.2.2.length + 2 := by
      unfold leaveStep
      split
      · split
        · show _ ≤ (a.2.2 ++ [_] ++ [_]).length ∧ (a.2.2 ++ [_] ++ [_]).length ≤ _
          rw [List.length_append, List.length_append]
          show _ ≤ a.2.2.length + 1 + 1 ∧ a.2.2.length + 1 + 1 ≤ _
          omega
        · show _ ≤ (a.2.2 ++ [_]).length ∧ (a.2.2 ++ [_]).length ≤ _
          rw [List.length_append]
          show _ ≤ a.2.2.length + 1 ∧ a.2.2.length + 1 ≤ _
          omega
      · show _ ≤ (a.2.2 ++ [_]).length ∧ (a.2.2 ++ [_]).length ≤ _
        rw [List.length_append]
        show _ ≤ a.2.2.length + 1 ∧ a.2.2.length + 1 ≤ _
        omega
    show a.2.2.length + (r.length + 1) ≤ (r.foldl (leaveStep h t) (leaveStep h t a q)).2.2.length ∧ (r.foldl (leaveStep h t) (leaveStep h t a q)).2.2.length ≤ a.2.2.length + 2 * (r.length + 1)
    omega
/-- at most 20 things happen in a tick -/
theorem dep_len (h : Hd) (t : Int) (ws : List Bool) (c : Cs) : (leaversOf ws c).length ≤ (depart h t ws c).2.length ∧ (depart h t ws c).2.length ≤ 2 * (leaversOf ws c).length + 1 := by
  have g := leave_grows h t (leaversOf ws c) (stay ws c, false, [])
  have e : (leaversOf ws c).foldl (leaveStep h t) (stay ws c, false, []) = leaveAll h t ws c := rfl
  rw [e] at g
  have g1 : (leaversOf ws c).length ≤ (leaveAll h t ws c).2.2.length := by have := g.1; simpa using this
  have g2 : (leaveAll h t ws c).2.2.length ≤ 2 * (leaversOf ws c).length := by have := g.2; simpa using this
  unfold depart
  split
  · split
    · show _ ≤ ((leaveAll h t ws c).2.2 ++ [_]).length ∧ ((leaveAll h t ws c).2.2 ++ [_]).length ≤ _
      rw [List.length_append]
      show _ ≤ _ + 1 ∧ _ + 1 ≤ _
      omega
    · show _ ≤ (leaveAll h t ws c).2.2.length ∧ (leaveAll h t ws c).2.2.length ≤ _
      omega
  · show _ ≤ (leaveAll h t ws c).2.2.length ∧ (leaveAll h t ws c).2.2.length ≤ _
    omega
theorem adv_len {h : Hd} {t : Int} {c : Cs} (g : Gd h.ts.length c) (h6 : h.ts.length ≤ 6) : (adv h t c).2.length ≤ 20 := by
  have hw := wishes_len h.ts t
  have g2 := gd_arrive hw g
  have a1 : (arrive (wishes h.ts t) c).2.length ≤ 6 := by
    have := comers_len (wishes h.ts t) c.home
    unfold arrive
    dsimp only
    split
    · exact Nat.zero_le _
    · split <;> (rw [List.length_map]; omega)
  have a2 := (dep_len h t (wishes h.ts t) (arrive (wishes h.ts t) c).1).2
  have a3 : (leaversOf (wishes h.ts t) (arrive (wishes h.ts t) c).1).length ≤ 6 := by
    have := List.length_filter_le (fun p => !wants (wishes h.ts t) p) (arrive (wishes h.ts t) c).1.home
    have b := up_len g2.hu g2.hi
    unfold leaversOf; omega
  show ((arrive (wishes h.ts t) c).2 ++ (depart h t (wishes h.ts t) (arrive (wishes h.ts t) c).1).2).length ≤ 20
  rw [List.length_append]
  omega
/-- a tick in which nothing happens only empties the waiters -/
def still (c : Cs) : Cs := { c with wait := [] }
theorem filt_none {p : Int → Bool} {l : List Int} (h : l.filter (fun x => !p x) = []) : l.filter p = l := List.filter_eq_self.mpr fun x hx => by
  cases q : p x with
  | true => rfl
  | false => exact absurd ((List.mem_filter (p := fun x => !p x)).mpr ⟨hx, by show (!p x) = true; rw [q]; rfl⟩) (by rw [h]; exact List.not_mem_nil)
theorem quiet_is {h : Hd} {t : Int} {c : Cs} (q : (adv h t c).2 = []) : adv h t c = (still c, []) := by
  have q' : (arrive (wishes h.ts t) c).2 ++ (depart h t (wishes h.ts t) (arrive (wishes h.ts t) c).1).2 = [] := q
  obtain ⟨q1, q2⟩ := List.append_eq_nil_iff.mp q'
  have ea : arrive (wishes h.ts t) c = (still c, []) := by
    unfold arrive at q1 ⊢
    dsimp only at q1 ⊢
    by_cases e : (comersOf (wishes h.ts t) c.home).isEmpty = true
    · rw [if_pos e]; rfl
    · rw [if_neg e] at q1
      exfalso
      have hne : comersOf (wishes h.ts t) c.home ≠ [] := fun z => e (by rw [z]; rfl)
      split at q1
      · exact hne (List.map_eq_nil_iff.mp q1)
      · exact hne (List.map_eq_nil_iff.mp q1)
  rw [ea] at q2
  have hl : leaversOf (wishes h.ts t) (still c) = [] := by
    have := (dep_len h t (wishes h.ts t) (still c)).1
    rw [q2] at this
    exact List.eq_nil_of_length_eq_zero (Nat.le_zero.mp this)
  have es : stay (wishes h.ts t) (still c) = still c := by
    unfold stay
    rw [filt_none hl]
  have ed : depart h t (wishes h.ts t) (still c) = (still c, []) := by
    unfold depart leaveAll
    rw [hl, es]
    rfl
  show ((depart h t (wishes h.ts t) (arrive (wishes h.ts t) c).1).1, (arrive (wishes h.ts t) c).2 ++ (depart h t (wishes h.ts t) (arrive (wishes h.ts t) c).1).2) = _
  rw [ea, ed]
  rfl
theorem adv_still (h : Hd) (t : Int) (c : Cs) : adv h t (still c) = adv h t c := rfl
theorem still_state {h : Hd} {t0 n : Nat} (q : ∀ j, j < n → evIn h (t0 + j) = []) : ∀ j, j < n → stt h (t0 + (j + 1)) = still (stt h t0)
  | 0, hj => by
    have := quiet_is (q 0 hj)
    show (adv h ((t0 + 0 : Nat) : Int) (stt h (t0 + 0))).1 = _
    rw [this]; rfl
  | j + 1, hj => by
    have ih := still_state q j (by omega)
    have := quiet_is (q (j + 1) hj)
    show (adv h ((t0 + (j + 1) : Nat) : Int) (stt h (t0 + (j + 1)))).1 = _
    rw [this, ih]; rfl
/-- whoever does nothing in a whole period never does anything again -/
theorem quiet_for_ever {h : Hd} (hT : Tabs h.ts) {t0 : Nat} (q : ∀ j, j < per h.ts → evIn h (t0 + j) = []) : ∀ k, evIn h (t0 + k) = [] := by
  have hp := per_pos hT
  have res : ∀ k, (adv h ((t0 + k : Nat) : Int) (stt h t0)).2 = [] := fun k => by
    have e : ((t0 + k : Nat) : Int) % ((per h.ts : Nat) : Int) = ((t0 + k % per h.ts : Nat) : Int) % ((per h.ts : Nat) : Int) := by
      show (((t0 + k) % per h.ts : Nat) : Int) = (((t0 + k % per h.ts) % per h.ts : Nat) : Int)
      rw [Nat.add_mod t0 k, Nat.add_mod t0 (k % per h.ts), Nat.mod_mod]
    rw [adv_perE hT e]
    have hj := Nat.mod_lt k hp
    have hq := q (k % per h.ts) hj
    unfold evIn at hq
    cases hk : k % per h.ts with
    | zero => rw [hk] at hq; exact hq
    | succ m =>
      rw [hk] at hq hj
      have es := still_state q m (by omega)
      rw [es, adv_still] at hq
      exact hq
  have st : ∀ k, stt h (t0 + (k + 1)) = still (stt h t0) := fun k => by
    induction k with
    | zero =>
      have := quiet_is (res 0)
      show (adv h ((t0 + 0 : Nat) : Int) (stt h (t0 + 0))).1 = _
      rw [Nat.add_zero] at this ⊢
      rw [this]
    | succ k ih =>
      have := quiet_is (res (k + 1))
      show (adv h ((t0 + (k + 1) : Nat) : Int) (stt h (t0 + (k + 1)))).1 = _
      rw [ih, adv_still, this]
  intro k
  cases k with
  | zero => have := res 0; exact this
  | succ k =>
    unfold evIn
    rw [st k, adv_still]
    exact res (k + 1)
end Dk

set_option Elab.async false
set_option linter.all false
set_option maxRecDepth 100000
set_option maxHeartbeats 4000000
namespace Dk
open PySem PySem.Spec PyProof.Rows L2 TL
def EvT (H : Hp) (ys : List V) (l : List (Int × Ev)) : Prop := Paired (fun v (p : Int × Ev) => ∃ a, v = .ref a ∧ H a = some (.tup [.int p.1, .str p.2.1, p.2.2])) ys l
theorem EvT.mono {H H' : Hp} : ∀ {ys : List V} {l : List (Int × Ev)}, EvT H ys l → (∀ a zs, H a = some (.tup zs) → H' a = some (.tup zs)) → EvT H' ys l
  | [], [], .nil, _ => .nil
  | _ :: _, _ :: _, .cons ⟨a, e, h⟩ q, s => .cons ⟨a, e, s _ _ h⟩ (EvT.mono q s)
theorem EvT.app {H : Hp} : ∀ {xs : List V} {l : List (Int × Ev)} {ys : List V} {m : List (Int × Ev)}, EvT H xs l → EvT H ys m → EvT H (xs ++ ys) (l ++ m)
  | [], [], _, _, .nil, h => h
  | _ :: _, _ :: _, _, _, .cons a q, h => .cons a (EvT.app q h)
theorem EvT.len {H : Hp} {ys : List V} {l : List (Int × Ev)} (h : EvT H ys l) : ys.length = l.length := Paired.length h
theorem Evs.evT {H : Hp} {t : Int} : ∀ {xs : List V} {evs : List Ev}, Evs H t xs evs → EvT H xs (evs.map fun e => (t, e))
  | [], [], .nil => .nil
  | _ :: _, _ :: _, .cons ⟨a, e, h⟩ q => .cons ⟨a, e, h⟩ (Evs.evT q)
def evL (h : Hd) (first n : Nat) : List (Int × Ev) := (List.range n).flatMap fun j => (evIn h (first + j)).map fun e => (((first + j : Nat) : Int), e)
theorem evL_succ (h : Hd) (first n : Nat) : evL h first (n + 1) = evL h first n ++ (evIn h (first + n)).map fun e => (((first + n : Nat) : Int), e) := by
  unfold evL
  rw [List.range_succ, List.flatMap_append]
  simp
theorem evL_more {h : Hd} {first i : Nat} : ∀ k, (∀ j, j < k → evIn h (first + (i + j)) = []) → evL h first (i + k) = evL h first i
  | 0, _ => rfl
  | k + 1, q => by
    have ih := evL_more k fun j hj => q j (by omega)
    show evL h first ((i + k) + 1) = _
    rw [evL_succ, ih, q k (by omega)]
    simp
def spEvents (K : PySem.W.Frag) (CH : Addr) : SpG := fun vs H Q _ => ∃ (hp : Addr) (h : Hd) (first n : Nat), vs = [.ref hp, .int (first : Int), .int ((first : Int) + (n : Int) - 1)] ∧ HoAt K CH H hp h ∧ Tabs h.ts ∧ h.ts.length ≤ 6 ∧ (first : Int) ≤ lastT ∧ 0 ≤ (first : Int) + (n : Int) - 1 ∧ (first : Int) + (n : Int) - 1 ≤ lastT ∧ n ≤ 1000 ∧
  ∀ (H' : Hp) (ys : List V), Same H H' → EvT H' ys (evL h first n) → Q ys H'
abbrev nEv : List Str := ["house", "first", "last", "course", "quiet", "_", "events"]
section
variable {P : Program} {w : World} {K : PySem.W.Frag} {mg : Str → Option Value} {base : Heap} {CC CH fCi fAd fSn : Addr} {fdCi fdAd fdSn : FuncData} {fSo fFc : Addr} {fdSo fdFc : FuncData} {fHL : Addr} {fdHL : FuncData} {fII fIB fHO : Addr} {fdII fdIB fdHO : FuncData} {fCt fCa : Addr} {fdCt fdCa : FuncData}
theorem scEv : GScope nEv ["house", "first", "last"] (defScope sEvents) := ⟨rfl, rfl, rfl, by decide +kernel, rfl, by decide +kernel, by decide +kernel⟩
theorem gok_events {f : Addr} {fd : FuncData} (F : Fun K "events_between" "events_between" sEvents f fd) (AS : TxtAs K mg fCt fCa fdCt fdCa) (TF : TxtF K mg fII fIB fHO fdII fdIB fdHO) (Z : TxtSc P w K mg base CC CH fCi fAd fSn fdCi fdAd fdSn) (FC : TxtFc K mg fSo fFc fdSo fdFc) (T : TxtA mg) (C' : TxtCo K mg CC CH fHL fdHL) :
    GFn P w K mg base 12 f fd ["house", "first", "last"] (spEvents K CH) := by
  have GT : FnOk P w K mg base CX0 3 fCt fdCt ["tick"] spTk := ok_tk AS TF
  have GA : FnOk P w K mg base CX0 11 fCa fdCa ["house", "tick"] (spAfter K CC CH) := ok_after AS.FCa Z FC T C'
  obtain ⟨oc, od, kV, doc, pm, an, cdv, ct, osl, rfl, lk, hcd⟩ := F.ex
  refine gfn_of (k := 11) lk hcd scEv (fun vs H Q E h => ?_) (fun A outer s H vs Q E pn hr h => ?_)
  · obtain ⟨hp, h, first, n, rfl, _⟩ := h
    rfl
  · obtain ⟨hp, h, first, n, rfl, hho, hT, h6, hf, hl0, hl1, hn, k⟩ := h
    have hr4 : Room 4 (A.deeper (envOfC (Str.ofString "events_between") (defScope sEvents) s.heap.objs.size f cdv)) := hr.mono (by decide)
    have hr3 : Room 3 (A.deeper (envOfC (Str.ofString "events_between") (defScope sEvents) s.heap.objs.size f cdv)) := hr.mono (by decide)
    have hlt : lastT = 1000000000000000000 := rfl
    have hpp := per_pos hT
    refine ⟨_, gss_cons (gs_ps (ps_expr (pe_call GT hr3 rfl AS.gCt AS.FCt.kp AS.bCt .nil pass0 (pa_cons (pv 1) pa_nil))))
      (gss_cons (gs_ps (ps_expr (pe_call GT hr3 rfl AS.gCt AS.FCt.kp AS.bCt .nil pass0 (pa_cons (pv 2) pa_nil))))
      (gss_cons (gs_ps (ps_set (i := 3) scEv.nd rfl (.inl rfl) (pe_call GA hr rfl AS.gCa AS.FCa.kp AS.bCa .nil pass0 (pa_cons (pv 0) (pa_cons (pe_op op_sub (pv 1) pe_int) pa_nil)))))
      (gss_cons (gs_ps (ps_set (i := 4) scEv.nd rfl (.inl rfl) pe_int))
      (gss_cons (Gf.gs_for owns_gcx rfl (pi_range2 (by rfl) T.range (pa_cons (pv 1) (pa_cons (pe_op op_add (pv 2) pe_int) pa_nil))) (pg_name (i := 5) scEv.nd rfl (.inl rfl))
        (gss_cons (gs_ps (ps_set (i := 6) scEv.nd rfl (.inl rfl) (pe_meth0 (pv 3) Z.cl Z.mAd Z.GA hr4 Z.bAd .nil pass0)))
        (gss_cons (gs_yieldFrom (Gf.yf_list (pv 6)) hr.hd)
        (gss_cons (gs_ps (ps_set (i := 4) scEv.nd rfl (.inl rfl) (pe_ifExp (pt_truth (pv 6) (by intro _; rfl)) pe_int (pe_op op_add (pv 4) pe_int))))
        (gss_cons (gs_ps (ps_if (pt_cmpR op_eq (pv 4) (pe_fld (pv 3) rfl) (nomark _)) (pss_one ps_retN) pss_nil)) gss_nil)))))
      gss_nil)))), ?_⟩
    refine ⟨_, rfl, _, rfl, by omega, hf, fun H1 s1 => ?_⟩
    refine ⟨_, rfl, _, rfl, hl0, hl1, fun H2 s2 => ?_⟩
    have s12 := s1.trans s2
    refine ⟨_, rfl, _, rfl, _, _, rfl, rfl, hp, h, first, rfl, hho.mono s12, hT, h6, fun H3 p s3 hpn co nhp _ => ?_⟩
    have s13 := s12.trans s3
    have ho3 := hho.mono s13
    refine ⟨_, rfl, ?_⟩
    have npp : ∀ b o, H b = some o → b ≠ p := fun b o e => ne_of_none (s12 _ _ e) hpn
    refine ⟨_, rfl, _, _, rfl, rfl, (first : Int), (first : Int) + (n : Int) - 1 + 1, rfl, ⟨by omega, by omega, by omega, by omega⟩, ?_⟩
    have ecount : ((first : Int) + (n : Int) - 1 + 1 - (first : Int)).toNat = n := by omega
    rw [ecount]
    refine ⟨fun i m ys σ H' => i ≤ n ∧ m = n - i ∧ ∃ (v5 v6 : Option V) (q : Nat), σ = [some (.ref hp), some (.int (first : Int)), some (.int ((first : Int) + (n : Int) - 1)), some (.ref p), some (.int (q : Int)), v5, v6] ∧ Kp p H3 H' ∧ CoAt CC H' p hp ((per h.ts : Nat) : Int) (((first + i : Nat) : Int) - 1) (stt h (first + i)) ∧ HoAt K CH H' hp h ∧ EvT H' ys (evL h first i) ∧ ys.length ≤ 20 * i ∧
        q ≤ i ∧ q < per h.ts ∧ ∀ j, j < q → evIn h (first + (i - q) + j) = [], ⟨_, Nat.zero_le _, rfl, _, _, 0, rfl, fun _ _ _ z => z, co, ho3, .nil, Nat.le_refl _, Nat.le_refl _, hpp, fun j hj => absurd hj (Nat.not_lt_zero _)⟩, ?_⟩
    rintro i m ys σ H4 ⟨hi, rfl, v5, v6, q, rfl, k4, co4, ho4, hE4, hz4, hq1, hq2, hq3⟩
    have s04 : Same H H4 := fun b o e => k4 _ _ (npp _ _ e) (s13 _ _ e)
    by_cases hin : i = n
    · subst hin
      exact .inl ⟨Nat.le_refl _, k H4 ys s04 hE4⟩
    · have hlt2 : i < n := by omega
      refine .inr ⟨hlt2, fun ys' σ' H' => ∃ (v5 v6 : Option V) (q : Nat), σ' = [some (.ref hp), some (.int (first : Int)), some (.int ((first : Int) + (n : Int) - 1)), some (.ref p), some (.int (q : Int)), v5, v6] ∧ Kp p H3 H' ∧ CoAt CC H' p hp ((per h.ts : Nat) : Int) (((first + (i + 1) : Nat) : Int) - 1) (stt h (first + (i + 1))) ∧ HoAt K CH H' hp h ∧ EvT H' ys' (evL h first (i + 1)) ∧ ys'.length ≤ 20 * (i + 1) ∧
          q ≤ i + 1 ∧ q < per h.ts ∧ ∀ j, j < q → evIn h (first + (i + 1 - q) + j) = [], fun ys' σ' H' z => ⟨n - (i + 1), by omega, by omega, rfl, z⟩, ?_⟩
      rintro x H5 ⟨rfl, rfl⟩
      obtain ⟨dx, a1, a2, a3, w1, w2, w3, w4⟩ := id co4
      have g := gd_stt h (first + i)
      have hh1 := up_len g.hu g.hi
      have hh2 := up_len g.cu g.ci
      refine ⟨_, rfl, p, dx, _, rfl, w1, by rfl, p, hp, ((first + i : Nat) : Int) - 1, stt h (first + i), h, rfl, co4, ho4, nhp, hT, h6, g.hi, by omega, by omega, fun H6 e k6 co6 hev6 _ => ?_⟩
      have et : ((first + i : Nat) : Int) - 1 + 1 = ((first + i : Nat) : Int) := by omega
      rw [et] at co6 hev6
      have co6' : CoAt CC H6 p hp ((per h.ts : Nat) : Int) (((first + (i + 1) : Nat) : Int) - 1) (stt h (first + (i + 1))) := by
        have e2 : ((first + (i + 1) : Nat) : Int) - 1 = ((first + i : Nat) : Int) := by omega
        rw [e2]; exact co6
      have hev6' : EvAt H6 e ((first + i : Nat) : Int) (evIn h (first + i)) := hev6
      have hlen := adv_len (h := h) (t := ((first + i : Nat) : Int)) g h6
      have hlen' : (evIn h (first + i)).length ≤ 20 := hlen
      obtain ⟨xs, eE, hxs⟩ := hev6'
      have hxl := hxs.len
      have ho6 := ho4.kp k6 w1 nhp
      have hE6 := hE4.mono (kp_tup2 k6 w1)
      have hE7 : EvT H6 (ys ++ xs) (evL h first (i + 1)) := by rw [evL_succ]; exact hE6.app hxs.evT
      have k36 : Kp p H3 H6 := k4.trans k6
      refine ⟨_, rfl, e, xs, rfl, eE, ?_, ?_⟩
      · exact Nat.le_trans (by omega : _ ≤ 40000) (by decide)
      have hzz : (ys ++ xs).length ≤ 20 * (i + 1) := by rw [List.length_append]; omega
      obtain ⟨dx6, c1, c2, c3, u1, u2, u3, u4⟩ := id co6'
      -- after this tick: quiet is q'
      have fin : ∀ (q' : Nat), q' ≤ i + 1 → q' ≤ per h.ts → (∀ j, j < q' → evIn h (first + (i + 1 - q') + j) = []) →
          (if decide (V.int (q' : Int) = V.int ((per h.ts : Nat) : Int)) = true then (V.non = V.non ∧ Q (ys ++ xs) H6) else (∃ (v5' v6' : Option V) (q : Nat), [some (V.ref hp), some (.int (first : Int)), some (.int ((first : Int) + (n : Int) - 1)), some (.ref p), some (.int (q' : Int)), some (.int ((first : Int) + (i : Int))), some (.ref e)] = [some (.ref hp), some (.int (first : Int)), some (.int ((first : Int) + (n : Int) - 1)), some (.ref p), some (.int (q : Int)), v5', v6'] ∧ Kp p H3 H6 ∧ CoAt CC H6 p hp ((per h.ts : Nat) : Int) (((first + (i + 1) : Nat) : Int) - 1) (stt h (first + (i + 1))) ∧ HoAt K CH H6 hp h ∧ EvT H6 (ys ++ xs) (evL h first (i + 1)) ∧ (ys ++ xs).length ≤ 20 * (i + 1) ∧
          q ≤ i + 1 ∧ q < per h.ts ∧ ∀ j, j < q → evIn h (first + (i + 1 - q) + j) = [])) := fun q' h1 h2 h3 => by
        by_cases hqp : q' = per h.ts
        · subst hqp
          rw [if_pos (decide_eq_true rfl)]
          have s06 : Same H H6 := fun b o e => k36 _ _ (npp _ _ e) (s13 _ _ e)
          have qa := quiet_for_ever hT (t0 := first + (i + 1 - per h.ts)) h3
          have em : evL h first n = evL h first (i + 1) := by
            have := evL_more (h := h) (first := first) (i := i + 1) (n - (i + 1)) fun j hj => by
              have := qa (per h.ts + j)
              have e : first + (i + 1 - per h.ts) + (per h.ts + j) = first + (i + 1 + j) := by omega
              rw [e] at this; exact this
            have e : i + 1 + (n - (i + 1)) = n := by omega
            rw [e] at this; exact this
          exact ⟨rfl, k H6 _ s06 (by rw [em]; exact hE7)⟩
        · rw [if_neg (by rw [decide_eq_true_eq]; intro z; have := V.int.inj z; omega)]
          exact ⟨_, _, q', rfl, k36, co6', ho6, hE7, hzz, h1, by omega, h3⟩
      refine ⟨_, rfl, _, .inl ⟨_, SqL.of eE, rfl⟩, ?_⟩
      cases hem : xs.isEmpty with
      | false =>
        refine iteT ?_
        refine ⟨_, rfl, _, rfl, p, CC, dx6, _, .int ((per h.ts : Nat) : Int), rfl, u1, Z.cl, C'.nSp, by rfl, rfl, _, rfl, ?_⟩
        exact fin 0 (Nat.zero_le _) (Nat.zero_le _) fun j hj => absurd hj (Nat.not_lt_zero _)
      | true =>
        have hx0 : xs = [] := List.isEmpty_iff.mp hem
        have he0 : evIn h (first + i) = [] := List.eq_nil_of_length_eq_zero (by rw [← hxl, hx0]; rfl)
        refine iteF ⟨_, rfl, _, _, rfl, rfl, ?_⟩
        refine ⟨_, rfl, _, rfl, p, CC, dx6, _, .int ((per h.ts : Nat) : Int), rfl, u1, Z.cl, C'.nSp, by rfl, rfl, _, rfl, ?_⟩
        refine fin (q + 1) (by omega) (by omega) fun j hj => ?_
        by_cases hjq : j = q
        · subst hjq
          have e : first + (i + 1 - (j + 1)) + j = first + i := by omega
          rw [e]; exact he0
        · have e : first + (i + 1 - (q + 1)) + j = first + (i - q) + j := by omega
          rw [e]; exact hq3 j (by omega)
end
end Dk

set_option Elab.async false
set_option linter.all false
set_option maxRecDepth 100000
set_option maxHeartbeats 2000000
namespace Dk
open PySem PySem.Spec PyProof.Rows L2 TL
/-! ### what is called with bad ticks, persons and limits -/
theorem pss_never {X : Cx} {l : List Stmt} : PSs X l (fun _ _ _ => False) := ⟨fun _ _ _ _ _ _ h => h.elim⟩
/-- an error's class without an init of its own -/
structure TxtEc (K : PySem.W.Frag) (mg : Str → Option Value) (n : Str) (C : Addr) : Prop where
  g : mg n = some (.ref C)
  x : PySem.W.excIn K C [Value.type "ValueError", Value.type "Exception", Value.type "BaseException", Value.type "object"] "ValueError.__new__" = true
  k : PySem.W.keepIn K (.ref C) = true
  b : PySem.W.subIn K (.ref C) (.type "BaseException") = some true
  t : PySem.W.typeIn K (.ref C) = some (.type "type")
def Wn (C : Addr) (H : Hp) (E : XK) : Prop := ∀ H', Same H H' → E (.ref C) none H'
theorem Wn.mono {C : Addr} {H H' : Hp} {E : XK} (h : Wn C H E) (s : Same H H') : Wn C H' E := fun H2 s2 => h H2 (s.trans s2)
/-- a check: passed, or the error -/
def Chk (C : Addr) (b : Bool) (H : Hp) (Q : VK) (E : XK) : Prop := (b = true ∧ ∀ H', Same H H' → Q .non H') ∨ (b = false ∧ Wn C H E)
def spTkX (K : PySem.W.Frag) (CT : Addr) : Sp := fun vs H Q E => ∃ v d, vs = [v] ∧ Dp K H v d ∧ Chk CT (below d (lastT + 1)) H Q E
def spCpX (K : PySem.W.Frag) (CP : Addr) : Sp := fun vs H Q E => ∃ v d n, vs = [v, .int n] ∧ Dp K H v d ∧ Chk CP (below d n) H Q E
def spAskX (K : PySem.W.Frag) (CT : Addr) : Sp := fun vs H _ E => ∃ hv v d, vs = [hv, v] ∧ Dp K H v d ∧ below d (lastT + 1) = false ∧ Wn CT H E
def spWaitX (K : PySem.W.Frag) (CH CP : Addr) : Sp := fun vs H _ E => ∃ hp h v d, vs = [.ref hp, v] ∧ HoAt K CH H hp h ∧ Dp K H v d ∧ below d (h.ts.length : Int) = false ∧ Wn CP H E
/-- the person is checked ahead of the ticks -/
def Two (K : PySem.W.Frag) (CT CP : Addr) (n : Nat) (dp : PyData) (dt : List PyData) (H : Hp) (E : XK) : Prop :=
  (below dp (n : Int) = false ∧ Wn CP H E) ∨ (below dp (n : Int) = true ∧ dt.any (fun d => !below d (lastT + 1)) = true ∧ Wn CT H E)
def spNextX (K : PySem.W.Frag) (CH CT CP : Addr) : Sp := fun vs H _ E => ∃ hp h p dp t dt, vs = [.ref hp, p, t] ∧ HoAt K CH H hp h ∧ Dp K H p dp ∧ Dp K H t dt ∧ Two K CT CP h.ts.length dp [dt] H E
def spCntWX (K : PySem.W.Frag) (CH CT CP : Addr) : Sp := fun vs H _ E => ∃ hp h p dp a da b db, vs = [.ref hp, p, a, b] ∧ HoAt K CH H hp h ∧ Dp K H p dp ∧ Dp K H a da ∧ Dp K H b db ∧ Two K CT CP h.ts.length dp [da, db] H E
def spPlanX (K : PySem.W.Frag) (CL : Addr) : Sp := fun vs H _ E => ∃ hv v d, vs = [hv, v] ∧ Dp K H v d ∧ below d 3 = false ∧ Wn CL H E
def spEvX (K : PySem.W.Frag) (CT : Addr) : SpG := fun vs H _ E => ∃ hv a da b db, vs = [hv, a, b] ∧ Dp K H a da ∧ Dp K H b db ∧ (below da (lastT + 1) = false ∨ below db (lastT + 1) = false) ∧ Wn CT H E
section
variable {P : Program} {w : World} {K : PySem.W.Frag} {mg : Str → Option Value} {base : Heap} {CC CH : Addr} {fHL : Addr} {fdHL : FuncData} {fII fIB fHO : Addr} {fdII fdIB fdHO : FuncData} {fCt fCa : Addr} {fdCt fdCa : FuncData}
  {fCP pPe gPe pPs gPs : Addr} {fdCP fdPe fdPs : FuncData} {fCp : Addr} {fdCp : FuncData} {CT CP CL : Addr}
theorem ok_tkX (AS : TxtAs K mg fCt fCa fdCt fdCa) (TF : TxtF K mg fII fIB fHO fdII fdIB fdHO) (EC : TxtEc K mg "InvalidTick" CT) : FnOk P w K mg base (L2.CX P w) 3 fCt fdCt ["tick"] (spTkX K CT) := by
  have GB : FnOk P w K mg base CX0 2 fIB fdIB ["value", "limit"] (spIsBelow K) := ok_isbelow TF
  obtain ⟨tl, el⟩ := AS.last
  refine AS.FCt.okX scTk (fun vs H Q E h => ?_) (fun cdv A outer s H vs Q E hr h => ?_)
  · obtain ⟨v, d, rfl, _⟩ := h
    rfl
  · obtain ⟨v, d, rfl, hd, h⟩ := h
    refine ⟨_, pss_one (ps_if (pt_not (pt_val (pe_call GB hr rfl TF.gIB TF.FIB.kp TF.bIB .nil pass0 (pa_cons (pv 0) (pa_cons (pe_op op_add (pe_glob (v := .int lastT) rfl el ⟨_, rfl⟩) pe_int) pa_nil)))))
      (pss_one (ps_raise rfl (takes_of rfl rfl rfl rfl) (pmk_own PySem.F.excBase_ValueError EC.x EC.g EC.k (raises_own EC.b EC.t) (by exact rfl)))) pss_nil), ?_⟩
    refine ⟨_, rfl, _, _, rfl, rfl, v, d, lastT + 1, rfl, hd, _, rfl, ?_⟩
    rcases h with ⟨e, k⟩ | ⟨e, k⟩
    · rw [e]; exact iteF (k H (Same.refl H))
    · rw [e]; exact iteT (k H (Same.refl H))
theorem ok_cpX (F : Fun K "check_person" "check_person" sChkPerson fCp fdCp) (TF : TxtF K mg fII fIB fHO fdII fdIB fdHO) (EC : TxtEc K mg "UnknownPerson" CP) : FnOk P w K mg base (L2.CX P w) 3 fCp fdCp ["person", "persons"] (spCpX K CP) := by
  have GB : FnOk P w K mg base CX0 2 fIB fdIB ["value", "limit"] (spIsBelow K) := ok_isbelow TF
  refine F.okX scCp (fun vs H Q E h => ?_) (fun cdv A outer s H vs Q E hr h => ?_)
  · obtain ⟨v, d, n, rfl, _⟩ := h
    rfl
  · obtain ⟨v, d, n, rfl, hd, h⟩ := h
    refine ⟨_, pss_one (ps_if (pt_not (pt_val (pe_call GB hr rfl TF.gIB TF.FIB.kp TF.bIB .nil pass0 (pa_cons (pv 0) (pa_cons (pv 1) pa_nil)))))
      (pss_one (ps_raise rfl (takes_of rfl rfl rfl rfl) (pmk_own PySem.F.excBase_ValueError EC.x EC.g EC.k (raises_own EC.b EC.t) (by exact rfl)))) pss_nil), ?_⟩
    refine ⟨_, rfl, _, rfl, v, d, n, rfl, hd, _, rfl, ?_⟩
    rcases h with ⟨e, k⟩ | ⟨e, k⟩
    · rw [e]; exact iteF (k H (Same.refl H))
    · rw [e]; exact iteT (k H (Same.refl H))
/-- at_home, waiting, holders, hook, is_open -/
theorem ok_askX {x : Str} {st : Stmt} {f : Addr} {fd : FuncData} {p1 p2 p3 p4 : Pos} {rest : List Stmt} (F : Fun K x x st f fd) (sc : FnScope ["house", "tick"] ["house", "tick"] (defScope st)) (hb : defBody st = .Expr (.Call (.Name "check_tick" p1) [.Name "tick" p2] [] p3) p4 :: rest)
    (hg : (defScope st).names.lookup ("check_tick" : Str) = some .globalImplicit) (hv : Vis (defScope st) "tick") (AS : TxtAs K mg fCt fCa fdCt fdCa) (TF : TxtF K mg fII fIB fHO fdII fdIB fdHO) (EC : TxtEc K mg "InvalidTick" CT) :
    FnOk P w K mg base (L2.CX P w) 4 f fd ["house", "tick"] (spAskX K CT) := by
  have GT : FnOk P w K mg base (L2.CX P w) 3 fCt fdCt ["tick"] (spTkX K CT) := ok_tkX AS TF EC
  refine F.okX sc (fun vs H Q E h => ?_) (fun cdv A outer s H vs Q E hr h => ?_)
  · obtain ⟨hv, v, d, rfl, _⟩ := h
    rfl
  · obtain ⟨hv', v, d, rfl, hd, hbl, k⟩ := h
    rw [hb]
    refine ⟨_, pss_cons (ps_expr (pe_call GT hr hg AS.gCt AS.FCt.kp AS.bCt .nil (passes_call (takes_of rfl rfl rfl rfl) (fun _ _ _ _ h => h)) (pa_cons (pe_var (i := 1) rfl hv) pa_nil))) pss_never, ?_⟩
    exact ⟨_, rfl, v, d, rfl, hd, .inr ⟨hbl, k⟩⟩
theorem ok_planX {fPn : Addr} {fdPn : FuncData} (PN : TxtPn K mg fPn fdPn) (TF : TxtF K mg fII fIB fHO fdII fdIB fdHO) (EC : TxtEc K mg "InvalidLimit" CL) : FnOk P w K mg base (L2.CX P w) 3 fPn fdPn ["house", "limit"] (spPlanX K CL) := by
  have GB : FnOk P w K mg base CX0 2 fIB fdIB ["value", "limit"] (spIsBelow K) := ok_isbelow TF
  obtain ⟨tm, em⟩ := PN.mostP
  refine PN.FPn.okX scPlan (fun vs H Q E h => ?_) (fun cdv A outer s H vs Q E hr h => ?_)
  · obtain ⟨hv, v, d, rfl, _⟩ := h
    rfl
  · obtain ⟨hv, v, d, rfl, hd, hbl, k⟩ := h
    refine ⟨_, pss_cons (ps_if (pt_not (pt_val (pe_call GB hr rfl TF.gIB TF.FIB.kp TF.bIB .nil pass0 (pa_cons (pv 1) (pa_cons (pe_op op_add (pe_glob (v := .int 2) (by rfl) em ⟨_, rfl⟩) pe_int) pa_nil)))))
      (pss_one (ps_raise rfl (takes_of rfl rfl rfl rfl) (pmk_own PySem.F.excBase_ValueError EC.x EC.g EC.k (raises_own EC.b EC.t) (by exact rfl)))) pss_nil) pss_never, ?_⟩
    refine ⟨_, rfl, _, _, rfl, rfl, v, d, 3, rfl, hd, _, rfl, ?_⟩
    rw [hbl]
    exact iteT (k H (Same.refl H))
theorem ok_waitX {fSp fWt : Addr} {fdSp fdWt : FuncData} (WT : TxtWt K mg fSp fWt fCp fdSp fdWt fdCp) (TF : TxtF K mg fII fIB fHO fdII fdIB fdHO) (HP : TxtHp K mg CH fCP pPe gPe pPs gPs fdCP fdPe fdPs) (C' : TxtCo K mg CC CH fHL fdHL) (T : TxtA mg) (EC : TxtEc K mg "UnknownPerson" CP) :
    FnOk P w K mg base (L2.CX P w) 4 fWt fdWt ["house", "person"] (spWaitX K CH CP) := by
  have GP : FnOk P w K mg base (L2.CX P w) 3 fCp fdCp ["person", "persons"] (spCpX K CP) := ok_cpX WT.FCp TF EC
  have GPs : FnOk P w K mg base CX0 1 gPs fdPs ["self"] (spPersons K CH) := ok_persons HP C' T
  refine WT.FWt.okX scWaitT (fun vs H Q E h => ?_) (fun cdv A outer s H vs Q E hr h => ?_)
  · obtain ⟨hp, h, v, d, rfl, _⟩ := h
    rfl
  · obtain ⟨hp, h, v, d, rfl, hho, hd, hbl, k⟩ := h
    have hr2 : Room 2 (A.deeper (envOfC (Str.ofString "wait_ticks") (defScope sWaitT) s.heap.objs.size fWt cdv)) := hr.mono (by decide)
    refine ⟨_, pss_cons (ps_expr (pe_call GP hr rfl WT.gCp WT.FCp.kp WT.bCp .nil (passes_call (takes_of rfl rfl rfl rfl) (fun _ _ _ _ h => h)) (pa_cons (pv 1) (pa_cons (pe_prop (pv 0) C'.clH HP.poPs GPs hr2 HP.bPs .nil pass0 rfl) pa_nil)))) pss_never, ?_⟩
    obtain ⟨⟨dx, bT, bC, bR, xs, g1, g2, g3, g4, g5⟩⟩ := id hho
    exact ⟨_, rfl, _, rfl, hp, dx, _, rfl, g1, hp, h, rfl, hho, fun H1 s1 => ⟨v, d, _, rfl, dpSame s1 _ _ hd, .inr ⟨hbl, k.mono s1⟩⟩⟩
theorem ok_nextX {fNe : Addr} {fdNe : FuncData} (NE : TxtNe K mg fNe fCt fCa fCp fdNe fdCt fdCa fdCp) (AS : TxtAs K mg fCt fCa fdCt fdCa) (TF : TxtF K mg fII fIB fHO fdII fdIB fdHO) (HP : TxtHp K mg CH fCP pPe gPe pPs gPs fdCP fdPe fdPs) (C' : TxtCo K mg CC CH fHL fdHL) (T : TxtA mg) (EP : TxtEc K mg "UnknownPerson" CP) (ET : TxtEc K mg "InvalidTick" CT) :
    FnOk P w K mg base (L2.CX P w) 4 fNe fdNe ["house", "person", "tick"] (spNextX K CH CT CP) := by
  have GP : FnOk P w K mg base (L2.CX P w) 3 fCp fdCp ["person", "persons"] (spCpX K CP) := ok_cpX NE.FCp TF EP
  have GT : FnOk P w K mg base (L2.CX P w) 3 fCt fdCt ["tick"] (spTkX K CT) := ok_tkX AS TF ET
  have GPs : FnOk P w K mg base CX0 1 gPs fdPs ["self"] (spPersons K CH) := ok_persons HP C' T
  refine NE.FNe.okX scNextE (fun vs H Q E h => ?_) (fun cdv A outer s H vs Q E hr h => ?_)
  · obtain ⟨hp, h, p, dp, t, dt, rfl, _⟩ := h
    rfl
  · obtain ⟨hp, h, p, dp, t, dt, rfl, hho, hdp, hdt, k⟩ := h
    have hr2 : Room 2 (A.deeper (envOfC (Str.ofString "next_entry") (defScope sNextE) s.heap.objs.size fNe cdv)) := hr.mono (by decide)
    refine ⟨_, pss_cons (ps_expr (pe_call GP hr rfl NE.gCp NE.FCp.kp NE.bCp .nil (passes_call (takes_of rfl rfl rfl rfl) (fun _ _ _ _ h => h)) (pa_cons (pv 1) (pa_cons (pe_prop (pv 0) C'.clH HP.poPs GPs hr2 HP.bPs .nil pass0 rfl) pa_nil))))
      (pss_cons (ps_expr (pe_call GT hr rfl AS.gCt AS.FCt.kp AS.bCt .nil (passes_call (takes_of rfl rfl rfl rfl) (fun _ _ _ _ h => h)) (pa_cons (pv 2) pa_nil))) pss_never), ?_⟩
    obtain ⟨⟨dx, bT, bC, bR, xs, g1, g2, g3, g4, g5⟩⟩ := id hho
    refine ⟨_, rfl, _, rfl, hp, dx, _, rfl, g1, hp, h, rfl, hho, fun H1 s1 => ⟨p, dp, _, rfl, dpSame s1 _ _ hdp, ?_⟩⟩
    rcases k with ⟨e, k⟩ | ⟨e, e2, k⟩
    · exact .inr ⟨e, k.mono s1⟩
    · refine .inl ⟨e, fun H2 s2 => ⟨_, rfl, t, dt, rfl, dpSame (s1.trans s2) _ _ hdt, .inr ⟨by simpa using e2, k.mono (s1.trans s2)⟩⟩⟩
theorem ok_cntwX {fSp fWt fCb fCw : Addr} {fdSp fdWt fdCb fdCw : FuncData} (CW : TxtCw K mg fCb fCw fCt fdCb fdCw fdCt) (WT : TxtWt K mg fSp fWt fCp fdSp fdWt fdCp) (AS : TxtAs K mg fCt fCa fdCt fdCa) (TF : TxtF K mg fII fIB fHO fdII fdIB fdHO) (HP : TxtHp K mg CH fCP pPe gPe pPs gPs fdCP fdPe fdPs) (C' : TxtCo K mg CC CH fHL fdHL) (T : TxtA mg) (EP : TxtEc K mg "UnknownPerson" CP) (ET : TxtEc K mg "InvalidTick" CT) :
    FnOk P w K mg base (L2.CX P w) 4 fCw fdCw ["house", "person", "first", "last"] (spCntWX K CH CT CP) := by
  have GP : FnOk P w K mg base (L2.CX P w) 3 fCp fdCp ["person", "persons"] (spCpX K CP) := ok_cpX WT.FCp TF EP
  have GT : FnOk P w K mg base (L2.CX P w) 3 fCt fdCt ["tick"] (spTkX K CT) := ok_tkX AS TF ET
  have GPs : FnOk P w K mg base CX0 1 gPs fdPs ["self"] (spPersons K CH) := ok_persons HP C' T
  refine CW.FCw.okX scCntW (fun vs H Q E h => ?_) (fun cdv A outer s H vs Q E hr h => ?_)
  · obtain ⟨hp, h, p, dp, a, da, b, db, rfl, _⟩ := h
    rfl
  · obtain ⟨hp, h, p, dp, a, da, b, db, rfl, hho, hdp, hda, hdb, k⟩ := h
    have hr2 : Room 2 (A.deeper (envOfC (Str.ofString "count_waits") (defScope sCntW) s.heap.objs.size fCw cdv)) := hr.mono (by decide)
    refine ⟨_, pss_cons (ps_expr (pe_call GP hr rfl WT.gCp WT.FCp.kp WT.bCp .nil (passes_call (takes_of rfl rfl rfl rfl) (fun _ _ _ _ h => h)) (pa_cons (pv 1) (pa_cons (pe_prop (pv 0) C'.clH HP.poPs GPs hr2 HP.bPs .nil pass0 rfl) pa_nil))))
      (pss_cons (ps_expr (pe_call GT hr rfl CW.gCt CW.FCt.kp CW.bCt .nil (passes_call (takes_of rfl rfl rfl rfl) (fun _ _ _ _ h => h)) (pa_cons (pv 2) pa_nil)))
      (pss_cons (ps_expr (pe_call GT hr rfl CW.gCt CW.FCt.kp CW.bCt .nil (passes_call (takes_of rfl rfl rfl rfl) (fun _ _ _ _ h => h)) (pa_cons (pv 3) pa_nil))) pss_never)), ?_⟩
    obtain ⟨⟨dx, bT, bC, bR, xs, g1, g2, g3, g4, g5⟩⟩ := id hho
    refine ⟨_, rfl, _, rfl, hp, dx, _, rfl, g1, hp, h, rfl, hho, fun H1 s1 => ⟨p, dp, _, rfl, dpSame s1 _ _ hdp, ?_⟩⟩
    rcases k with ⟨e, k⟩ | ⟨e, e2, k⟩
    · exact .inr ⟨e, k.mono s1⟩
    · refine .inl ⟨e, fun H2 s2 => ⟨_, rfl, a, da, rfl, dpSame (s1.trans s2) _ _ hda, ?_⟩⟩
      have s12 := s1.trans s2
      cases ea : below da (lastT + 1) with
      | false => exact .inr ⟨rfl, k.mono s12⟩
      | true =>
        refine .inl ⟨rfl, fun H3 s3 => ⟨_, rfl, b, db, rfl, dpSame (s12.trans s3) _ _ hdb, .inr ⟨?_, k.mono (s12.trans s3)⟩⟩⟩
        simpa [ea] using e2
theorem gok_evX {f : Addr} {fd : FuncData} (F : Fun K "events_between" "events_between" sEvents f fd) (AS : TxtAs K mg fCt fCa fdCt fdCa) (TF : TxtF K mg fII fIB fHO fdII fdIB fdHO) (ET : TxtEc K mg "InvalidTick" CT) :
    GFn P w K mg base 5 f fd ["house", "first", "last"] (spEvX K CT) := by
  have GT : FnOk P w K mg base (L2.CX P w) 3 fCt fdCt ["tick"] (spTkX K CT) := ok_tkX AS TF ET
  obtain ⟨oc, od, kV, doc, pm, an, cdv, ct, osl, rfl, lk, hcd⟩ := F.ex
  refine gfn_of (k := 4) lk hcd scEv (fun vs H Q E h => ?_) (fun A outer s H vs Q E pn hr h => ?_)
  · obtain ⟨hv, a, da, b, db, rfl, _⟩ := h
    rfl
  · obtain ⟨hv, a, da, b, db, rfl, hda, hdb, hor, k⟩ := h
    have hr3 : Room 3 (A.deeper (envOfC (Str.ofString "events_between") (defScope sEvents) s.heap.objs.size f cdv)) := hr.mono (by decide)
    refine ⟨_, gss_cons (gs_ps (ps_expr (pe_call GT hr3 rfl AS.gCt AS.FCt.kp AS.bCt .nil (passes_call takes_gcx (fun _ _ _ _ h => h)) (pa_cons (pv 1) pa_nil))))
      (gss_cons (gs_ps (ps_expr (pe_call GT hr3 rfl AS.gCt AS.FCt.kp AS.bCt .nil (passes_call takes_gcx (fun _ _ _ _ h => h)) (pa_cons (pv 2) pa_nil)))) (gss_pss pss_never)), ?_⟩
    refine ⟨_, rfl, a, da, rfl, hda, ?_⟩
    cases ea : below da (lastT + 1) with
    | false => exact .inr ⟨rfl, k⟩
    | true =>
      refine .inl ⟨rfl, fun H1 s1 => ⟨_, rfl, b, db, rfl, dpSame s1 _ _ hdb, .inr ⟨?_, k.mono s1⟩⟩⟩
      rcases hor with z | z
      · rw [ea] at z; cases z
      · exact z
end
end Dk

set_option Elab.async false
set_option linter.all false
set_option maxRecDepth 100000
set_option maxHeartbeats 1000000
namespace Dk
open PySem PySem.Spec PyProof.Rows L2 TL
/-! ### houses behind a lambda's making, behind a change of a list -/
theorem rd_ext {H H' : Hp} {a : Addr} {u : HO} (e : LamX.ExtN H H') (hu : ∀ ps, u ≠ .tbl ps) (h : Rd H a u) : Rd H' a u := by
  rcases h with h | ⟨o, h⟩
  · exact .inl (e _ _ h hu)
  · exact .inr ⟨o, e _ _ h fun ps z => by cases z⟩
theorem sqt_ext {K : PySem.W.Frag} {H H' : Hp} {a : Addr} {xs : List V} (e : LamX.ExtN H H') (h : SqT K H a xs) : SqT K H' a xs := by
  rcases h with h | h
  · exact .inl (rd_ext e (fun ps z => by cases z) h)
  · exact .inr h
theorem ho_ext {K : PySem.W.Frag} {CH : Addr} {H H' : Hp} {hp : Addr} {h : Hd} (e : LamX.ExtN H H') (x : HoAt K CH H hp h) : HoAt K CH H' hp h := by
  obtain ⟨⟨d, bT, bC, bR, xs, g1, g2, g3, g4, g5⟩⟩ := x
  exact ⟨⟨d, bT, bC, bR, xs, e _ _ g1 (fun ps z => by cases z), sqt_ext e g2, sqt_ext e g3, sqt_ext e g4, g5.mono fun t zs z => e _ _ z (fun ps z => by cases z)⟩⟩
theorem rd_kp {lr : Addr} {H H' : Hp} {ys : List V} {a : Addr} {u : HO} (k : Kp lr H H') (e : H lr = some (.lst ys)) (hu : ∀ zs, u ≠ .lst zs) (h : Rd H a u) : Rd H' a u := by
  rcases h with h | ⟨o, h⟩
  · exact .inl (k _ _ (fun z => by rw [z, e] at h; cases h; exact hu _ rfl) h)
  · exact .inr ⟨o, k _ _ (fun z => by rw [z, e] at h; cases h) h⟩
theorem sqt_kp {K : PySem.W.Frag} {lr : Addr} {H H' : Hp} {ys : List V} {a : Addr} {xs : List V} (k : Kp lr H H') (e : H lr = some (.lst ys)) (h : SqT K H a xs) : SqT K H' a xs := by
  rcases h with h | h
  · exact .inl (rd_kp k e (fun zs z => by cases z) h)
  · exact .inr h
theorem ho_kp {K : PySem.W.Frag} {CH lr : Addr} {H H' : Hp} {ys : List V} {hp : Addr} {h : Hd} (k : Kp lr H H') (e : H lr = some (.lst ys)) (x : HoAt K CH H hp h) : HoAt K CH H' hp h := by
  obtain ⟨⟨d, bT, bC, bR, xs, g1, g2, g3, g4, g5⟩⟩ := x
  exact ⟨⟨d, bT, bC, bR, xs, k _ _ (fun z => by rw [z, e] at g1; cases g1) g1, sqt_kp k e g2, sqt_kp k e g3, sqt_kp k e g4, g5.mono fun t zs z => k _ _ (fun q => by rw [q, e] at z; cases z) z⟩⟩
end Dk

set_option Elab.async false
set_option linter.all false
set_option maxRecDepth 100000
set_option maxHeartbeats 2000000
namespace Dk
open PySem PySem.Spec PyProof.Rows L2 TL LamX
theorem same_stp {cm : Addr → Option Obj} {H H' : Hp} (free : ∀ b o, cm b = some o → H b = none) (s : Same (addK cm H) H') : Same H (stp cm H') := fun b o e => by
  have n : cm b = none := by
    cases q : cm b with
    | none => rfl
    | some w => rw [free b w q] at e; cases e
  exact (stp_none n).trans (s b o ((addK_none n).trans e))
theorem cmAt_same {cm : Addr → Option Obj} {H H' : Hp} (s : Same (addK cm H) H') : CmAt cm H' := fun b o e => s _ _ (addK_some e)
theorem same_back {cm : Addr → Option Obj} {H' H3 : Hp} (c : CmAt cm H') (s : Same (stp cm H') H3) : Same H' (addK cm H3) := fun b o e => by
  cases q : cm b with
  | none => exact (addK_none q).trans (s b o ((stp_none q).trans e))
  | some w =>
    rw [c b w q] at e
    rw [addK_some q]; exact e
theorem same_add {cm : Addr → Option Obj} {H : Hp} (free : ∀ b o, cm b = some o → H b = none) : Same H (addK cm H) := fun b o e => by
  cases q : cm b with
  | none => exact (addK_none q).trans e
  | some w => rw [free b w q] at e; cases e
/-- an error without fields, told -/
def errD (j : Nat) : PyData := .tuple [.str (errAt j), .int 0]
theorem err8 {j : Nat} (h : j < 8) : PyData.canLay0 (errD j) = true := by
  have : j = 0 ∨ j = 1 ∨ j = 2 ∨ j = 3 ∨ j = 4 ∨ j = 5 ∨ j = 6 ∨ j = 7 := by omega
  rcases this with rfl | rfl | rfl | rfl | rfl | rfl | rfl | rfl <;> (show ((PySem.PyData.strOk _ && (true && true)) = true); decide +kernel)
theorem err8_shp {j : Nat} (h : j < 8) : SeqAt.shaped (errD j) = true := by
  unfold SeqAt.shaped
  rw [err8 h]; rfl
theorem errD_dp {K : PySem.W.Frag} {H : Hp} {j : Nat} {p : Addr} (h : H p = some (.tup [.str (errAt j), .int 0])) : Dp K H (.ref p) (errD j) := .tup (SqT.of h) (.cons (.str _) (.cons (.int _) .nil))
/-- told, that lambda L's error is of kind j -/
theorem told_lam {X : Cx} {k j : Nat} {L : LamW} {t : XK → TE} {f : Addr} {cm : Addr → Option Obj} {σ : L2.St} {H1 : Hp} {cs : Nat → Addr} {J : List Nat} (B : Cbl X.prog X.w X.K X.mg X.base k f (tlL X L f cm σ t)) (hM : MadeL X.env.cells (X.env.qual ++ "<lambda>") L f H1) (free : ∀ b o, cm b = some o → H1 b = none) (hj : j ∈ J) (hj8 : j < 8)
    (ht : ∀ (E : XK) (H2 : Hp) (Q2 : VK), Same H1 H2 → (∀ H3, Same H2 H3 → E (.ref (cs j)) none H3) → t E σ H2 Q2) : Told X.prog X.w X.K X.mg X.base cs J k (errD j) (addK cm H1) f := by
  have sA := same_add free
  obtain ⟨dV, doc, pm, ctv, c', h1, h2, h3⟩ := id hM
  refine ⟨c', _, _, B, sA _ _ h2, fun H' Q' s k => ?_⟩
  have cA := cmAt_same s
  refine ⟨hM.mono (extN_same (sA.trans s)), cA, ht _ _ _ (same_stp free s) fun H3 s3 => ?_⟩
  exact ⟨j, hj, rfl, .inl ⟨hj8, rfl, fun H4 p s4 ep => k _ H4 ((same_back cA s3).trans s4) (errD_dp ep)⟩⟩
/-- all lambdas' errors are of kind j -/
theorem callC_all {X : Cx} {σ : L2.St} {Q : VK} {H1 : Hp} {L p : Addr} {fs : List Addr} {j k : Nat} {cs : Nat → Addr} {J : List Nat} (hj : j ∈ J) (hj8 : j < 8) (hL : H1 L = some (.lst (fs.map V.ref))) (hz : fs.length ≤ 1000) (hp : H1 p = some (.tup [.str (errAt j), .int 0]))
    (hf : ∀ f ∈ fs, ∃ LW ps t, LamK X k LW ps t ∧ MadeL X.env.cells (X.env.qual ++ "<lambda>") LW f H1 ∧ ∀ (E : XK) (H2 : Hp) (Q2 : VK), Same H1 H2 → (∀ H3, Same H2 H3 → E (.ref (cs j)) none H3) → t E σ H2 Q2)
    (k' : ∀ H2, Same H1 H2 → Q (.bl true) H2) :
    ∀ cm : Addr → Option Obj, (∀ b o, cm b = some o → H1 b = none) → (∀ k L ps tt, LamK X k L ps tt → ∀ f, Cbl X.prog X.w X.K X.mg X.base k f (tlL X L f cm σ tt)) → spAllR X.prog X.w X.K X.mg X.base cs J k [.ref L, .ref p] (addK cm H1) (fun v H3 => CmAt cm H3 ∧ Q v (stp cm H3)) E0 := by
  intro cm free hC
  have sA := same_add free
  refine ⟨L, p, fs, errD j, rfl, sA _ _ hL, hz, errD_dp (sA _ _ hp), err8_shp hj8, PySem.SeqAt.eqv_refl _ (err8 hj8), fun f hfm => ?_, fun H' s => ⟨cmAt_same s, k' _ (same_stp free s)⟩⟩
  obtain ⟨LW, ps, t, LK, hM, ht⟩ := hf f hfm
  exact told_lam (hC _ _ _ _ LK f) hM free hj hj8 ht
/-- _law_all_raise(calls, (word, 0)) -/
theorem all_raise {X : Cx} {σ : L2.St} {Q : VK} {H : Hp} {L : Addr} {fs : List Addr} {i j k : Nat} {cs : Nat → Addr} {J : List Nat} {x : Str} (hj : j ∈ J) (hj8 : j < 8) (hx : x = errAt j) (hσ : σ[i]? = some (some (.ref L))) (hL : H L = some (.lst (fs.map V.ref))) (hz : fs.length ≤ 1000)
    (hf : ∀ f ∈ fs, ∃ LW ps t, LamK X k LW ps t ∧ MadeL X.env.cells (X.env.qual ++ "<lambda>") LW f H ∧ ∀ (E : XK) (H2 : Hp) (Q2 : VK), Same H H2 → (∀ H3, Same H2 H3 → E (.ref (cs j)) none H3) → t E σ H2 Q2)
    (k' : ∀ H2, Same H H2 → Q (.bl true) H2) :
    tCallC X (spAllR X.prog X.w X.K X.mg X.base cs J k) (tCons (tVar i) (tCons (tTup (tCons (tC (.str x)) (tCons (tC (.int 0)) tNil))) tNil)) σ H Q := by
  refine ⟨_, hσ, by show 2 ≤ sizeLine; decide, fun p hp => ?_⟩
  have s := same_upd (o := .tup [.str x, .int 0]) hp
  refine fun cm free hC => callC_all hj hj8 (s _ _ hL) hz (by subst hx; exact upd_same) (fun f hfm => ?_) (fun H2 s2 => k' H2 (s.trans s2)) cm free hC
  obtain ⟨LW, ps, t, a, b, c⟩ := hf f hfm
  exact ⟨LW, ps, t, a, b.mono (extN_same s), fun E H2 Q2 s2 => c E H2 Q2 (s.trans s2)⟩
/-! ### defs that raise, by their names -/
structure CalX (P : Program) (w : World) (K : PySem.W.Frag) (mg : Str → Option Value) (base : Heap) (k : Nat) (x : Str) (ps : List Str) (sp : Sp) : Prop where
  ex : ∃ f fd, mg x = some (.ref f) ∧ PySem.W.keepIn K (.ref f) = true ∧ Binds K fd ps [] ∧ FnOk P w K mg base (L2.CX P w) k f fd ps sp
section
variable {X : Cx} {k : Nat} {x : Str} {ps : List Str} {E : XK} {p pos : Pos} {e : Expr} {es : List Expr} {t : TA}
theorem pe_calX {sp : Sp} (c : CalX X.prog X.w X.K X.mg X.base k x ps sp) (tk : Takes X (fun cls d _ H => E cls d H)) (hr : Room k X.A) (hg : Gl X x) (ha : PA X (e :: es) t) (hdb : (x == ("__debug__" : Str)) = false := by decide) (he : starEach (e :: es) X.env = (false, eval e X.env) :: starEach es X.env := by rfl) (hpl : (backTo pos (starEach es X.env)).any (·.1) = false := by rfl) :
    PE X (.Call (.Name x p) (e :: es) [] pos) (tCall sp [] E t) := by
  obtain ⟨f, fd, g, kp, b, F⟩ := c.ex
  exact pe_call F hr hg g kp b .nil (passes_call tk (fun _ _ _ _ h => h)) ha hdb he hpl
/-- list(x(..)), x a generator def that may raise the class at C -/
theorem pe_listX {sp : SpG} {C : Addr} {p2 pos2 : Pos} (c : GCal X.prog X.w X.K X.mg X.base k x ps sp) (tk : Takes X (fun cls d _ H => E cls d H)) (ns : PySem.W.subIn X.K (.ref C) (.type "StopIteration") = some false) (hr : Room (k + 3) X.A) (hg : Gl X x) (ha : PA X (e :: es) t) (gl : Gl X "list") (ml : X.mg "list" = none) (hdb : (x == ("__debug__" : Str)) = false := by decide) (he : starEach (e :: es) X.env = (false, eval e X.env) :: starEach es X.env := by rfl) (hpl : (backTo pos (starEach es X.env)).any (·.1) = false := by rfl)
    (he2 : starEach [.Call (.Name x p) (e :: es) [] pos] X.env = (false, eval (.Call (.Name x p) (e :: es) [] pos) X.env) :: starEach [] X.env := by rfl) :
    PE X (.Call (.Name "list" p2) [.Call (.Name x p) (e :: es) [] pos] [] pos2) (tListG (tCallG sp [] (fun cls d H => cls = .ref C ∧ E cls d H) t)) := by
  obtain ⟨f, fd, g, kp, b, F⟩ := c.ex
  refine pe_listG (E := fun cls d H => cls = .ref C ∧ E cls d H) (pgen_call F (hr.mono (by omega)) hg g kp b .nil ha hdb he hpl) (passes_call tk (fun _ _ _ _ h => h.2)) (fun cls d H h => by rw [h.1]; exact ns) hr gl ml (by decide +kernel) (by decide) (by decide) he2
end
end Dk

set_option Elab.async false
set_option linter.all false
set_option maxRecDepth 100000
set_option maxHeartbeats 4000000
namespace Dk
open PySem PySem.Spec PyProof.Rows L2 TL LamX
/-! ### the law -/
abbrev lamQ : Str := (envOfC (Str.ofString "law") (defScope sLaw) 0 0 .none).qual ++ Str.ofString "<lambda>"
def spLaw (K : PySem.W.Frag) (Pt : Addr) : Sp := fun vs H Q _ => ∃ (a : Addr) (ns : List Int), vs = [.ref a] ∧ SqL K H a (ns.map V.int) ∧ ns.length ≤ 63 ∧ LamX.Tabs [(Pt, lamQ)] H ∧ ∀ H', Q (.bl true) H'
abbrev nLaw : List Str := ["_law_script", "_law_d", "_law_house_here", "_law_far", "_law_tick", "_law_calls", "_law_person", "_law_limit"]
theorem scLaw : FnScope nLaw ["_law_script"] (defScope sLaw) := ⟨rfl, rfl, rfl, by decide +kernel, rfl, by decide +kernel, by decide +kernel⟩
/-- the lambdas in a statement -/
def lamsIn : List Stmt → List Expr
  | .Assign _ (.List es _) _ :: _ => es
  | .Assign _ (.BinOp _ _ (.List es _) _) _ :: _ => es
  | .Expr (.Call _ es _ _) _ :: _ => es
  | _ => []
def lamW : List Expr → List V → LamW
  | .Lambda p b s _ :: _, d => ⟨p, b, s, d⟩
  | _, d => ⟨defArgs sLaw, .Constant .none 0 ⟨0, 0, 0, 0⟩, defScope sLaw, d⟩
abbrev lw (i j : Nat) (d : List V) : LamW := lamW ((lamsIn ((defBody sLaw).drop i)).drop j) d
theorem ls0 : LamS1 nLaw (defScope sLaw) (lw 4 0 []).scope [] := lamS1_by (by decide +kernel)
theorem ls1 : LamS1 nLaw (defScope sLaw) (lw 4 1 [.int 0]).scope ["_law_a"] := lamS1_by (by decide +kernel)
theorem lb0 : LamB (lw 4 0 []) [] := .inl ⟨rfl, rfl, fun _ _ _ _ _ _ => rfl⟩
theorem lb1 : LamB (lw 4 1 [.int 0]) ["_law_a"] := .inr ⟨_, _, rfl, rfl, fun _ _ _ _ _ _ _ _ => ⟨_, rfl, rfl⟩⟩
end Dk

set_option Elab.async false
set_option linter.all false
set_option maxRecDepth 100000
set_option maxHeartbeats 4000000
namespace Dk
open PySem PySem.Spec PyProof.Rows L2 TL
structure Use (P : Program) (w : World) (K : PySem.W.Frag) (mg : Str → Option Value) (base : Heap) (CH CT CP CL fE cL Pt CE fA pPs gPs : Addr) (fdE fdA fdPs : FuncData) (cs : Nat → Addr) : Prop where
  T : TxtA mg
  cRa : Cal P w K mg base 1 "_law_random" ["_law_script", "_law_salt"] (spRandom K)
  cB : Cal P w K mg base 1 "_law_below" ["_law_d", "_law_limit"] spBelow
  cPa : Cal P w K mg base 3 "_law_parts" ["_law_d", "_law_most"] spParts
  cHo : Cal P w K mg base 7 "_law_house" ["_law_parts_here"] (spHouseF K CH)
  vW : Cal P w K mg base 12 "waiting" ["house", "tick"] (spAsk K CH ansWait)
  vC : Cal P w K mg base 14 "count_waits" ["house", "person", "first", "last"] (spCntW K CH)
  xH : CalX P w K mg base 4 "at_home" ["house", "tick"] (spAskX K CT)
  xW : CalX P w K mg base 4 "waiting" ["house", "tick"] (spAskX K CT)
  xHo : CalX P w K mg base 4 "holders" ["house", "tick"] (spAskX K CT)
  xHk : CalX P w K mg base 4 "hook" ["house", "tick"] (spAskX K CT)
  xO : CalX P w K mg base 4 "is_open" ["house", "tick"] (spAskX K CT)
  xN : CalX P w K mg base 4 "next_entry" ["house", "person", "tick"] (spNextX K CH CT CP)
  xC : CalX P w K mg base 4 "count_waits" ["house", "person", "first", "last"] (spCntWX K CH CT CP)
  xWt : CalX P w K mg base 4 "wait_ticks" ["house", "person"] (spWaitX K CH CP)
  xP : CalX P w K mg base 3 "plan_reminders" ["house", "limit"] (spPlanX K CL)
  gEv : GCal P w K mg base 5 "events_between" ["house", "first", "last"] (spEvX K CT)
  noS : PySem.W.subIn K (.ref CT) (.type "StopIteration") = some false
  list : mg "list" = none
  isi : mg "isinstance" = none
  tuple : mg "tuple" = none
  N : TxtN mg cs CE
  EK : ErK K cs CE [0, 1, 2]
  eCT : cs 0 = CT
  eCP : cs 1 = CP
  eCL : cs 2 = CL
  gE : mg "_law_error_of" = some (.ref fE)
  FE : Fun K "_law_error_of" "_law_error_of" sErrOf fE fdE
  bE : Binds K fdE ["_law_call"] []
  gA : mg "_law_all_raise" = some (.ref fA)
  FA : Fun K "_law_all_raise" "_law_all_raise" sAllRaise fA fdA
  bA : Binds K fdA ["_law_calls", "_law_expected"] []
  TB : LamX.TabB base mg cL Pt
  clH : Cls K CH
  poPs : PropOf K CH "persons" pPs gPs
  GPs : FnOk P w K mg base CX0 1 gPs fdPs ["self"] (spPersons K CH)
  bPs : Binds K fdPs ["self"] []
abbrev lawX (P : Program) (w : World) (K : PySem.W.Frag) (mg : Str → Option Value) (base : Heap) (f cL : Addr) (A : Around) (outer : List Env) (s : Shared) (H0 : Hp) (E : XK) : Cx := (cxOf CX0 P w K mg base nLaw "law" (defScope sLaw) f (.ref cL) A outer s H0 E).nox
section
variable {P : Program} {w : World} {K : PySem.W.Frag} {mg : Str → Option Value} {base : Heap} {CH CT CP CL fE cL Pt CE fA pPs gPs : Addr} {fdE fdA fdPs : FuncData} {cs : Nat → Addr}
theorem ok_all (U : Use P w K mg base CH CT CP CL fE cL Pt CE fA pPs gPs fdE fdA fdPs cs) : FnOk P w K mg base CX0 11 fA fdA ["_law_calls", "_law_expected"] (spAllR P w K mg base cs [0, 1, 2] 8) :=
  ok_allR U.FA ⟨_, _, U.gE, U.FE.kp, U.bE, ok_errV U.N U.EK U.FE⟩
abbrev lt0 (K : PySem.W.Frag) (CH CT CP : Addr) : XK → TE := fun E => tCall (spAskX K CT) [] E (tCons (tVar 2) (tCons (tVar 4) tNil))
theorem lk0 (U : Use P w K mg base CH CT CP CL fE cL Pt CE fA pPs gPs fdE fdA fdPs cs) {f : Addr} {A : Around} {outer : List Env} {s : Shared} {H0 : Hp} {E : XK} : LamK (lawX P w K mg base f cL A outer s H0 E) 8 (lw 4 0 []) [] (lt0 K CH CT CP) :=
  ⟨lamS1_by (N := nLaw) (sc := defScope sLaw) (by decide +kernel), .inl ⟨rfl, rfl, fun _ _ _ _ _ _ => rfl⟩, fun A outer s H E f c' hr => by
    exact pe_calX U.xH (takes_of rfl rfl rfl rfl) (Room.mono hr (show 4 ≤ 8 by decide)) (by rfl) (pa_cons (pv 2) (pa_cons (pv 4) pa_nil))⟩
abbrev lt1 (K : PySem.W.Frag) (CH CT CP : Addr) : XK → TE := fun E => tCall (spAskX K CT) [] E (tCons (tVar 2) (tCons (tVar 4) tNil))
theorem lk1 (U : Use P w K mg base CH CT CP CL fE cL Pt CE fA pPs gPs fdE fdA fdPs cs) {f : Addr} {A : Around} {outer : List Env} {s : Shared} {H0 : Hp} {E : XK} : LamK (lawX P w K mg base f cL A outer s H0 E) 8 (lw 4 1 [.int 0]) ["_law_a"] (lt1 K CH CT CP) :=
  ⟨lamS1_by (N := nLaw) (sc := defScope sLaw) (by decide +kernel), .inr ⟨_, _, rfl, rfl, fun _ _ _ _ _ _ _ _ => ⟨_, rfl, rfl⟩⟩, fun A outer s H E f c' hr => by
    exact pe_calX U.xW (takes_of rfl rfl rfl rfl) (Room.mono hr (show 4 ≤ 8 by decide)) (by rfl) (pa_cons (pv 2) (pa_cons (pv 4) pa_nil))⟩
abbrev lt2 (K : PySem.W.Frag) (CH CT CP : Addr) : XK → TE := fun E => tCall (spAskX K CT) [] E (tCons (tVar 2) (tCons (tVar 4) tNil))
theorem lk2 (U : Use P w K mg base CH CT CP CL fE cL Pt CE fA pPs gPs fdE fdA fdPs cs) {f : Addr} {A : Around} {outer : List Env} {s : Shared} {H0 : Hp} {E : XK} : LamK (lawX P w K mg base f cL A outer s H0 E) 8 (lw 4 2 [.int 0]) ["_law_b"] (lt2 K CH CT CP) :=
  ⟨lamS1_by (N := nLaw) (sc := defScope sLaw) (by decide +kernel), .inr ⟨_, _, rfl, rfl, fun _ _ _ _ _ _ _ _ => ⟨_, rfl, rfl⟩⟩, fun A outer s H E f c' hr => by
    exact pe_calX U.xHo (takes_of rfl rfl rfl rfl) (Room.mono hr (show 4 ≤ 8 by decide)) (by rfl) (pa_cons (pv 2) (pa_cons (pv 4) pa_nil))⟩
abbrev lt3 (K : PySem.W.Frag) (CH CT CP : Addr) : XK → TE := fun E => tCall (spAskX K CT) [] E (tCons (tVar 2) (tCons (tVar 4) tNil))
theorem lk3 (U : Use P w K mg base CH CT CP CL fE cL Pt CE fA pPs gPs fdE fdA fdPs cs) {f : Addr} {A : Around} {outer : List Env} {s : Shared} {H0 : Hp} {E : XK} : LamK (lawX P w K mg base f cL A outer s H0 E) 8 (lw 5 0 [.int 0]) ["_law_c"] (lt3 K CH CT CP) :=
  ⟨lamS1_by (N := nLaw) (sc := defScope sLaw) (by decide +kernel), .inr ⟨_, _, rfl, rfl, fun _ _ _ _ _ _ _ _ => ⟨_, rfl, rfl⟩⟩, fun A outer s H E f c' hr => by
    exact pe_calX U.xHk (takes_of rfl rfl rfl rfl) (Room.mono hr (show 4 ≤ 8 by decide)) (by rfl) (pa_cons (pv 2) (pa_cons (pv 4) pa_nil))⟩
abbrev lt4 (K : PySem.W.Frag) (CH CT CP : Addr) : XK → TE := fun E => tCall (spAskX K CT) [] E (tCons (tVar 2) (tCons (tVar 4) tNil))
theorem lk4 (U : Use P w K mg base CH CT CP CL fE cL Pt CE fA pPs gPs fdE fdA fdPs cs) {f : Addr} {A : Around} {outer : List Env} {s : Shared} {H0 : Hp} {E : XK} : LamK (lawX P w K mg base f cL A outer s H0 E) 8 (lw 5 1 [.int 0]) ["_law_e"] (lt4 K CH CT CP) :=
  ⟨lamS1_by (N := nLaw) (sc := defScope sLaw) (by decide +kernel), .inr ⟨_, _, rfl, rfl, fun _ _ _ _ _ _ _ _ => ⟨_, rfl, rfl⟩⟩, fun A outer s H E f c' hr => by
    exact pe_calX U.xO (takes_of rfl rfl rfl rfl) (Room.mono hr (show 4 ≤ 8 by decide)) (by rfl) (pa_cons (pv 2) (pa_cons (pv 4) pa_nil))⟩
abbrev lt5 (K : PySem.W.Frag) (CH CT CP : Addr) : XK → TE := fun E => tListG (tCallG (spEvX K CT) [] (fun cls d H => cls = .ref CT ∧ E cls d H) (tCons (tVar 2) (tCons (tVar 4) (tCons (tC .non) tNil))))
theorem lk5 (U : Use P w K mg base CH CT CP CL fE cL Pt CE fA pPs gPs fdE fdA fdPs cs) {f : Addr} {A : Around} {outer : List Env} {s : Shared} {H0 : Hp} {E : XK} : LamK (lawX P w K mg base f cL A outer s H0 E) 8 (lw 6 0 [.int 0]) ["_law_f"] (lt5 K CH CT CP) :=
  ⟨lamS1_by (N := nLaw) (sc := defScope sLaw) (by decide +kernel), .inr ⟨_, _, rfl, rfl, fun _ _ _ _ _ _ _ _ => ⟨_, rfl, rfl⟩⟩, fun A outer s H E f c' hr => by
    exact pe_listX U.gEv (takes_of rfl rfl rfl rfl) U.noS (Room.mono hr (show 8 ≤ 8 by decide)) (by rfl) (pa_cons (pv 2) (pa_cons (pv 4) (pa_cons pe_non pa_nil))) (by rfl) U.list⟩
abbrev lt6 (K : PySem.W.Frag) (CH CT CP : Addr) : XK → TE := fun E => tCall (spNextX K CH CT CP) [] E (tCons (tVar 2) (tCons (tC (.int 0)) (tCons (tVar 4) tNil)))
theorem lk6 (U : Use P w K mg base CH CT CP CL fE cL Pt CE fA pPs gPs fdE fdA fdPs cs) {f : Addr} {A : Around} {outer : List Env} {s : Shared} {H0 : Hp} {E : XK} : LamK (lawX P w K mg base f cL A outer s H0 E) 8 (lw 6 1 [.int 0]) ["_law_g"] (lt6 K CH CT CP) :=
  ⟨lamS1_by (N := nLaw) (sc := defScope sLaw) (by decide +kernel), .inr ⟨_, _, rfl, rfl, fun _ _ _ _ _ _ _ _ => ⟨_, rfl, rfl⟩⟩, fun A outer s H E f c' hr => by
    exact pe_calX U.xN (takes_of rfl rfl rfl rfl) (Room.mono hr (show 4 ≤ 8 by decide)) (by rfl) (pa_cons (pv 2) (pa_cons pe_int (pa_cons (pv 4) pa_nil)))⟩
abbrev lt7 (K : PySem.W.Frag) (CH CT CP : Addr) : XK → TE := fun E => tListG (tCallG (spEvX K CT) [] (fun cls d H => cls = .ref CT ∧ E cls d H) (tCons (tVar 2) (tCons (tVar 3) (tCons (tVar 4) tNil))))
theorem lk7 (U : Use P w K mg base CH CT CP CL fE cL Pt CE fA pPs gPs fdE fdA fdPs cs) {f : Addr} {A : Around} {outer : List Env} {s : Shared} {H0 : Hp} {E : XK} : LamK (lawX P w K mg base f cL A outer s H0 E) 8 (lw 7 0 [.int 0]) ["_law_h"] (lt7 K CH CT CP) :=
  ⟨lamS1_by (N := nLaw) (sc := defScope sLaw) (by decide +kernel), .inr ⟨_, _, rfl, rfl, fun _ _ _ _ _ _ _ _ => ⟨_, rfl, rfl⟩⟩, fun A outer s H E f c' hr => by
    exact pe_listX U.gEv (takes_of rfl rfl rfl rfl) U.noS (Room.mono hr (show 8 ≤ 8 by decide)) (by rfl) (pa_cons (pv 2) (pa_cons (pv 3) (pa_cons (pv 4) pa_nil))) (by rfl) U.list⟩
abbrev lt8 (K : PySem.W.Frag) (CH CT CP : Addr) : XK → TE := fun E => tCall (spCntWX K CH CT CP) [] E (tCons (tVar 2) (tCons (tC (.int 0)) (tCons (tVar 4) (tCons (tC .non) tNil))))
theorem lk8 (U : Use P w K mg base CH CT CP CL fE cL Pt CE fA pPs gPs fdE fdA fdPs cs) {f : Addr} {A : Around} {outer : List Env} {s : Shared} {H0 : Hp} {E : XK} : LamK (lawX P w K mg base f cL A outer s H0 E) 8 (lw 7 1 [.int 0]) ["_law_i"] (lt8 K CH CT CP) :=
  ⟨lamS1_by (N := nLaw) (sc := defScope sLaw) (by decide +kernel), .inr ⟨_, _, rfl, rfl, fun _ _ _ _ _ _ _ _ => ⟨_, rfl, rfl⟩⟩, fun A outer s H E f c' hr => by
    exact pe_calX U.xC (takes_of rfl rfl rfl rfl) (Room.mono hr (show 4 ≤ 8 by decide)) (by rfl) (pa_cons (pv 2) (pa_cons pe_int (pa_cons (pv 4) (pa_cons pe_non pa_nil))))⟩
abbrev lt9 (K : PySem.W.Frag) (CH CT CP : Addr) : XK → TE := fun E => tCall (spCntWX K CH CT CP) [] E (tCons (tVar 2) (tCons (tC (.int 0)) (tCons (tVar 3) (tCons (tVar 4) tNil))))
theorem lk9 (U : Use P w K mg base CH CT CP CL fE cL Pt CE fA pPs gPs fdE fdA fdPs cs) {f : Addr} {A : Around} {outer : List Env} {s : Shared} {H0 : Hp} {E : XK} : LamK (lawX P w K mg base f cL A outer s H0 E) 8 (lw 8 0 [.int 0]) ["_law_j"] (lt9 K CH CT CP) :=
  ⟨lamS1_by (N := nLaw) (sc := defScope sLaw) (by decide +kernel), .inr ⟨_, _, rfl, rfl, fun _ _ _ _ _ _ _ _ => ⟨_, rfl, rfl⟩⟩, fun A outer s H E f c' hr => by
    exact pe_calX U.xC (takes_of rfl rfl rfl rfl) (Room.mono hr (show 4 ≤ 8 by decide)) (by rfl) (pa_cons (pv 2) (pa_cons pe_int (pa_cons (pv 3) (pa_cons (pv 4) pa_nil))))⟩
abbrev lt10 (K : PySem.W.Frag) (CH CT CP : Addr) : XK → TE := fun E => tCall (spWaitX K CH CP) [] E (tCons (tVar 2) (tCons (tVar 6) tNil))
theorem lk10 (U : Use P w K mg base CH CT CP CL fE cL Pt CE fA pPs gPs fdE fdA fdPs cs) {f : Addr} {A : Around} {outer : List Env} {s : Shared} {H0 : Hp} {E : XK} : LamK (lawX P w K mg base f cL A outer s H0 E) 8 (lw 11 0 []) [] (lt10 K CH CT CP) :=
  ⟨lamS1_by (N := nLaw) (sc := defScope sLaw) (by decide +kernel), .inl ⟨rfl, rfl, fun _ _ _ _ _ _ => rfl⟩, fun A outer s H E f c' hr => by
    exact pe_calX U.xWt (takes_of rfl rfl rfl rfl) (Room.mono hr (show 4 ≤ 8 by decide)) (by rfl) (pa_cons (pv 2) (pa_cons (pv 6) pa_nil))⟩
abbrev lt11 (K : PySem.W.Frag) (CH CT CP : Addr) : XK → TE := fun E => tCall (spCntWX K CH CT CP) [] E (tCons (tVar 2) (tCons (tVar 6) (tCons (tVar 4) (tCons (tVar 4) tNil))))
theorem lk11 (U : Use P w K mg base CH CT CP CL fE cL Pt CE fA pPs gPs fdE fdA fdPs cs) {f : Addr} {A : Around} {outer : List Env} {s : Shared} {H0 : Hp} {E : XK} : LamK (lawX P w K mg base f cL A outer s H0 E) 8 (lw 11 1 [.int 0]) ["_law_a"] (lt11 K CH CT CP) :=
  ⟨lamS1_by (N := nLaw) (sc := defScope sLaw) (by decide +kernel), .inr ⟨_, _, rfl, rfl, fun _ _ _ _ _ _ _ _ => ⟨_, rfl, rfl⟩⟩, fun A outer s H E f c' hr => by
    exact pe_calX U.xC (takes_of rfl rfl rfl rfl) (Room.mono hr (show 4 ≤ 8 by decide)) (by rfl) (pa_cons (pv 2) (pa_cons (pv 6) (pa_cons (pv 4) (pa_cons (pv 4) pa_nil))))⟩
abbrev lt12 (K : PySem.W.Frag) (CH CT CP : Addr) : XK → TE := fun E => tCall (spNextX K CH CT CP) [] E (tCons (tVar 2) (tCons (tVar 6) (tCons (tVar 4) tNil)))
theorem lk12 (U : Use P w K mg base CH CT CP CL fE cL Pt CE fA pPs gPs fdE fdA fdPs cs) {f : Addr} {A : Around} {outer : List Env} {s : Shared} {H0 : Hp} {E : XK} : LamK (lawX P w K mg base f cL A outer s H0 E) 8 (lw 12 0 [.int 0]) ["_law_b"] (lt12 K CH CT CP) :=
  ⟨lamS1_by (N := nLaw) (sc := defScope sLaw) (by decide +kernel), .inr ⟨_, _, rfl, rfl, fun _ _ _ _ _ _ _ _ => ⟨_, rfl, rfl⟩⟩, fun A outer s H E f c' hr => by
    exact pe_calX U.xN (takes_of rfl rfl rfl rfl) (Room.mono hr (show 4 ≤ 8 by decide)) (by rfl) (pa_cons (pv 2) (pa_cons (pv 6) (pa_cons (pv 4) pa_nil)))⟩
end
end Dk

set_option Elab.async false
set_option linter.all false
set_option maxRecDepth 100000
set_option maxHeartbeats 4000000
namespace Dk
open PySem PySem.Spec PyProof.Rows L2 TL
/-! ### what the law knows -/
structure St9 (K : PySem.W.Frag) (CH Pt d hp : Addr) (h : Hd) (H : Hp) : Prop where
  src : ∃ st : List Int, H d = some (.lst (st.map V.int)) ∧ Good st
  tb : LamX.Tabs [(Pt, lamQ)] H
  ho : HoAt K CH H hp h
  P : Parts h.ts h.ks h.cs h.rs
section
variable {K : PySem.W.Frag} {CH Pt d hp : Addr} {h : Hd} {H H' : Hp}
theorem St9.ext (x : St9 K CH Pt d hp h H) (e : LamX.ExtN H H') (t : LamX.Tabs [(Pt, lamQ)] H') : St9 K CH Pt d hp h H' := by
  obtain ⟨⟨st, a, b⟩, _, c, p⟩ := x
  exact ⟨⟨st, ExtN_lst e a, b⟩, t, ho_ext e c, p⟩
theorem St9.same (x : St9 K CH Pt d hp h H) (s : Same H H') : St9 K CH Pt d hp h H' := x.ext (extN_same s) (x.tb.ext s)
theorem St9.kp {st : List Int} (x : St9 K CH Pt d hp h H) (k : Kp d H H') (hd : H' d = some (.lst (st.map V.int))) (hg : Good st) : St9 K CH Pt d hp h H' := by
  obtain ⟨⟨st', a, b⟩, t, c, p⟩ := x
  exact ⟨⟨st, hd, hg⟩, tabs_kp t k a, ho_kp k a c, p⟩
theorem St9.kpl {l : Addr} {xs : List V} (x : St9 K CH Pt d hp h H) (k : Kp l H H') (hl : H l = some (.lst xs)) (n : d ≠ l) : St9 K CH Pt d hp h H' := by
  obtain ⟨⟨st', a, b⟩, t, c, p⟩ := x
  exact ⟨⟨st', k _ _ n a, b⟩, tabs_kp t k hl, ho_kp k hl c, p⟩
end
/-- what is no whole number from 0 to below lim -/
def BadV (K : PySem.W.Frag) (lim : Int) (v : V) (H : Hp) : Prop := ∃ dd : PyData, below dd lim = false ∧ ((∀ G : Hp, Dp K G v dd) ∨ ∃ (t : Addr) (i : Int), v = .ref t ∧ dd = .tuple [.int i] ∧ H t = some (.tup [.int i]))
theorem BadV.dp {K : PySem.W.Frag} {lim : Int} {v : V} {H : Hp} (b : BadV K lim v H) : ∃ dd, Dp K H v dd ∧ below dd lim = false := by
  obtain ⟨dd, h1, h2 | ⟨t, i, rfl, rfl, h2⟩⟩ := b
  · exact ⟨dd, h2 H, h1⟩
  · exact ⟨_, .tup (SqT.of h2) (.cons (.int i) .nil), h1⟩
theorem BadV.tups {K : PySem.W.Frag} {lim : Int} {v : V} {H H' : Hp} (b : BadV K lim v H) (k : ∀ t zs, H t = some (.tup zs) → H' t = some (.tup zs)) : BadV K lim v H' := by
  obtain ⟨dd, h1, h2 | ⟨t, i, rfl, rfl, h2⟩⟩ := b
  · exact ⟨dd, h1, .inl h2⟩
  · exact ⟨_, h1, .inr ⟨t, i, rfl, rfl, k _ _ h2⟩⟩
theorem BadV.ext {K : PySem.W.Frag} {lim : Int} {v : V} {H H' : Hp} (b : BadV K lim v H) (e : LamX.ExtN H H') : BadV K lim v H' := b.tups fun t zs q => ExtN_tup e q
theorem BadV.same {K : PySem.W.Frag} {lim : Int} {v : V} {H H' : Hp} (b : BadV K lim v H) (s : Same H H') : BadV K lim v H' := b.tups fun t zs q => s _ _ q
theorem BadV.kp {K : PySem.W.Frag} {lim : Int} {v : V} {H H' : Hp} {l : Addr} {xs : List V} (b : BadV K lim v H) (k : Kp l H H') (hl : H l = some (.lst xs)) : BadV K lim v H' := b.tups fun t zs q => k _ _ (fun z => by rw [z, hl] at q; cases q) q
theorem bad_int {K : PySem.W.Frag} {lim i : Int} {H : Hp} (h : i < 0 ∨ lim ≤ i) : BadV K lim (.int i) H := ⟨.int i, by
  show (decide (0 ≤ i) && decide (i < lim)) = false
  rcases h with h | h
  · rw [decide_eq_false (by omega)]; rfl
  · rw [decide_eq_false (by omega : ¬ i < lim)]; simp, .inl fun G => .int i⟩
theorem bad_non {K : PySem.W.Frag} {lim : Int} {H : Hp} : BadV K lim .non H := ⟨.none, rfl, .inl fun _ => .non⟩
theorem bad_bl {K : PySem.W.Frag} {lim : Int} {H : Hp} {b : Bool} : BadV K lim (.bl b) H := ⟨.bool b, rfl, .inl fun _ => .bl b⟩
theorem bad_str {K : PySem.W.Frag} {lim : Int} {H : Hp} {x : Str} : BadV K lim (.str x) H := ⟨.str x, rfl, .inl fun _ => .str x⟩
theorem bad_tup {K : PySem.W.Frag} {lim i : Int} {H : Hp} {t : Addr} (h : H t = some (.tup [.int i])) : BadV K lim (.ref t) H := ⟨.tuple [.int i], rfl, .inr ⟨t, i, rfl, rfl, h⟩⟩
/-! ### the lambdas that were made -/
def Mds (cells : List (Str × Addr)) (H : Hp) (l : List (Addr × LamW)) : Prop := ∀ p ∈ l, MadeL cells lamQ p.2 p.1 H
theorem Mds.ext {cells : List (Str × Addr)} {H H' : Hp} {l : List (Addr × LamW)} (m : Mds cells H l) (e : LamX.ExtN H H') : Mds cells H' l := fun p hp => (m p hp).mono e
theorem Mds.app {cells : List (Str × Addr)} {H : Hp} {l k : List (Addr × LamW)} (m : Mds cells H l) (n : Mds cells H k) : Mds cells H (l ++ k) := fun p hp => (List.mem_append.mp hp).elim (m p) (n p)
theorem Mds.one {cells : List (Str × Addr)} {H : Hp} {f : Addr} {L : LamW} (m : MadeL cells lamQ L f H) : Mds cells H [(f, L)] := fun p hp => by rw [List.mem_singleton.mp hp]; exact m
theorem MadeL.kp {cells : List (Str × Addr)} {q : Str} {L : LamW} {f l : Addr} {H H' : Hp} {xs : List V} (m : MadeL cells q L f H) (k : Kp l H H') (hl : H l = some (.lst xs)) : MadeL cells q L f H' := by
  obtain ⟨dV, doc, pm, ctv, c', h1, h2, h3⟩ := m
  refine ⟨dV, doc, pm, ctv, c', k _ _ (fun z => ?_) h1, k _ _ (fun z => ?_) h2, ?_⟩
  · rw [z, hl] at h1; unfold ExO at h1; cases h1
  · rw [z, hl] at h2; unfold LamX.CodeO at h2; cases h2
  · rcases h3 with h3 | ⟨n, T, e, h3⟩
    · exact .inl h3
    · exact .inr ⟨n, T, e, k _ _ (fun z => by rw [z, hl] at h3; cases h3) h3⟩
theorem Mds.kp {cells : List (Str × Addr)} {l : Addr} {H H' : Hp} {xs : List V} {ms : List (Addr × LamW)} (m : Mds cells H ms) (k : Kp l H H') (hl : H l = some (.lst xs)) : Mds cells H' ms := fun p hp => (m p hp).kp k hl
theorem err_same {K : PySem.W.Frag} {H : Hp} {j : Nat} (h8 : j < 8) {p q : Addr} (h1 : H p = some (.tup [.str (errAt j), .int 0])) (h2 : H q = some (.tup [.str (errAt j), .int 0])) {Q : VK} (k : Q (.bl false) H) : rNeD K (.ref p) (.ref q) H Q :=
  ⟨errD j, errD j, errD_dp h1, errD_dp h2, err8_shp h8, err8_shp h8, by rw [PySem.SeqAt.eqv_refl _ (err8 h8)]; exact k⟩
section
variable {P : Program} {w : World} {K : PySem.W.Frag} {mg : Str → Option Value} {base : Heap} {CH CT CP CL fE cL Pt CE fA pPs gPs : Addr} {fdE fdA fdPs : FuncData} {cs : Nat → Addr}
/-- 14 to 16: the limit, and two calls that are right -/
theorem law_d {f : Addr} {A : Around} {outer : List Env} {s : Shared} {H0 : Hp} {E : XK} (hr : Room 14 (A.deeper (envOfC (Str.ofString "law") (defScope sLaw) s.heap.objs.size f (.ref cL)))) (U : Use P w K mg base CH CT CP CL fE cL Pt CE fA pPs gPs fdE fdA fdPs cs) :
    ∃ tm, PSs (lawX P w K mg base f cL A outer s H0 E) ((defBody sLaw).drop 14) tm ∧ ∀ (D : Ends) (H : Hp) (v0 v4 v5 v6 v7 : Option V) (d hp : Addr) (h : Hd) (far : Int),
      St9 K CH Pt d hp h H → 0 ≤ far → (∀ H', D.rt (.bl true) H') →
      tm D [v0, some (.ref d), some (.ref hp), some (.int far), v4, v5, v6, v7] H := by
  have hr1 : Room 1 (A.deeper (envOfC (Str.ofString "law") (defScope sLaw) s.heap.objs.size f (.ref cL))) := hr.mono (by decide)
  have hr10 : Room 10 (A.deeper (envOfC (Str.ofString "law") (defScope sLaw) s.heap.objs.size f (.ref cL))) := hr.mono (by decide)
  have hr12 : Room 12 (A.deeper (envOfC (Str.ofString "law") (defScope sLaw) s.heap.objs.size f (.ref cL))) := hr.mono (by decide)
  have hu64 : (A.deeper (envOfC (Str.ofString "law") (defScope sLaw) s.heap.objs.size f (.ref cL))).units + 64 < cLine := by have := hr.un; omega
  have hmT : (Pt, lamQ) ∈ [(Pt, lamQ)] := List.mem_singleton.mpr rfl
  have hu : ∀ p ∈ [(Pt, lamQ)], p.1 = Pt → p.2 = lamQ := fun p hp _ => by rw [List.mem_singleton.mp hp]
  refine ⟨_, by
    exact (pss_cons (ps_set (i := 7) scLaw.nd rfl (.inr rfl) (pe_ix ix_list (pe_lst (pa_cons (pe_op op_sub (pe_op op_sub pe_int pe_int) (pv 3)) (pa_cons (pe_op op_add pe_int (pv 3)) (pa_cons pe_non (pa_cons pe_bl (pa_cons pe_str pa_nil)))))) (pe_cal U.cB hr1 (by rfl) (pa_cons (pv 1) (pa_cons pe_int pa_nil))) (fun _ _ => rfl)))
      (pss_cons (ps_if (pt_cmpR (op_neD hu64) (pe_errof (T := [(Pt, lamQ)]) (k := 8) (t := fun E => tCall (spPlanX K CL) [] E (tCons (tVar 2) (tCons (tVar 7) tNil))) U.N U.EK (by rfl) U.gE U.FE U.bE U.TB rfl hmT hu hr10 (LamX.lamS_by (sc := defScope sLaw) (by decide +kernel)) rfl (fun _ _ _ _ _ => rfl) (fun A outer s H E f c' hr' => by
          exact pe_calX U.xP (takes_of rfl rfl rfl rfl) (Room.mono hr' (show 3 ≤ 8 by decide)) (by rfl) (pa_cons (pv 2) (pa_cons (pv 7) pa_nil)))) (pe_tup (pa_cons pe_str (pa_cons pe_int pa_nil))) (nomark _)) (pss_one (ps_ret pe_bl)) pss_nil)
      (pss_one (ps_ret (pe_and (pe_callB call_isi (by rfl) U.isi (by decide +kernel) (pa_cons (pe_cal U.vW hr12 (by rfl) (pa_cons (pv 2) (pa_cons (pe_op op_pow pe_int pe_int) pa_nil))) (pa_cons (pe_bltn (v := .ty "tuple") (by rfl) U.tuple (by decide +kernel) rfl) pa_nil)))
        (pe_one (pe_cmpR op_eq (pe_cal U.vC hr (by rfl) (pa_cons (pv 2) (pa_cons pe_int (pa_cons pe_int (pa_cons pe_int pa_nil))))) pe_int (nomark _)))))))), ?_⟩
  intro D H v0 v4 v5 v6 v7 d hp h far X f0 k
  refine ⟨_, _, rfl, rfl, _, rfl, _, _, rfl, rfl, _, rfl, _, _, rfl, rfl, by show 5 ≤ sizeLine; decide, fun L hL => ?_⟩
  generalize eL0 : ([V.int (0 - 1 - far), V.int (3 + far), V.non, V.bl true, V.str (Str.ofString "1")] : List V) = xs at hL ⊢
  have s1 := same_upd (o := .lst xs) hL
  have eL : (upd H L (.lst xs)) L = some (.lst xs) := upd_same
  have X1 := X.same s1
  obtain ⟨st, hd, hg⟩ := X.src
  have nL : L ≠ d := (ne_of_none hd hL).symm
  have hd1 := s1 _ _ hd
  generalize upd H L (.lst xs) = H1 at s1 eL X1 hd1
  refine ⟨_, rfl, d, 5, st, rfl, hd1, hg, by decide, by decide, fun H2 st2 r k2 hd2 hg2 r0 r1 => ?_⟩
  have X2 := X1.kp k2 hd2 hg2
  obtain ⟨v, hat, hb⟩ : ∃ v, atI xs r = some v ∧ ∀ G, BadV K 3 v G := by
    have : r = 0 ∨ r = 1 ∨ r = 2 ∨ r = 3 ∨ r = 4 := by omega
    subst eL0
    rcases this with rfl | rfl | rfl | rfl | rfl
    · exact ⟨_, rfl, fun G => bad_int (by omega)⟩
    · exact ⟨_, rfl, fun G => bad_int (by omega)⟩
    · exact ⟨_, rfl, fun G => bad_non⟩
    · exact ⟨_, rfl, fun G => bad_bl⟩
    · exact ⟨_, rfl, fun G => bad_str⟩
  refine ⟨L, _, r, v, rfl, rfl, SqL.of (k2 _ _ nL eL), hat, ?_⟩
  refine ⟨X2.tb, fun H3 x3 T3 => ?_⟩
  have X3 := X2.ext x3 T3
  obtain ⟨dd, hdp, hbl⟩ := (hb H3).dp
  refine ⟨_, rfl, _, rfl, _, v, dd, rfl, hdp, hbl, fun H4 s4 => ⟨2, by simp, by rw [U.eCL], .inl ⟨by decide, rfl, fun H5 p s5 ep => ?_⟩⟩⟩
  refine ⟨by show 2 ≤ sizeLine; decide, fun q hq => ?_⟩
  have s6 := same_upd (o := .tup [.str (Str.ofString "limit"), .int 0]) hq
  refine err_same (j := 2) (by decide) (s6 _ _ ep) upd_same ⟨_, rfl, iteF ?_⟩
  have X6 := X3.same ((s4.trans s5).trans s6)
  generalize upd H5 q (.tup [.str (Str.ofString "limit"), .int 0]) = H6 at X6
  clear s6
  refine ⟨_, rfl, _, _, rfl, rfl, ⟨by decide, by decide, by decide⟩, ?_⟩
  refine ⟨hp, h, 1000000000000000000, by first | rfl | decide, X6.ho, X6.P.tabs, X6.P.n6, by decide, fun H7 v7 s7 an => ?_⟩
  obtain ⟨a7, rfl, ea⟩ := an
  have X7 := X6.same s7
  have n1 := X7.P.n1
  have hd7 : Dp K H7 (.ref a7) (.tuple (dI (stt h (1000000000000000000 + 1)).wait)) := .tup (SqT.of ea) (dpAll_dI _)
  refine ⟨_, _, _, _, _, rfl, .ty "tuple", tyx hd7, kit_ty (kit_tup _), _, rfl, iteT ?_⟩
  refine ⟨_, rfl, hp, h, 0, 5, 4, rfl, X7.ho, X7.P.tabs, X7.P.n6, by decide, by omega, by decide, by decide, fun H8 s8 => ?_⟩
  refine ⟨rfl, ?_⟩
  show D.rt (.bl (decide (V.int (((if 4 < 5 then 0 else cntF (waitsB h 0) (4 + 1) - cntF (waitsB h 0) 5) : Nat) : Int) = V.int 0))) H8
  rw [if_pos (by decide)]
  exact k H8
end
end Dk

set_option Elab.async false
set_option linter.all false
set_option maxRecDepth 100000
set_option maxHeartbeats 4000000
namespace Dk
open PySem PySem.Spec PyProof.Rows L2 TL
section
variable {P : Program} {w : World} {K : PySem.W.Frag} {mg : Str → Option Value} {base : Heap} {CH CT CP CL fE cL Pt CE fA pPs gPs : Addr} {fdE fdA fdPs : FuncData} {cs : Nat → Addr}
/-- 10 to 13: the person -/
theorem law_c {f : Addr} {A : Around} {outer : List Env} {s : Shared} {H0 : Hp} {E : XK} (hr : Room 14 (A.deeper (envOfC (Str.ofString "law") (defScope sLaw) s.heap.objs.size f (.ref cL)))) (U : Use P w K mg base CH CT CP CL fE cL Pt CE fA pPs gPs fdE fdA fdPs cs) :
    ∃ tm, PSs (lawX P w K mg base f cL A outer s H0 E) ((defBody sLaw).drop 10) tm ∧ ∀ (D : Ends) (H : Hp) (v0 v5 v6 v7 : Option V) (d hp : Addr) (h : Hd) (far : Int) (tk : V),
      St9 K CH Pt d hp h H → 0 ≤ far → BadV K (lastT + 1) tk H → (∀ H', D.rt (.bl true) H') →
      tm D [v0, some (.ref d), some (.ref hp), some (.int far), some tk, v5, v6, v7] H := by
  have hr1 : Room 1 (A.deeper (envOfC (Str.ofString "law") (defScope sLaw) s.heap.objs.size f (.ref cL))) := hr.mono (by decide)
  have hr2 : Room 2 (A.deeper (envOfC (Str.ofString "law") (defScope sLaw) s.heap.objs.size f (.ref cL))) := hr.mono (by decide)
  have hr11 : Room 11 (A.deeper (envOfC (Str.ofString "law") (defScope sLaw) s.heap.objs.size f (.ref cL))) := hr.mono (by decide)
  have hmT : (Pt, lamQ) ∈ [(Pt, lamQ)] := List.mem_singleton.mpr rfl
  have hu : ∀ p ∈ [(Pt, lamQ)], p.1 = Pt → p.2 = lamQ := fun p hp _ => by rw [List.mem_singleton.mp hp]
  obtain ⟨tmN, pN, hN⟩ := law_d (P := P) (w := w) (K := K) (mg := mg) (base := base) (f := f) (A := A) (outer := outer) (s := s) (H0 := H0) (E := E) hr U
  refine ⟨_, by
    exact (pss_cons (ps_set (i := 6) scLaw.nd rfl (.inr rfl) (pe_ix ix_list (pe_lst (pa_cons (pe_op op_sub (pe_op op_sub pe_int pe_int) (pv 3)) (pa_cons (pe_op op_add (pe_prop (pv 2) U.clH U.poPs U.GPs hr2 U.bPs .nil pass0 rfl) (pv 3)) (pa_cons pe_non (pa_cons pe_bl (pa_cons pe_str (pa_cons (pe_tup (pa_cons pe_int pa_nil)) pa_nil))))))) (pe_cal U.cB hr1 (by rfl) (pa_cons (pv 1) (pa_cons pe_int pa_nil))) (fun _ _ => rfl)))
      (pss_cons (ps_set (i := 5) scLaw.nd rfl (.inl rfl) (pe_lst (pa_cons (pe_lam (L := lw 11 0 []) (T := [(Pt, lamQ)]) U.TB rfl hmT hu (lk10 U (f := f) (A := A) (outer := outer) (s := s) (H0 := H0) (E := E)).LS.free (.inl ⟨rfl, rfl⟩)) (pa_cons (pe_lam (L := lw 11 1 [.int 0]) (T := [(Pt, lamQ)]) U.TB rfl hmT hu (lk11 U (f := f) (A := A) (outer := outer) (s := s) (H0 := H0) (E := E)).LS.free (.inr ⟨_, _, rfl, rfl⟩)) pa_nil))))
      (pss_cons (ps_expr (pe_bm PySem.F.plainAttrs_list PySem.F.slot_list_append PySem.F.type_list_append mt_append (pv 5) (pa_cons (pe_lam (L := lw 12 0 [.int 0]) (T := [(Pt, lamQ)]) U.TB rfl hmT hu (lk12 U (f := f) (A := A) (outer := outer) (s := s) (H0 := H0) (E := E)).LS.free (.inr ⟨_, _, rfl, rfl⟩)) pa_nil)))
      (pss_cons (ps_if (pt_not (pt_val (pe_callC (ok_all U) (fun _ => rfl) hr11 (by rfl) U.gA U.FA.kp U.bA (pa_cons (pv 5) (pa_cons (pe_tup (pa_cons pe_str (pa_cons pe_int pa_nil))) pa_nil))))) (pss_one (ps_ret pe_bl)) pss_nil) pN)))), ?_⟩
  intro D H v0 v5 v6 v7 d hp h far tk X f0 btk k
  obtain ⟨⟨dx, bT, bC, bR, xs0, g1, g2, g3, g4, g5⟩⟩ := id X.ho
  refine ⟨_, _, rfl, rfl, _, rfl, _, _, rfl, rfl, _, rfl, hp, dx, _, rfl, g1, hp, h, rfl, X.ho, fun Ha sa => ⟨_, rfl, _, _, rfl, rfl, by show 1 ≤ sizeLine; decide, fun t ht => ⟨by show 6 ≤ sizeLine; decide, fun L hL => ?_⟩⟩⟩
  generalize eL0 : ([V.int (0 - 1 - far), V.int (((h.ts.length : Nat) : Int) + far), V.non, V.bl true, V.str (Str.ofString "0"), .ref t] : List V) = xs at hL ⊢
  have Xa := X.same sa
  have s0 := same_upd (o := .tup [.int 0]) ht
  have et : (upd Ha t (.tup [.int 0])) t = some (.tup [.int 0]) := upd_same
  have X0 := Xa.same s0
  have bt0 := (btk.same sa).same s0
  generalize upd Ha t (.tup [.int 0]) = Hb at s0 et X0 bt0 hL
  have s1 := same_upd (o := .lst xs) hL
  have eL : (upd Hb L (.lst xs)) L = some (.lst xs) := upd_same
  have X1 := X0.same s1
  have bt1 := bt0.same s1
  have et1 := s1 _ _ et
  obtain ⟨st, hd, hg⟩ := X0.src
  have nL : L ≠ d := (ne_of_none hd hL).symm
  have hd1 := s1 _ _ hd
  have nt : t ≠ d := fun z => by rw [z, hd1] at et1; cases et1
  generalize upd Hb L (.lst xs) = H1 at s1 eL X1 hd1 et1 bt1
  refine ⟨_, rfl, d, 6, st, rfl, hd1, hg, by decide, by decide, fun H2 st2 r k2 hd2 hg2 r0 r1 => ?_⟩
  have X2 := X1.kp k2 hd2 hg2
  have bt2 := bt1.kp k2 hd1
  have et2 := k2 _ _ nt et1
  obtain ⟨v, hat, hb⟩ : ∃ v, atI xs r = some v ∧ BadV K ((h.ts.length : Nat) : Int) v H2 := by
    have : r = 0 ∨ r = 1 ∨ r = 2 ∨ r = 3 ∨ r = 4 ∨ r = 5 := by omega
    subst eL0
    rcases this with rfl | rfl | rfl | rfl | rfl | rfl
    · exact ⟨_, rfl, bad_int (by omega)⟩
    · exact ⟨_, rfl, bad_int (by omega)⟩
    · exact ⟨_, rfl, bad_non⟩
    · exact ⟨_, rfl, bad_bl⟩
    · exact ⟨_, rfl, bad_str⟩
    · exact ⟨_, rfl, bad_tup et2⟩
  refine ⟨L, _, r, v, rfl, rfl, SqL.of (k2 _ _ nL eL), hat, ?_⟩
  clear eL et1 et hat eL0 et2 bt1 bt0
  -- the lambdas
  refine ⟨X2.tb, fun l0 H3 x3 T3 m0 => ⟨T3, fun l1 H4 x4 T4 m1 => ⟨by show 2 ≤ sizeLine; decide, fun l hl => ?_⟩⟩⟩
  have X4 := (X2.ext x3 T3).ext x4 T4
  have b4 := (hb.ext x3).ext x4
  have bt4 := (bt2.ext x3).ext x4
  have M4 : Mds _ H4 [(l0, lw 11 0 []), (l1, lw 11 1 [.int 0])] := ((Mds.one m0).ext x4).app (Mds.one m1)
  have s5 := same_upd (o := .lst [.ref l0, .ref l1]) hl
  have el : (upd H4 l (.lst [.ref l0, .ref l1])) l = some (.lst [.ref l0, .ref l1]) := upd_same
  have X5 := X4.same s5
  have b5 := b4.same s5
  have bt5 := bt4.same s5
  have M5 := M4.ext (extN_same s5)
  generalize upd H4 l (.lst [.ref l0, .ref l1]) = H5 at s5 el X5 b5 bt5 M5
  refine ⟨_, rfl, .inl ⟨rfl, _, SqL.of el⟩, X5.tb, fun l2 H6 x6 T6 m2 => ⟨l, _, _, rfl, rfl, ExtN_lst x6 el, by show 2 < sizeLine; decide, ?_⟩⟩
  have el6 := ExtN_lst x6 el
  have X6 := X5.ext x6 T6
  have b6 := b5.ext x6
  have bt6 := bt5.ext x6
  have M6 : Mds _ H6 [(l0, lw 11 0 []), (l1, lw 11 1 [.int 0]), (l2, lw 12 0 [.int 0])] := (M5.ext x6).app (Mds.one m2)
  obtain ⟨st6, hd6, _⟩ := X6.src
  have nld : d ≠ l := fun z => by
    rw [z, el6] at hd6
    have := hl
    rw [← z] at this
    obtain ⟨st4, hd4, _⟩ := X4.src
    rw [hd4] at this; cases this
  have k7 : Kp l H6 (upd H6 l (.lst ([.ref l0, .ref l1] ++ [.ref l2]))) := fun b o n e => by rw [upd_ne n]; exact e
  have el7 : (upd H6 l (.lst ([.ref l0, .ref l1] ++ [.ref l2]))) l = some (.lst ([l0, l1, l2].map V.ref)) := upd_same
  have X7 := X6.kpl k7 el6 nld
  have b7 := b6.kp k7 el6
  have bt7 := bt6.kp k7 el6
  have M7 := M6.kp k7 el6
  generalize upd H6 l (.lst ([.ref l0, .ref l1] ++ [.ref l2])) = H7 at X7 b7 bt7 M7 el7
  obtain ⟨dv, hdv, hbv⟩ := b7.dp
  obtain ⟨dt, hdt, hbt⟩ := bt7.dp
  dsimp only [tSeq, tIfS, tNot, tB]
  refine all_raise (X := lawX P w K mg base f cL A outer s H0 E) (cs := cs) (J := [0, 1, 2]) (k := 8) (j := 1) (by simp) (by decide) rfl (by exact rfl) el7 (by show 3 ≤ 1000; decide) (fun g hgm => ?_) (fun H9 s9 => ?_)
  rotate_left
  · exact ⟨_, rfl, iteF (hN D H9 _ _ _ _ _ d hp h far (X7.same s9) f0 k)⟩
  have hgm : g = l0 ∨ g = l1 ∨ g = l2 := by simpa using hgm
  rcases hgm with rfl | rfl | rfl
  · exact ⟨_, _, _, lk10 U, M7 (g, _) (.head _), fun E2 H2' Q2 sE kE => ⟨_, rfl, _, rfl, hp, h, v, dv, rfl, X7.ho.mono sE, dpSame sE _ _ hdv, hbv, fun H3' s3' => by rw [← U.eCP]; exact kE H3' s3'⟩⟩
  · exact ⟨_, _, _, lk11 U, M7 (g, _) (.tail _ (.head _)), fun E2 H2' Q2 sE kE => ⟨_, rfl, _, rfl, _, rfl, _, rfl, hp, h, v, dv, tk, dt, tk, dt, rfl, X7.ho.mono sE, dpSame sE _ _ hdv, dpSame sE _ _ hdt, dpSame sE _ _ hdt, .inl ⟨hbv, fun H3' s3' => by rw [← U.eCP]; exact kE H3' s3'⟩⟩⟩
  · exact ⟨_, _, _, lk12 U, M7 (g, _) (.tail _ (.tail _ (.head _))), fun E2 H2' Q2 sE kE => ⟨_, rfl, _, rfl, _, rfl, hp, h, v, dv, tk, dt, rfl, X7.ho.mono sE, dpSame sE _ _ hdv, dpSame sE _ _ hdt, .inl ⟨hbv, fun H3' s3' => by rw [← U.eCP]; exact kE H3' s3'⟩⟩⟩
end
end Dk

set_option Elab.async false
set_option linter.all false
set_option maxRecDepth 100000
set_option maxHeartbeats 4000000
namespace Dk
open PySem PySem.Spec PyProof.Rows L2 TL
section
variable {P : Program} {w : World} {K : PySem.W.Frag} {mg : Str → Option Value} {base : Heap} {CH CT CP CL fE cL Pt CE fA pPs gPs : Addr} {fdE fdA fdPs : FuncData} {cs : Nat → Addr}
/-- 4 to 9: the tick -/
theorem law_b {f : Addr} {A : Around} {outer : List Env} {s : Shared} {H0 : Hp} {E : XK} (hr : Room 14 (A.deeper (envOfC (Str.ofString "law") (defScope sLaw) s.heap.objs.size f (.ref cL)))) (U : Use P w K mg base CH CT CP CL fE cL Pt CE fA pPs gPs fdE fdA fdPs cs) :
    ∃ tm, PSs (lawX P w K mg base f cL A outer s H0 E) ((defBody sLaw).drop 4) tm ∧ ∀ (D : Ends) (H : Hp) (v0 v5 v6 v7 : Option V) (d hp : Addr) (h : Hd) (far : Int) (tk : V),
      St9 K CH Pt d hp h H → 0 ≤ far → BadV K (lastT + 1) tk H → (∀ H', D.rt (.bl true) H') →
      tm D [v0, some (.ref d), some (.ref hp), some (.int far), some tk, v5, v6, v7] H := by
  have hr11 : Room 11 (A.deeper (envOfC (Str.ofString "law") (defScope sLaw) s.heap.objs.size f (.ref cL))) := hr.mono (by decide)
  have hmT : (Pt, lamQ) ∈ [(Pt, lamQ)] := List.mem_singleton.mpr rfl
  have hu : ∀ p ∈ [(Pt, lamQ)], p.1 = Pt → p.2 = lamQ := fun p hp _ => by rw [List.mem_singleton.mp hp]
  obtain ⟨tmN, pN, hN⟩ := law_c (P := P) (w := w) (K := K) (mg := mg) (base := base) (f := f) (A := A) (outer := outer) (s := s) (H0 := H0) (E := E) hr U
  refine ⟨_, by
    exact (pss_cons (ps_set (i := 5) scLaw.nd rfl (.inl rfl) (pe_lst (pa_cons (pe_lam (L := lw 4 0 []) (T := [(Pt, lamQ)]) U.TB rfl hmT hu (lk0 U (f := f) (A := A) (outer := outer) (s := s) (H0 := H0) (E := E)).LS.free (.inl ⟨rfl, rfl⟩)) (pa_cons (pe_lam (L := lw 4 1 [.int 0]) (T := [(Pt, lamQ)]) U.TB rfl hmT hu (lk1 U (f := f) (A := A) (outer := outer) (s := s) (H0 := H0) (E := E)).LS.free (.inr ⟨_, _, rfl, rfl⟩)) (pa_cons (pe_lam (L := lw 4 2 [.int 0]) (T := [(Pt, lamQ)]) U.TB rfl hmT hu (lk2 U (f := f) (A := A) (outer := outer) (s := s) (H0 := H0) (E := E)).LS.free (.inr ⟨_, _, rfl, rfl⟩)) pa_nil)))))
      (pss_cons (ps_set (i := 5) scLaw.nd rfl (.inl rfl) (pe_op op_cat (pv 5) (pe_lst (pa_cons (pe_lam (L := lw 5 0 [.int 0]) (T := [(Pt, lamQ)]) U.TB rfl hmT hu (lk3 U (f := f) (A := A) (outer := outer) (s := s) (H0 := H0) (E := E)).LS.free (.inr ⟨_, _, rfl, rfl⟩)) (pa_cons (pe_lam (L := lw 5 1 [.int 0]) (T := [(Pt, lamQ)]) U.TB rfl hmT hu (lk4 U (f := f) (A := A) (outer := outer) (s := s) (H0 := H0) (E := E)).LS.free (.inr ⟨_, _, rfl, rfl⟩)) pa_nil)))))
      (pss_cons (ps_set (i := 5) scLaw.nd rfl (.inl rfl) (pe_op op_cat (pv 5) (pe_lst (pa_cons (pe_lam (L := lw 6 0 [.int 0]) (T := [(Pt, lamQ)]) U.TB rfl hmT hu (lk5 U (f := f) (A := A) (outer := outer) (s := s) (H0 := H0) (E := E)).LS.free (.inr ⟨_, _, rfl, rfl⟩)) (pa_cons (pe_lam (L := lw 6 1 [.int 0]) (T := [(Pt, lamQ)]) U.TB rfl hmT hu (lk6 U (f := f) (A := A) (outer := outer) (s := s) (H0 := H0) (E := E)).LS.free (.inr ⟨_, _, rfl, rfl⟩)) pa_nil)))))
      (pss_cons (ps_set (i := 5) scLaw.nd rfl (.inl rfl) (pe_op op_cat (pv 5) (pe_lst (pa_cons (pe_lam (L := lw 7 0 [.int 0]) (T := [(Pt, lamQ)]) U.TB rfl hmT hu (lk7 U (f := f) (A := A) (outer := outer) (s := s) (H0 := H0) (E := E)).LS.free (.inr ⟨_, _, rfl, rfl⟩)) (pa_cons (pe_lam (L := lw 7 1 [.int 0]) (T := [(Pt, lamQ)]) U.TB rfl hmT hu (lk8 U (f := f) (A := A) (outer := outer) (s := s) (H0 := H0) (E := E)).LS.free (.inr ⟨_, _, rfl, rfl⟩)) pa_nil)))))
      (pss_cons (ps_expr (pe_bm PySem.F.plainAttrs_list PySem.F.slot_list_append PySem.F.type_list_append mt_append (pv 5) (pa_cons (pe_lam (L := lw 8 0 [.int 0]) (T := [(Pt, lamQ)]) U.TB rfl hmT hu (lk9 U (f := f) (A := A) (outer := outer) (s := s) (H0 := H0) (E := E)).LS.free (.inr ⟨_, _, rfl, rfl⟩)) pa_nil)))
      (pss_cons (ps_if (pt_not (pt_val (pe_callC (ok_all U) (fun _ => rfl) hr11 (by rfl) U.gA U.FA.kp U.bA (pa_cons (pv 5) (pa_cons (pe_tup (pa_cons pe_str (pa_cons pe_int pa_nil))) pa_nil))))) (pss_one (ps_ret pe_bl)) pss_nil) pN)))))), ?_⟩
  intro D H v0 v5 v6 v7 d hp h far tk X f0' btk k
  refine ⟨X.tb, fun f0 Ha xa Ta ma => ⟨Ta, fun f1 Hb xb Tb mb => ⟨Tb, fun f2 Hc xc Tc mc => ⟨by show 3 ≤ sizeLine; decide, fun l0 hl0 => ?_⟩⟩⟩⟩
  have Y0 := (((X.ext xa Ta).ext xb Tb).ext xc Tc).same (same_upd (o := .lst [.ref f0, .ref f1, .ref f2]) hl0)
  have b0 := (((btk.ext xa).ext xb).ext xc).same (same_upd (o := .lst [.ref f0, .ref f1, .ref f2]) hl0)
  have M0 : Mds _ (upd Hc l0 (.lst [.ref f0, .ref f1, .ref f2])) [(f0, lw 4 0 []), (f1, lw 4 1 [.int 0]), (f2, lw 4 2 [.int 0])] := (((((Mds.one ma).ext xb).app (Mds.one mb)).ext xc).app (Mds.one mc)).ext (extN_same (same_upd hl0))
  have e0 : (upd Hc l0 (.lst [.ref f0, .ref f1, .ref f2])) l0 = some (.lst [.ref f0, .ref f1, .ref f2]) := upd_same
  have n0 : d ≠ l0 := by
    obtain ⟨st, hd, _⟩ := (((X.ext xa Ta).ext xb Tb).ext xc Tc).src
    exact ne_of_none hd hl0
  generalize upd Hc l0 (.lst [.ref f0, .ref f1, .ref f2]) = H1 at Y0 b0 M0 e0
  clear xa xb xc Ta Tb Tc hl0 ma mb mc
  refine ⟨_, rfl, Y0.tb, fun f3 Ha xa Ta ma => ⟨Ta, fun f4 Hb xb Tb mb => ⟨by show 2 ≤ sizeLine; decide, fun lb hlb => ⟨l0, lb, _, _, rfl, rfl, same_upd hlb _ _ (ExtN_lst xb (ExtN_lst xa e0)), upd_same, by show 3 + 2 ≤ sizeLine; decide, fun l1 hl => ?_⟩⟩⟩⟩
  have sA := (same_upd (o := .lst [.ref f3, .ref f4]) hlb).trans (same_upd (o := .lst ([.ref f0, .ref f1, .ref f2] ++ [.ref f3, .ref f4])) hl)
  have Y1 := ((Y0.ext xa Ta).ext xb Tb).same sA
  have b1 := ((b0.ext xa).ext xb).same sA
  have M1 : Mds _ _ [(f0, lw 4 0 []), (f1, lw 4 1 [.int 0]), (f2, lw 4 2 [.int 0]), (f3, lw 5 0 [.int 0]), (f4, lw 5 1 [.int 0])] := (((M0.ext xa).app (Mds.one ma)).ext xb |>.app (Mds.one mb)).ext (extN_same sA)
  have e1 : (upd (upd Hb lb (.lst [.ref f3, .ref f4])) l1 (.lst ([.ref f0, .ref f1, .ref f2] ++ [.ref f3, .ref f4]))) l1 = some (.lst [.ref f0, .ref f1, .ref f2, .ref f3, .ref f4]) := upd_same
  have n1 : d ≠ l1 := by
    obtain ⟨st, hd, _⟩ := ((Y0.ext xa Ta).ext xb Tb).same (same_upd (o := .lst [.ref f3, .ref f4]) hlb) |>.src
    exact ne_of_none hd hl
  generalize upd (upd Hb lb (.lst [.ref f3, .ref f4])) l1 (.lst ([.ref f0, .ref f1, .ref f2] ++ [.ref f3, .ref f4])) = H2 at Y1 b1 M1 e1
  clear xa xb Ta Tb hl hlb ma mb sA e0 Y0 b0 M0
  refine ⟨_, rfl, Y1.tb, fun f5 Ha xa Ta ma => ⟨Ta, fun f6 Hb xb Tb mb => ⟨by show 2 ≤ sizeLine; decide, fun lb hlb => ⟨l1, lb, _, _, rfl, rfl, same_upd hlb _ _ (ExtN_lst xb (ExtN_lst xa e1)), upd_same, by show 5 + 2 ≤ sizeLine; decide, fun l2 hl => ?_⟩⟩⟩⟩
  have sA := (same_upd (o := .lst [.ref f5, .ref f6]) hlb).trans (same_upd (o := .lst ([.ref f0, .ref f1, .ref f2, .ref f3, .ref f4] ++ [.ref f5, .ref f6])) hl)
  have Y2 := ((Y1.ext xa Ta).ext xb Tb).same sA
  have b2 := ((b1.ext xa).ext xb).same sA
  have M2 : Mds _ _ [(f0, lw 4 0 []), (f1, lw 4 1 [.int 0]), (f2, lw 4 2 [.int 0]), (f3, lw 5 0 [.int 0]), (f4, lw 5 1 [.int 0]), (f5, lw 6 0 [.int 0]), (f6, lw 6 1 [.int 0])] := (((M1.ext xa).app (Mds.one ma)).ext xb |>.app (Mds.one mb)).ext (extN_same sA)
  have e2 : (upd (upd Hb lb (.lst [.ref f5, .ref f6])) l2 (.lst ([.ref f0, .ref f1, .ref f2, .ref f3, .ref f4] ++ [.ref f5, .ref f6]))) l2 = some (.lst [.ref f0, .ref f1, .ref f2, .ref f3, .ref f4, .ref f5, .ref f6]) := upd_same
  have n2 : d ≠ l2 := by
    obtain ⟨st, hd, _⟩ := ((Y1.ext xa Ta).ext xb Tb).same (same_upd (o := .lst [.ref f5, .ref f6]) hlb) |>.src
    exact ne_of_none hd hl
  generalize upd (upd Hb lb (.lst [.ref f5, .ref f6])) l2 (.lst ([.ref f0, .ref f1, .ref f2, .ref f3, .ref f4] ++ [.ref f5, .ref f6])) = H3 at Y2 b2 M2 e2
  clear xa xb Ta Tb hl hlb ma mb sA e1 Y1 b1 M1
  refine ⟨_, rfl, Y2.tb, fun f7 Ha xa Ta ma => ⟨Ta, fun f8 Hb xb Tb mb => ⟨by show 2 ≤ sizeLine; decide, fun lb hlb => ⟨l2, lb, _, _, rfl, rfl, same_upd hlb _ _ (ExtN_lst xb (ExtN_lst xa e2)), upd_same, by show 7 + 2 ≤ sizeLine; decide, fun l3 hl => ?_⟩⟩⟩⟩
  have sA := (same_upd (o := .lst [.ref f7, .ref f8]) hlb).trans (same_upd (o := .lst ([.ref f0, .ref f1, .ref f2, .ref f3, .ref f4, .ref f5, .ref f6] ++ [.ref f7, .ref f8])) hl)
  have Y3 := ((Y2.ext xa Ta).ext xb Tb).same sA
  have b3 := ((b2.ext xa).ext xb).same sA
  have M3 : Mds _ _ [(f0, lw 4 0 []), (f1, lw 4 1 [.int 0]), (f2, lw 4 2 [.int 0]), (f3, lw 5 0 [.int 0]), (f4, lw 5 1 [.int 0]), (f5, lw 6 0 [.int 0]), (f6, lw 6 1 [.int 0]), (f7, lw 7 0 [.int 0]), (f8, lw 7 1 [.int 0])] := (((M2.ext xa).app (Mds.one ma)).ext xb |>.app (Mds.one mb)).ext (extN_same sA)
  have e3 : (upd (upd Hb lb (.lst [.ref f7, .ref f8])) l3 (.lst ([.ref f0, .ref f1, .ref f2, .ref f3, .ref f4, .ref f5, .ref f6] ++ [.ref f7, .ref f8]))) l3 = some (.lst [.ref f0, .ref f1, .ref f2, .ref f3, .ref f4, .ref f5, .ref f6, .ref f7, .ref f8]) := upd_same
  have n3 : d ≠ l3 := by
    obtain ⟨st, hd, _⟩ := ((Y2.ext xa Ta).ext xb Tb).same (same_upd (o := .lst [.ref f7, .ref f8]) hlb) |>.src
    exact ne_of_none hd hl
  generalize upd (upd Hb lb (.lst [.ref f7, .ref f8])) l3 (.lst ([.ref f0, .ref f1, .ref f2, .ref f3, .ref f4, .ref f5, .ref f6] ++ [.ref f7, .ref f8])) = H4 at Y3 b3 M3 e3
  clear xa xb Ta Tb hl hlb ma mb sA e2 Y2 b2 M2
  refine ⟨_, rfl, .inl ⟨rfl, _, SqL.of e3⟩, Y3.tb, fun f9 Ha xa Ta ma => ⟨l3, _, _, rfl, rfl, ExtN_lst xa e3, by show 9 < sizeLine; decide, ?_⟩⟩
  have e4 := ExtN_lst xa e3
  have M4 : Mds _ Ha [(f0, lw 4 0 []), (f1, lw 4 1 [.int 0]), (f2, lw 4 2 [.int 0]), (f3, lw 5 0 [.int 0]), (f4, lw 5 1 [.int 0]), (f5, lw 6 0 [.int 0]), (f6, lw 6 1 [.int 0]), (f7, lw 7 0 [.int 0]), (f8, lw 7 1 [.int 0]), (f9, lw 8 0 [.int 0])] := (M3.ext xa).app (Mds.one ma)
  have k7 : Kp l3 Ha (upd Ha l3 (.lst ([.ref f0, .ref f1, .ref f2, .ref f3, .ref f4, .ref f5, .ref f6, .ref f7, .ref f8] ++ [.ref f9]))) := fun b o n e => by rw [upd_ne n]; exact e
  have el7 : (upd Ha l3 (.lst ([.ref f0, .ref f1, .ref f2, .ref f3, .ref f4, .ref f5, .ref f6, .ref f7, .ref f8] ++ [.ref f9]))) l3 = some (.lst ([f0, f1, f2, f3, f4, f5, f6, f7, f8, f9].map V.ref)) := upd_same
  have X7 := (Y3.ext xa Ta).kpl k7 e4 n3
  have bt7 := (b3.ext xa).kp k7 e4
  have M7 := M4.kp k7 e4
  generalize upd Ha l3 (.lst ([.ref f0, .ref f1, .ref f2, .ref f3, .ref f4, .ref f5, .ref f6, .ref f7, .ref f8] ++ [.ref f9])) = H7 at X7 bt7 M7 el7
  obtain ⟨dt, hdt, hbt⟩ := bt7.dp
  have n1 := X7.P.n1
  have p0 : below (.int 0) ((h.ts.length : Nat) : Int) = true := below_is (by decide) (by omega)
  have wn : ∀ (E2 : XK) (H2 H3 : Hp), (∀ H3, Same H2 H3 → E2 (.ref (cs 0)) none H3) → Same H2 H3 → E2 (.ref CT) none H3 := fun E2 H2 H3 kE s3 => by rw [← U.eCT]; exact kE H3 s3
  dsimp only [tSeq, tIfS, tNot, tB]
  refine all_raise (X := lawX P w K mg base f cL A outer s H0 E) (cs := cs) (J := [0, 1, 2]) (k := 8) (j := 0) (by simp) (by decide) rfl (by exact rfl) el7 (by show 10 ≤ 1000; decide) (fun g hgm => ?_) (fun H9 s9 => ?_)
  rotate_left
  · exact ⟨_, rfl, iteF (hN D H9 _ _ _ _ d hp h far tk (X7.same s9) f0' (bt7.same s9) k)⟩
  have hgm : g = f0 ∨ g = f1 ∨ g = f2 ∨ g = f3 ∨ g = f4 ∨ g = f5 ∨ g = f6 ∨ g = f7 ∨ g = f8 ∨ g = f9 := by simpa using hgm
  rcases hgm with rfl | rfl | rfl | rfl | rfl | rfl | rfl | rfl | rfl | rfl
  · exact ⟨_, _, _, lk0 U, M7 (g, _) (.head _), fun E2 H2 Q2 sE kE => ⟨_, rfl, _, rfl, _, tk, dt, rfl, dpSame sE _ _ hdt, hbt, fun H3 s3 => wn _ _ _ kE s3⟩⟩
  · exact ⟨_, _, _, lk1 U, M7 (g, _) (.tail _ (.head _)), fun E2 H2 Q2 sE kE => ⟨_, rfl, _, rfl, _, tk, dt, rfl, dpSame sE _ _ hdt, hbt, fun H3 s3 => wn _ _ _ kE s3⟩⟩
  · exact ⟨_, _, _, lk2 U, M7 (g, _) (.tail _ (.tail _ (.head _))), fun E2 H2 Q2 sE kE => ⟨_, rfl, _, rfl, _, tk, dt, rfl, dpSame sE _ _ hdt, hbt, fun H3 s3 => wn _ _ _ kE s3⟩⟩
  · exact ⟨_, _, _, lk3 U, M7 (g, _) (.tail _ (.tail _ (.tail _ (.head _)))), fun E2 H2 Q2 sE kE => ⟨_, rfl, _, rfl, _, tk, dt, rfl, dpSame sE _ _ hdt, hbt, fun H3 s3 => wn _ _ _ kE s3⟩⟩
  · exact ⟨_, _, _, lk4 U, M7 (g, _) (.tail _ (.tail _ (.tail _ (.tail _ (.head _))))), fun E2 H2 Q2 sE kE => ⟨_, rfl, _, rfl, _, tk, dt, rfl, dpSame sE _ _ hdt, hbt, fun H3 s3 => wn _ _ _ kE s3⟩⟩
  · exact ⟨_, _, _, lk5 U, M7 (g, _) (.tail _ (.tail _ (.tail _ (.tail _ (.tail _ (.head _)))))), fun E2 H2 Q2 sE kE => ⟨_, rfl, _, rfl, _, tk, dt, .non, .none, rfl, dpSame sE _ _ hdt, .non, .inl hbt, fun H3 s3 => ⟨rfl, wn _ _ _ kE s3⟩⟩⟩
  · exact ⟨_, _, _, lk6 U, M7 (g, _) (.tail _ (.tail _ (.tail _ (.tail _ (.tail _ (.tail _ (.head _))))))), fun E2 H2 Q2 sE kE => ⟨_, rfl, _, rfl, hp, h, .int 0, .int 0, tk, dt, rfl, X7.ho.mono sE, .int 0, dpSame sE _ _ hdt, .inr ⟨p0, by simp [hbt], fun H3 s3 => wn _ _ _ kE s3⟩⟩⟩
  · exact ⟨_, _, _, lk7 U, M7 (g, _) (.tail _ (.tail _ (.tail _ (.tail _ (.tail _ (.tail _ (.tail _ (.head _)))))))), fun E2 H2 Q2 sE kE => ⟨_, rfl, _, rfl, _, rfl, _, .int far, .int far, tk, dt, rfl, .int far, dpSame sE _ _ hdt, .inr hbt, fun H3 s3 => ⟨rfl, wn _ _ _ kE s3⟩⟩⟩
  · exact ⟨_, _, _, lk8 U, M7 (g, _) (.tail _ (.tail _ (.tail _ (.tail _ (.tail _ (.tail _ (.tail _ (.tail _ (.head _))))))))), fun E2 H2 Q2 sE kE => ⟨_, rfl, _, rfl, hp, h, .int 0, .int 0, tk, dt, .non, .none, rfl, X7.ho.mono sE, .int 0, dpSame sE _ _ hdt, .non, .inr ⟨p0, by simp [hbt], fun H3 s3 => wn _ _ _ kE s3⟩⟩⟩
  · exact ⟨_, _, _, lk9 U, M7 (g, _) (.tail _ (.tail _ (.tail _ (.tail _ (.tail _ (.tail _ (.tail _ (.tail _ (.tail _ (.head _)))))))))), fun E2 H2 Q2 sE kE => ⟨_, rfl, _, rfl, _, rfl, hp, h, .int 0, .int 0, .int far, .int far, tk, dt, rfl, X7.ho.mono sE, .int 0, .int far, dpSame sE _ _ hdt, .inr ⟨p0, by simp [hbt], fun H3 s3 => wn _ _ _ kE s3⟩⟩⟩
end
end Dk

set_option Elab.async false
set_option linter.all false
set_option maxRecDepth 100000
set_option maxHeartbeats 4000000
namespace Dk
open PySem PySem.Spec PyProof.Rows L2 TL
section
variable {P : Program} {w : World} {K : PySem.W.Frag} {mg : Str → Option Value} {base : Heap} {CH CT CP CL fE cL Pt CE fA pPs gPs : Addr} {fdE fdA fdPs : FuncData} {cs : Nat → Addr}
theorem ok_law {f : Addr} {fd : FuncData} (F : FunC K "law" "law" sLaw f cL fd) (U : Use P w K mg base CH CT CP CL fE cL Pt CE fA pPs gPs fdE fdA fdPs cs) : FnOk P w K mg base CX0 15 f fd ["_law_script"] (spLaw K Pt) := by
  refine F.ok scLaw (fun vs H Q E h => ?_) (fun A outer s H vs Q E hr h => ?_)
  · obtain ⟨a, ns, rfl, _⟩ := h
    rfl
  · obtain ⟨a, ns, rfl, hS, hlen, hTb, k⟩ := h
    have hr1 : Room 1 (A.deeper (envOfC (Str.ofString "law") (defScope sLaw) s.heap.objs.size f (.ref cL))) := hr.mono (by decide)
    have hr3 : Room 3 (A.deeper (envOfC (Str.ofString "law") (defScope sLaw) s.heap.objs.size f (.ref cL))) := hr.mono (by decide)
    have hr7 : Room 7 (A.deeper (envOfC (Str.ofString "law") (defScope sLaw) s.heap.objs.size f (.ref cL))) := hr.mono (by decide)
    obtain ⟨tmN, pN, hN⟩ := law_b (P := P) (w := w) (K := K) (mg := mg) (base := base) (f := f) (A := A) (outer := outer) (s := s) (H0 := H) (E := E) hr U
    refine ⟨_, by
      exact (pss_cons (ps_set (i := 1) scLaw.nd rfl (.inl rfl) (pe_cal U.cRa hr1 (by rfl) (pa_cons (pv 0) (pa_cons pe_int pa_nil))))
        (pss_cons (ps_set (i := 2) scLaw.nd rfl (.inr rfl) (pe_cal U.cHo hr7 (by rfl) (pa_cons (pe_cal U.cPa hr3 (by rfl) (pa_cons (pv 1) (pa_cons pe_int pa_nil))) pa_nil)))
        (pss_cons (ps_set (i := 3) scLaw.nd rfl (.inr rfl) (pe_op op_mul (pe_cal U.cB hr1 (by rfl) (pa_cons (pv 1) (pa_cons pe_int pa_nil))) (pe_cal U.cB hr1 (by rfl) (pa_cons (pv 1) (pa_cons pe_int pa_nil)))))
        (pss_cons (ps_set (i := 4) scLaw.nd rfl (.inr rfl) (pe_ix ix_list (pe_lst (pa_cons (pe_op op_sub (pe_op op_sub pe_int pe_int) (pv 3)) (pa_cons (pe_op op_add (pe_op op_add (pe_op op_pow pe_int pe_int) pe_int) (pv 3)) (pa_cons pe_non (pa_cons pe_bl (pa_cons pe_str (pa_cons (pe_tup (pa_cons pe_int pa_nil)) pa_nil))))))) (pe_cal U.cB hr1 (by rfl) (pa_cons (pv 1) (pa_cons pe_int pa_nil))) (fun _ _ => rfl))) pN)))), ?_⟩
    refine ⟨_, rfl, a, ns, 9, rfl, hS, hlen, by decide, by decide, fun H1 d st s1 _ hd hg => ?_⟩
    refine ⟨_, rfl, d, 4, st, rfl, hd, hg, by decide, by decide, fun H2 st2 pa ts kk cs' rs k2 hd2 hg2 hPA hPP => ?_⟩
    have tb2 := tabs_kp (hTb.ext s1) k2 hd
    refine ⟨pa, ts, kk, cs', rs, rfl, hPA, hPP, fun H3 hp s3 _ hH => ?_⟩
    have X3 : St9 K CH Pt d hp ⟨ts, kk, cs', rs⟩ H3 := ⟨⟨st2, s3 _ _ hd2, hg2⟩, tb2.ext s3, ⟨hH⟩, hPP⟩
    generalize (⟨ts, kk, cs', rs⟩ : Hd) = h at X3
    refine ⟨_, rfl, d, 2, st2, rfl, s3 _ _ hd2, hg2, by decide, by decide, fun H4 st4 r4 k4 hd4 hg4 r40 r41 => ?_⟩
    have X4 := X3.kp k4 hd4 hg4
    refine ⟨_, rfl, d, 999, st4, rfl, hd4, hg4, by decide, by decide, fun H5 st5 r5 k5 hd5 hg5 r50 r51 => ?_⟩
    have X5 := X4.kp k5 hd5 hg5
    have f0 : 0 ≤ r4 * r5 := Int.mul_nonneg r40 r50
    refine ⟨_, _, rfl, rfl, ?_, ?_⟩
    · exact .inl ⟨by omega, by omega⟩
    have h18 : (10 : Int) ^ (18 : Int).toNat = lastT := by decide
    refine ⟨_, _, rfl, rfl, _, rfl, _, _, rfl, rfl, _, _, rfl, rfl, ⟨by decide, by decide, by decide⟩, _, _, rfl, rfl, _, rfl, _, _, rfl, rfl, by show 1 ≤ sizeLine; decide, fun t ht => ⟨by show 6 ≤ sizeLine; decide, fun L hL => ?_⟩⟩
    have s6 := same_upd (o := .tup [.int 1]) ht
    have et : (upd H5 t (.tup [.int 1])) t = some (.tup [.int 1]) := upd_same
    have X6 := X5.same s6
    have ntd : t ≠ d := (ne_of_none hd5 ht).symm
    generalize upd H5 t (.tup [.int 1]) = H6 at s6 et X6 hL
    generalize eL0 : ([V.int (0 - 1 - r4 * r5), V.int ((10 : Int) ^ (18 : Int).toNat + 1 + r4 * r5), V.non, V.bl true, V.str (Str.ofString "1"), .ref t] : List V) = xs at hL ⊢
    have s7 := same_upd (o := .lst xs) hL
    have eL : (upd H6 L (.lst xs)) L = some (.lst xs) := upd_same
    have X7 := X6.same s7
    have et7 := s7 _ _ et
    have hd7 := s7 _ _ (s6 _ _ hd5)
    have nL : L ≠ d := (ne_of_none (s6 _ _ hd5) hL).symm
    generalize upd H6 L (.lst xs) = H7 at s7 eL X7 et7 hd7
    refine ⟨_, rfl, d, 6, st5, rfl, hd7, hg5, by decide, by decide, fun H8 st8 r k8 hd8 hg8 r0 r1 => ?_⟩
    have X8 := X7.kp k8 hd8 hg8
    have et8 := k8 _ _ ntd et7
    obtain ⟨v, hat, hb⟩ : ∃ v, atI xs r = some v ∧ BadV K (lastT + 1) v H8 := by
      have : r = 0 ∨ r = 1 ∨ r = 2 ∨ r = 3 ∨ r = 4 ∨ r = 5 := by omega
      subst eL0
      rcases this with rfl | rfl | rfl | rfl | rfl | rfl
      · exact ⟨_, rfl, bad_int (.inl (by omega))⟩
      · exact ⟨_, rfl, bad_int (.inr (by rw [h18]; omega))⟩
      · exact ⟨_, rfl, bad_non⟩
      · exact ⟨_, rfl, bad_bl⟩
      · exact ⟨_, rfl, bad_str⟩
      · exact ⟨_, rfl, bad_tup et8⟩
    refine ⟨L, _, r, v, rfl, rfl, SqL.of (k8 _ _ nL eL), hat, ?_⟩
    exact hN _ H8 _ _ _ _ d hp h (r4 * r5) v X8 f0 hb k
end
end Dk

set_option Elab.async false
set_option linter.all false
set_option maxRecDepth 100000
set_option maxHeartbeats 4000000
namespace Dk
open PySem PySem.Spec PyProof.Rows L2 TL
/-! ### what the top has written -/
structure FnAt (K : PySem.W.Frag) (x : Str) (st : Stmt) (f : Addr) (fd : FuncData) : Prop where
  g : PySem.W.nsIn K mainGlobals x = some (some (.ref f))
  F : Fun K x x st f fd
theorem fnAt_mk {K : PySem.W.Frag} {x : Str} {st : Stmt} {f : Addr} {oc : Value} {od an : Option Addr} {osl : Array (Option Value)} {kV doc pm cdv ct : Value} (a : PySem.W.nsIn K mainGlobals x = some (some (.ref f)))
    (l : K.lookup f = some ⟨oc, od, .func (PySem.W.fnOf x x (defArgs st) (defBody st) (defScope st) .none kV doc pm an cdv ct), osl⟩)
    (c : PySem.W.codeIn K cdv x = true) (k : PySem.W.keepIn K (.ref f) = true) : FnAt K x st f (PySem.W.fnOf x x (defArgs st) (defBody st) (defScope st) .none kV doc pm an cdv ct) := ⟨a, fun_mk l c k⟩
/-- an error of the program's own -/
structure ErrAt (K : PySem.W.Frag) (x q : Str) (st : Stmt) (C f : Addr) (fd : FuncData) : Prop where
  g : PySem.W.nsIn K mainGlobals x = some (some (.ref C))
  O : OexC K C
  i : PySem.W.findIn K (.ref C) "__init__" = some (some (.ref f))
  t : PySem.W.typeIn K (.ref f) = some (.type "function")
  F : Fun K "__init__" q st f fd
theorem errAt_mk {K : PySem.W.Frag} {x q : Str} {st : Stmt} {C C0 f : Addr} {nm qn : Str} {N : Addr} {bs : List Value} {sn : List Str} {sub : List Value} {ab : Bool} {col : Option Bool} {dd : Option Addr} {m0 m1 m2 m3 m5 : Option Value}
    {oc : Value} {od an : Option Addr} {osl : Array (Option Value)} {kV doc pm cdv ct : Value}
    (a : PySem.W.nsIn K mainGlobals x = some (some (.ref C)))
    (xL : K.lookup C = some (excClassObj nm qn C N bs [.ref C0, .type "ValueError", .type "Exception", .type "BaseException", .type "object"] true sn sub ab col dd m0 m1 m2 m3 m5 "ValueError.__new__"))
    (sa : PySem.W.findIn K (.ref C) "__setattr__" = some (some (.builtin "object.__setattr__"))) (eC : PySem.W.subIn K (.ref C) (.type "BaseException") = some true) (tC : PySem.W.typeIn K (.ref C) = some (.type "type")) (kC : PySem.W.keepIn K (.ref C) = true)
    (i : PySem.W.findIn K (.ref C) "__init__" = some (some (.ref f))) (t : PySem.W.typeIn K (.ref f) = some (.type "function"))
    (l : K.lookup f = some ⟨oc, od, .func (PySem.W.fnOf "__init__" q (defArgs st) (defBody st) (defScope st) .none kV doc pm an cdv ct), osl⟩)
    (c : PySem.W.codeIn K cdv q = true) (k : PySem.W.keepIn K (.ref f) = true) : ErrAt K x q st C f (PySem.W.fnOf "__init__" q (defArgs st) (defBody st) (defScope st) .none kV doc pm an cdv ct) :=
  ⟨a, ⟨⟨nm, qn, N, bs, _, sn, sub, ab, col, dd, m0, m1, m2, m3, m5, xL, (by decide +kernel : PySem.HandSPX.refsVE [.type "ValueError", .type "Exception", .type "BaseException", .type "object"] = true)⟩, sa, eC, tC, kC⟩, i, t, fun_mk l c k⟩
/-- a tuple of texts or numbers among the globals -/
def TupAt (K : PySem.W.Frag) (x : Str) (xs : List V) : Prop := ∃ a, PySem.W.nsIn K mainGlobals x = some (some (.ref a)) ∧ SqT K (fun _ => none) a xs
theorem tupAt_mk {K : PySem.W.Frag} {x : Str} {xs : List V} {a : Addr} {od : Option Addr} {osl : Array (Option Value)} {its : Array Value} {n : Nat} (g : PySem.W.nsIn K mainGlobals x = some (some (.ref a)))
    (l : K.lookup a = some ⟨.type "tuple", od, .seq its n, osl⟩) (z : its.size ≤ sizeLine) (v : Vals xs its.toList) : TupAt K x xs := ⟨a, g, .inr ⟨_, its, n, l, rfl, rfl, z, v⟩⟩
def IntAt (K : PySem.W.Frag) (x : Str) (i : Int) : Prop := ∃ t, PySem.W.nsIn K mainGlobals x = some (some (.int i t))
theorem intAt_mk {K : PySem.W.Frag} {x : Str} {i : Int} {t : Nat} (g : PySem.W.nsIn K mainGlobals x = some (some (.int i t))) : IntAt K x i := ⟨t, g⟩
def StrAt (K : PySem.W.Frag) (x : Str) (i : Str) : Prop := ∃ t, PySem.W.nsIn K mainGlobals x = some (some (.str i t))
theorem strAt_mk {K : PySem.W.Frag} {x : Str} {i : Str} {t : Nat} (g : PySem.W.nsIn K mainGlobals x = some (some (.str i t))) : StrAt K x i := ⟨t, g⟩
/-- the class of houses -/
structure HouAt (K : PySem.W.Frag) (CH : Addr) (fH : Addr) (fdH : FuncData) (dvs : List V) : Prop where
  g : PySem.W.nsIn K mainGlobals "House" = some (some (.ref CH))
  cl : Cls K CH
  nT : NoAttr K CH "tables"
  nK : NoAttr K CH "key_count"
  nC : NoAttr K CH "careful"
  nR : NoAttr K CH "reminders"
  M : Mk K CH fH
  FH : FunD K "__init__" "House.__init__" (defArgs sInit) (defBody sInit) (defScope sInit) dvs [] fH fdH
  two : dvs.length = 2
theorem houAt_mk {K : PySem.W.Frag} {CH : Addr} {fH T e1 e2 : Addr} {ocH dcH pmH cdH ctH kVH ocT : Value} {odH anH odT : Option Addr} {slH slT : Array (Option Value)} {nT : Nat}
    (g : PySem.W.nsIn K mainGlobals "House" = some (some (.ref CH)))
    (pg : PySem.W.plainGet K CH Str.empty = true) (hd : PySem.W.hasDictIn K CH = true) (po : PySem.W.plainOver K CH = true) (sa : PySem.W.findIn K (.ref CH) "__setattr__" = some (some (.builtin "object.__setattr__")))
    (n1 : PySem.W.findIn K (.ref CH) "tables" = some none) (n2 : PySem.W.findIn K (.ref CH) "key_count" = some none) (n3 : PySem.W.findIn K (.ref CH) "careful" = some none) (n4 : PySem.W.findIn K (.ref CH) "reminders" = some none)
    (mk : PySem.W.makesIn K CH = true) (i : PySem.W.findIn K (.ref CH) "__init__" = some (some (.ref fH))) (fn : PySem.W.isFn K (.ref fH) = true) (kc : PySem.W.keepIn K (.ref CH) = true)
    (lH : K.lookup fH = some ⟨ocH, odH, .func (PySem.W.fnOf "__init__" "House.__init__" (defArgs sInit) (defBody sInit) (defScope sInit) (.ref T) kVH dcH pmH anH cdH ctH), slH⟩) (cH : PySem.W.codeIn K cdH "House.__init__" = true) (kH : PySem.W.keepIn K (.ref fH) = true)
    (lT : K.lookup T = some ⟨ocT, odT, .seq #[.ref e1, .ref e2] nT, slT⟩) :
    HouAt K CH fH (PySem.W.fnOf "__init__" "House.__init__" (defArgs sInit) (defBody sInit) (defScope sInit) (.ref T) kVH dcH pmH anH cdH ctH) [.ref e1, .ref e2] :=
  ⟨g, ⟨pg, hd, po, sa⟩, n1, n2, n3, n4, ⟨mk, i, fn, kc⟩, ⟨⟨ocH, odH, _, _, _, _, _, _, _, _, rfl, lH, cH, .inr ⟨by simp, T, _, [.ref e1, .ref e2], nT, rfl, lT, rfl, .cons rfl (.cons rfl .nil)⟩, .inl rfl⟩, kH⟩, rfl⟩
/-- the class of courses -/
structure CouAt (K : PySem.W.Frag) (CC fC : Addr) (fdC : FuncData) : Prop where
  g : PySem.W.nsIn K mainGlobals "Course" = some (some (.ref CC))
  cl : Cls K CC
  n1 : NoAttr K CC "house"
  n2 : NoAttr K CC "span"
  n3 : NoAttr K CC "tick"
  n4 : NoAttr K CC "home"
  n5 : NoAttr K CC "waiters"
  n6 : NoAttr K CC "carriers"
  n7 : NoAttr K CC "unlocked"
  M : Mk K CC fC
  F : Fun K "__init__" "Course.__init__" sCInit fC fdC
theorem couAt_mk {K : PySem.W.Frag} {CC fC : Addr} {oc : Value} {od an : Option Addr} {osl : Array (Option Value)} {kV doc pm cdv ct : Value}
    (g : PySem.W.nsIn K mainGlobals "Course" = some (some (.ref CC)))
    (pg : PySem.W.plainGet K CC Str.empty = true) (hd : PySem.W.hasDictIn K CC = true) (po : PySem.W.plainOver K CC = true) (sa : PySem.W.findIn K (.ref CC) "__setattr__" = some (some (.builtin "object.__setattr__")))
    (n1 : PySem.W.findIn K (.ref CC) "house" = some none) (n2 : PySem.W.findIn K (.ref CC) "span" = some none) (n3 : PySem.W.findIn K (.ref CC) "tick" = some none) (n4 : PySem.W.findIn K (.ref CC) "home" = some none) (n5 : PySem.W.findIn K (.ref CC) "waiters" = some none) (n6 : PySem.W.findIn K (.ref CC) "carriers" = some none) (n7 : PySem.W.findIn K (.ref CC) "unlocked" = some none)
    (mk : PySem.W.makesIn K CC = true) (i : PySem.W.findIn K (.ref CC) "__init__" = some (some (.ref fC))) (fn : PySem.W.isFn K (.ref fC) = true) (kc : PySem.W.keepIn K (.ref CC) = true)
    (l : K.lookup fC = some ⟨oc, od, .func (PySem.W.fnOf "__init__" "Course.__init__" (defArgs sCInit) (defBody sCInit) (defScope sCInit) .none kV doc pm an cdv ct), osl⟩)
    (c : PySem.W.codeIn K cdv "Course.__init__" = true) (k : PySem.W.keepIn K (.ref fC) = true) : CouAt K CC fC (PySem.W.fnOf "__init__" "Course.__init__" (defArgs sCInit) (defBody sCInit) (defScope sCInit) .none kV doc pm an cdv ct) :=
  ⟨g, ⟨pg, hd, po, sa⟩, n1, n2, n3, n4, n5, n6, n7, ⟨mk, i, fn, kc⟩, fun_mk l c k⟩
/-- a method -/
structure MetAt (K : PySem.W.Frag) (C : Addr) (x q : Str) (st : Stmt) (f : Addr) (fd : FuncData) : Prop where
  m : Meth K C x f
  F : Fun K x q st f fd
theorem metAt_mk {K : PySem.W.Frag} {C : Addr} {x q : Str} {st : Stmt} {f : Addr} {oc : Value} {od an : Option Addr} {osl : Array (Option Value)} {kV doc pm cdv ct : Value} (a : PySem.W.findIn K (.ref C) x = some (some (.ref f))) (n : PySem.W.isFn K (.ref f) = true)
    (l : K.lookup f = some ⟨oc, od, .func (PySem.W.fnOf x q (defArgs st) (defBody st) (defScope st) .none kV doc pm an cdv ct), osl⟩)
    (c : PySem.W.codeIn K cdv q = true) (k : PySem.W.keepIn K (.ref f) = true) : MetAt K C x q st f (PySem.W.fnOf x q (defArgs st) (defBody st) (defScope st) .none kV doc pm an cdv ct) := ⟨⟨a, n, k⟩, fun_mk l c k⟩
/-- a property -/
structure PrpAt (K : PySem.W.Frag) (C : Addr) (x q : Str) (st : Stmt) (p f : Addr) (fd : FuncData) : Prop where
  po : PropOf K C x p f
  F : Fun K x q st f fd
theorem prpAt_mk {K : PySem.W.Frag} {C : Addr} {x q : Str} {st : Stmt} {p f : Addr} {oc : Value} {od an : Option Addr} {osl : Array (Option Value)} {kV doc pm cdv ct : Value} {rt : List Value} (a : PySem.W.findIn K (.ref C) x = some (some (.ref p)))
    (pG : PySem.W.specialIn K (.ref p) "__get__" = some (some (.builtin "property.__get__"))) (pK : PySem.W.takesIn K (.ref p) = some true) (pR : PySem.W.recIn K p "property" = some (.ref f :: rt))
    (l : K.lookup f = some ⟨oc, od, .func (PySem.W.fnOf x q (defArgs st) (defBody st) (defScope st) .none kV doc pm an cdv ct), osl⟩)
    (c : PySem.W.codeIn K cdv q = true) (k : PySem.W.keepIn K (.ref f) = true) : PrpAt K C x q st p f (PySem.W.fnOf x q (defArgs st) (defBody st) (defScope st) .none kV doc pm an cdv ct) := ⟨⟨a, pG, pK, ⟨_, pR⟩⟩, fun_mk l c k⟩
/-- a class method -/
structure CMetAt (K : PySem.W.Frag) (C : Addr) (x q : Str) (st : Stmt) (p f : Addr) (fd : FuncData) : Prop where
  rd : ClX.CRead K C (.type "type")
  cm : ClX.CMet K C (.type "type") x p f
  F : Fun K x q st f fd
theorem cmetAt_mk {K : PySem.W.Frag} {C : Addr} {x q : Str} {st : Stmt} {p f : Addr} {oc : Value} {od an : Option Addr} {osl : Array (Option Value)} {kV doc pm cdv ct : Value} {rp : List Value}
    (rd : PySem.W.readsIn K C (.type "type") = true) (ga : PySem.W.specialIn K (.ref C) "__getattribute__" = some (some (.builtin "type.__getattribute__")))
    (cmA : PySem.W.findCls K (.ref C) (.type "type") x = some (.get (.builtin "classmethod.__get__") (.ref p) .none (.ref C))) (cmR : PySem.W.recIn K p "classmethod" = some (.ref f :: rp)) (cmF : PySem.W.fnIn K f = true)
    (l : K.lookup f = some ⟨oc, od, .func (PySem.W.fnOf x q (defArgs st) (defBody st) (defScope st) .none kV doc pm an cdv ct), osl⟩)
    (c : PySem.W.codeIn K cdv q = true) (k : PySem.W.keepIn K (.ref f) = true) : CMetAt K C x q st p f (PySem.W.fnOf x q (defArgs st) (defBody st) (defScope st) .none kV doc pm an cdv ct) := ⟨⟨rd, ga⟩, ⟨cmA, ⟨_, cmR⟩, cmF⟩, fun_mk l c k⟩
/-- a class of the program's own -/
structure ClaAt (K : PySem.W.Frag) (x q : Str) (at' : List Str) (st : Stmt) (CC fC : Addr) (fdC : FuncData) : Prop where
  g : PySem.W.nsIn K mainGlobals x = some (some (.ref CC))
  cl : Cls K CC
  n : ∀ a ∈ at', NoAttr K CC a
  M : Mk K CC fC
  F : Fun K "__init__" q st fC fdC
theorem claAt_mk {K : PySem.W.Frag} {x q : Str} {at' : List Str} {st : Stmt} {CC fC : Addr} {oc : Value} {od an : Option Addr} {osl : Array (Option Value)} {kV doc pm cdv ct : Value}
    (g : PySem.W.nsIn K mainGlobals x = some (some (.ref CC)))
    (pg : PySem.W.plainGet K CC Str.empty = true) (hd : PySem.W.hasDictIn K CC = true) (po : PySem.W.plainOver K CC = true) (sa : PySem.W.findIn K (.ref CC) "__setattr__" = some (some (.builtin "object.__setattr__")))
    (n : ∀ a ∈ at', NoAttr K CC a)
    (mk : PySem.W.makesIn K CC = true) (i : PySem.W.findIn K (.ref CC) "__init__" = some (some (.ref fC))) (fn : PySem.W.isFn K (.ref fC) = true) (kc : PySem.W.keepIn K (.ref CC) = true)
    (l : K.lookup fC = some ⟨oc, od, .func (PySem.W.fnOf "__init__" q (defArgs st) (defBody st) (defScope st) .none kV doc pm an cdv ct), osl⟩)
    (c : PySem.W.codeIn K cdv q = true) (k : PySem.W.keepIn K (.ref fC) = true) : ClaAt K x q at' st CC fC (PySem.W.fnOf "__init__" q (defArgs st) (defBody st) (defScope st) .none kV doc pm an cdv ct) :=
  ⟨g, ⟨pg, hd, po, sa⟩, n, ⟨mk, i, fn, kc⟩, fun_mk l c k⟩

/-- a class of errors: its name, and that it is a class -/
structure ClsAt (K : PySem.W.Frag) (x : Str) (c : Addr) : Prop where
  g : PySem.W.nsIn K mainGlobals x = some (some (.ref c))
  t : PySem.W.typeIn K (.ref c) = some (.type "type")
  i : PySem.W.isClsIn K c = true
theorem kit_no {K : PySem.W.Frag} {x : Str} {D c : Addr} (h : ClsAt K x c) (n : D ≠ c) (s : PySem.W.subIn K (.ref D) (.ref c) = some false) : PySem.W.kitOne K (.ref D) (.ref c) = some false := by
  unfold PySem.W.kitOne
  rw [if_neg (by intro q; exact n (Value.ref.inj (beq_iff_eq.mp q)))]
  show (if ((PySem.W.clsIn K c).isSome && PySem.W.typeIn K (.ref c) == some (.type "type")) = true then PySem.W.subIn K (.ref D) (.ref c) else none) = some false
  rw [show (PySem.W.clsIn K c).isSome = true from h.i, h.t]
  exact s
theorem kit_self {K : PySem.W.Frag} {c : Addr} : PySem.W.kitOne K (.ref c) (.ref c) = some true := by
  unfold PySem.W.kitOne
  rw [if_pos (beq_self_eq_true _)]
theorem kit_ve {K : PySem.W.Frag} {D : Addr} (s : PySem.W.subIn K (.ref D) (.type "ValueError") = some true) : PySem.W.kitOne K (.ref D) (.type "ValueError") = some true := by
  unfold PySem.W.kitOne
  rw [if_neg (by intro q; cases beq_iff_eq.mp q)]
  show (if PySem.W.kitMeta "ValueError" = true then PySem.W.subIn K (.ref D) (.type "ValueError") else none) = some true
  rw [if_pos (by decide +kernel)]
  exact s
structure SubEx (K : PySem.W.Frag) (CE D : Addr) : Prop where
  v : PySem.W.subIn K (.ref D) (.type "ValueError") = some true
  e : PySem.W.subIn K (.ref D) (.ref CE) = some true
  C : ExcC K D
theorem subEx_mk {K : PySem.W.Frag} {CE D : Addr} (v : PySem.W.subIn K (.ref D) (.type "ValueError") = some true) (e : PySem.W.subIn K (.ref D) (.ref CE) = some true)
    (hg : PySem.W.findIn K (.ref D) "__getattribute__" = some (some (.builtin "BaseException.__getattribute__"))) (hk : PySem.W.findIn K (.ref D) "__getattr__" = some none) (hs : PySem.W.subIn K (.ref D) (.type "BaseException") = some true) (hd : PySem.W.hasDictIn K D = true)
    (ha : PySem.W.findIn K (.ref D) "__class__" = some (some (.builtin "object.__class__"))) (hn : PySem.W.specialIn K (.builtin "object.__class__") "__get__" = some (some (.builtin "getset_descriptor.__get__"))) (ht : PySem.W.takesIn K (.builtin "object.__class__") = some true) (hm : PySem.W.mroIn K D (.type "object") = some true) : SubEx K CE D := ⟨v, e, ⟨hg, hk, hs, hd, ha, hn, ht, hm⟩⟩
theorem all_mk {l : PySem.W.OpenLaw} {w : World} {K : PySem.W.Frag} {h : Heap} {mg : Str → Option Value} {fa : Addr} (X : K.In h) (G : h.Ns mainGlobals mg) (hfa : mg "law" = some (.ref fa))
    {f_ii f_ib f_pe f_ct f_ck f_cc f_cr f_it f_ir f_as f_ho f_tk f_cp f_hl f_ca f_so f_fc f_cy f_et f_ev f_ah f_wa f_hd f_hk f_io f_wt f_sp f_cw f_cb f_ne f_sm f_ra f_be f_ta f_le f_pa f_hs f_pn f_er f_alr f_ad f_sn f_ar f_ce f_dp f_th f_tkk f_cl f_pP f_pS ppP ppS   C_i f_i CH fH CC fC c_0 c_1 c_2 c_3 c_4 c_5 c_6 c_7 c_9 c_10 c_11 CE  f_lw cL_lw Pt_lw  : Addr} {d_ii d_ib d_pe d_ct d_ck d_cc d_cr d_it d_ir d_as d_ho d_tk d_cp d_hl d_ca d_so d_fc d_cy d_et d_ev d_ah d_wa d_hd d_hk d_io d_wt d_sp d_cw d_cb d_ne d_sm d_ra d_be d_ta d_le d_pa d_hs d_pn d_er d_alr d_ad d_sn d_ar d_ce d_dp d_th d_tkk d_cl d_pP d_pS  d_i d_h d_c : FuncData} {dvs : List V}
    (h_ii : FnAt K "is_integer" sIsInt f_ii d_ii) (h_ib : FnAt K "is_below" sIsBelow f_ib d_ib) (h_pe : FnAt K "common_period" sPeriod f_pe d_pe) (h_ct : FnAt K "check_tables" sChkTables f_ct d_ct) (h_ck : FnAt K "check_keys" sChkKeys f_ck d_ck) (h_cc : FnAt K "check_careful" sChkCareful f_cc d_cc) (h_cr : FnAt K "check_reminders" sChkRem f_cr d_cr) (h_it : FnAt K "is_table" sIsTable f_it d_it) (h_ir : FnAt K "is_reminder" sIsRem f_ir d_ir) (h_as : FnAt K "is_ascending_at" sAsc f_as d_as) (h_ho : FnAt K "has_only" sHasOnly f_ho d_ho) (h_tk : FnAt K "check_tick" sChkTick f_tk d_tk) (h_cp : FnAt K "check_person" sChkPerson f_cp d_cp) (h_hl : FnAt K "is_home_letter" sHomeL f_hl d_hl) (h_ca : FnAt K "course_after" sCAfter f_ca d_ca) (h_so : FnAt K "scenes_of" sScenes f_so d_so) (h_fc : FnAt K "find_cycle" sFindC f_fc d_fc) (h_cy : FnAt K "cycle_of" sCyc f_cy d_cy) (h_et : FnAt K "early_tick" sEarly f_et d_et) (h_ev : FnAt K "events_between" sEvents f_ev d_ev) (h_ah : FnAt K "at_home" sAtHome f_ah d_ah) (h_wa : FnAt K "waiting" sWaiting f_wa d_wa) (h_hd : FnAt K "holders" sHolders f_hd d_hd) (h_hk : FnAt K "hook" sHook f_hk d_hk) (h_io : FnAt K "is_open" sIsOpen f_io d_io) (h_wt : FnAt K "wait_ticks" sWaitT f_wt d_wt) (h_sp : FnAt K "split_ticks" sSplit f_sp d_sp) (h_cw : FnAt K "count_waits" sCntW f_cw d_cw) (h_cb : FnAt K "count_before" sCntB f_cb d_cb) (h_ne : FnAt K "next_entry" sNextE f_ne d_ne) (h_sm : FnAt K "is_smooth" sSmooth f_sm d_sm) (h_ra : FnAt K "_law_random" sRandom f_ra d_ra) (h_be : FnAt K "_law_below" sBelow f_be d_be) (h_ta : FnAt K "_law_table" sTable f_ta d_ta) (h_le : FnAt K "_law_length" sLength f_le d_le) (h_pa : FnAt K "_law_parts" sParts f_pa d_pa) (h_hs : FnAt K "_law_house" sHouseF f_hs d_hs) (h_pn : FnAt K "plan_reminders" sPlan f_pn d_pn) (h_er : FnAt K "_law_error_of" sErrOf f_er d_er) (h_alr : FnAt K "_law_all_raise" sAllRaise f_alr d_alr)
    (m_ad : MetAt K CC "advance" "Course.advance" sAdv f_ad d_ad) (m_sn : MetAt K CC "scene" "Course.scene" sScene f_sn d_sn) (m_ar : MetAt K CC "_arrive" "Course._arrive" sArrive f_ar d_ar) (m_ce : MetAt K CC "_can_enter" "Course._can_enter" sCanE f_ce d_ce) (m_dp : MetAt K CC "_depart" "Course._depart" sDepart f_dp d_dp) (m_th : MetAt K CC "_thinks_of_key" "Course._thinks_of_key" sThinks f_th d_th) (m_tkk : MetAt K CC "_take_key" "Course._take_key" sTake f_tkk d_tkk) (m_cl : MetAt K CC "_close" "Course._close" sClose f_cl d_cl)
    (p_pP : PrpAt K CH "period" "House.period" sPeriodP ppP f_pP d_pP) (p_pS : PrpAt K CH "persons" "House.persons" sPersonsP ppS f_pS d_pS)  
     
     
    (e_i : ErrAt K "InvalidHouse" "InvalidHouse.__init__" sIHInit C_i f_i d_i) (np : PySem.W.findIn K (.ref C_i) "part" = some none) (ni : PySem.W.findIn K (.ref C_i) "index" = some none)
    (hh : HouAt K CH fH d_h dvs) (hc : CouAt K CC fC d_c)
    (hE : PySem.W.nsIn K mainGlobals "HouseError" = some (some (.ref CE))) (x1 : PySem.W.subIn K (.ref CE) (.type "BaseException") = some true) (x2 : PySem.W.hasDictIn K CE = true) (x3 : PySem.W.typeIn K (.ref CE) = some (.type "type"))
    (k0 : ClsAt K "InvalidTick" c_0) (k1 : ClsAt K "UnknownPerson" c_1) (k2 : ClsAt K "InvalidLimit" c_2) (k3 : ClsAt K "DifferentHouses" c_3) (k4 : ClsAt K "InvalidWaiting" c_4) (k5 : ClsAt K "Contradiction" c_5) (k6 : ClsAt K "InvalidName" c_6) (k7 : ClsAt K "UnknownName" c_7) (k8 : ClsAt K "InvalidHouse" C_i) (k9 : ClsAt K "TextFault" c_9) (k10 : ClsAt K "InvalidCode" c_10) (k11 : ClsAt K "InvalidOperation" c_11)
    (s0 : SubEx K CE c_0) (s1 : SubEx K CE c_1) (s2 : SubEx K CE c_2)
    (a0_1 : PySem.W.subIn K (.ref c_0) (.ref c_1) = some false) (m0_1 : c_0 ≠ c_1) (a0_2 : PySem.W.subIn K (.ref c_0) (.ref c_2) = some false) (m0_2 : c_0 ≠ c_2) (a0_3 : PySem.W.subIn K (.ref c_0) (.ref c_3) = some false) (m0_3 : c_0 ≠ c_3) (a0_4 : PySem.W.subIn K (.ref c_0) (.ref c_4) = some false) (m0_4 : c_0 ≠ c_4) (a0_5 : PySem.W.subIn K (.ref c_0) (.ref c_5) = some false) (m0_5 : c_0 ≠ c_5) (a0_6 : PySem.W.subIn K (.ref c_0) (.ref c_6) = some false) (m0_6 : c_0 ≠ c_6) (a0_7 : PySem.W.subIn K (.ref c_0) (.ref c_7) = some false) (m0_7 : c_0 ≠ c_7) (a0_8 : PySem.W.subIn K (.ref c_0) (.ref C_i) = some false) (m0_8 : c_0 ≠ C_i) (a0_9 : PySem.W.subIn K (.ref c_0) (.ref c_9) = some false) (m0_9 : c_0 ≠ c_9) (a0_10 : PySem.W.subIn K (.ref c_0) (.ref c_10) = some false) (m0_10 : c_0 ≠ c_10) (a0_11 : PySem.W.subIn K (.ref c_0) (.ref c_11) = some false) (m0_11 : c_0 ≠ c_11)
    (a1_0 : PySem.W.subIn K (.ref c_1) (.ref c_0) = some false) (m1_0 : c_1 ≠ c_0) (a1_2 : PySem.W.subIn K (.ref c_1) (.ref c_2) = some false) (m1_2 : c_1 ≠ c_2) (a1_3 : PySem.W.subIn K (.ref c_1) (.ref c_3) = some false) (m1_3 : c_1 ≠ c_3) (a1_4 : PySem.W.subIn K (.ref c_1) (.ref c_4) = some false) (m1_4 : c_1 ≠ c_4) (a1_5 : PySem.W.subIn K (.ref c_1) (.ref c_5) = some false) (m1_5 : c_1 ≠ c_5) (a1_6 : PySem.W.subIn K (.ref c_1) (.ref c_6) = some false) (m1_6 : c_1 ≠ c_6) (a1_7 : PySem.W.subIn K (.ref c_1) (.ref c_7) = some false) (m1_7 : c_1 ≠ c_7) (a1_8 : PySem.W.subIn K (.ref c_1) (.ref C_i) = some false) (m1_8 : c_1 ≠ C_i) (a1_9 : PySem.W.subIn K (.ref c_1) (.ref c_9) = some false) (m1_9 : c_1 ≠ c_9) (a1_10 : PySem.W.subIn K (.ref c_1) (.ref c_10) = some false) (m1_10 : c_1 ≠ c_10) (a1_11 : PySem.W.subIn K (.ref c_1) (.ref c_11) = some false) (m1_11 : c_1 ≠ c_11)
    (a2_0 : PySem.W.subIn K (.ref c_2) (.ref c_0) = some false) (m2_0 : c_2 ≠ c_0) (a2_1 : PySem.W.subIn K (.ref c_2) (.ref c_1) = some false) (m2_1 : c_2 ≠ c_1) (a2_3 : PySem.W.subIn K (.ref c_2) (.ref c_3) = some false) (m2_3 : c_2 ≠ c_3) (a2_4 : PySem.W.subIn K (.ref c_2) (.ref c_4) = some false) (m2_4 : c_2 ≠ c_4) (a2_5 : PySem.W.subIn K (.ref c_2) (.ref c_5) = some false) (m2_5 : c_2 ≠ c_5) (a2_6 : PySem.W.subIn K (.ref c_2) (.ref c_6) = some false) (m2_6 : c_2 ≠ c_6) (a2_7 : PySem.W.subIn K (.ref c_2) (.ref c_7) = some false) (m2_7 : c_2 ≠ c_7) (a2_8 : PySem.W.subIn K (.ref c_2) (.ref C_i) = some false) (m2_8 : c_2 ≠ C_i) (a2_9 : PySem.W.subIn K (.ref c_2) (.ref c_9) = some false) (m2_9 : c_2 ≠ c_9) (a2_10 : PySem.W.subIn K (.ref c_2) (.ref c_10) = some false) (m2_10 : c_2 ≠ c_10) (a2_11 : PySem.W.subIn K (.ref c_2) (.ref c_11) = some false) (m2_11 : c_2 ≠ c_11)
    (xf8 : XfC K C_i) (xf9 : XfC K c_9) (nl : PySem.W.findIn K (.ref c_9) "line" = some none)
    {ocl_lw : Value} {odl_lw anl_lw : Option Addr} {osl_lw : Array (Option Value)} {kVl_lw docl_lw pml_lw ctl_lw : Value}
    (gl_lw : PySem.W.nsIn K mainGlobals "law" = some (some (.ref f_lw))) (ll_lw : K.lookup f_lw = some ⟨ocl_lw, odl_lw, .func (PySem.W.fnOf "law" "law" (defArgs sLaw) (defBody sLaw) (defScope sLaw) .none kVl_lw docl_lw pml_lw anl_lw (.ref cL_lw) ctl_lw), osl_lw⟩) (lc_lw : PySem.W.codeIn K (.ref cL_lw) "law" = true) (kl_lw : PySem.W.keepIn K (.ref f_lw) = true)
    (tabE_lw : h.get? Pt_lw = some { cls := .none, data := .fields #[] }) (hC_lw : PySem.W.codeHdIn K cL_lw Pt_lw = true) (nPx_lw : K.lookup Pt_lw = none)
    (c1 : TupAt K "TABLE_LENGTHS" (tabLens.map V.int)) (c3 : IntAt K "MOST_PERSONS" 6) (c4 : IntAt K "MOST_KEYS" 9) (c5 : IntAt K "MOST_REMINDERS" 10) (c7 : IntAt K "LAST_TICK" lastT) (c8 : IntAt K "WAITERS" 1) (c9 : IntAt K "UNLOCKED" 3) (c10 : IntAt K "MOST_PLANNED" 2) (c6 : StrAt K "LETTERS" hoS)
    (zl : PySem.W.nsIn K mainGlobals "lcm" = some (some (.builtin "math.lcm")))
    (z_abs : PySem.W.nsIn K mainGlobals "abs" = some none) (z_len : PySem.W.nsIn K mainGlobals "len" = some none) (z_range : PySem.W.nsIn K mainGlobals "range" = some none) (z_tuple : PySem.W.nsIn K mainGlobals "tuple" = some none) (z_sorted : PySem.W.nsIn K mainGlobals "sorted" = some none) (z_enumerate : PySem.W.nsIn K mainGlobals "enumerate" = some none) (z_isinstance : PySem.W.nsIn K mainGlobals "isinstance" = some none) (z_int : PySem.W.nsIn K mainGlobals "int" = some none) (z_bool : PySem.W.nsIn K mainGlobals "bool" = some none) (z_str : PySem.W.nsIn K mainGlobals "str" = some none) (z_all : PySem.W.nsIn K mainGlobals "all" = some none) (z_list : PySem.W.nsIn K mainGlobals "list" = some none) (z_any : PySem.W.nsIn K mainGlobals "any" = some none) (z_ValueError : PySem.W.nsIn K mainGlobals "ValueError" = some none) (z_min : PySem.W.nsIn K mainGlobals "min" = some none) (z_divmod : PySem.W.nsIn K mainGlobals "divmod" = some none) (zc : PySem.W.nsIn K mainGlobals "combinations" = some (some (.type "itertools.combinations"))) (noS : PySem.W.subIn K (.ref c_0) (.type "StopIteration") = some false)
    (xA0 : PySem.W.excIn K c_0 [Value.type "ValueError", Value.type "Exception", Value.type "BaseException", Value.type "object"] "ValueError.__new__" = true) (kA0 : PySem.W.keepIn K (.ref c_0) = true) (bA0 : PySem.W.subIn K (.ref c_0) (.type "BaseException") = some true) (tA0 : PySem.W.typeIn K (.ref c_0) = some (.type "type"))
    (xA1 : PySem.W.excIn K c_1 [Value.type "ValueError", Value.type "Exception", Value.type "BaseException", Value.type "object"] "ValueError.__new__" = true) (kA1 : PySem.W.keepIn K (.ref c_1) = true) (bA1 : PySem.W.subIn K (.ref c_1) (.type "BaseException") = some true) (tA1 : PySem.W.typeIn K (.ref c_1) = some (.type "type"))
    (xA2 : PySem.W.excIn K c_2 [Value.type "ValueError", Value.type "Exception", Value.type "BaseException", Value.type "object"] "ValueError.__new__" = true) (kA2 : PySem.W.keepIn K (.ref c_2) = true) (bA2 : PySem.W.subIn K (.ref c_2) (.type "BaseException") = some true) (tA2 : PySem.W.typeIn K (.ref c_2) = some (.type "type")) :
    LamX.LawAtS l w K CX0 15 63 "_law_script" mg fa h := by
  have e := hfa.symm.trans (PySem.W.mg_of X G gl_lw)
  cases e
  have g_ii := PySem.W.mg_of X G h_ii.g
  have b_ii := h_ii.F.binds (ps := ["value"]) fun _ _ _ _ _ _ us hl => match us, hl with | [_], _ => rfl
  have g_ib := PySem.W.mg_of X G h_ib.g
  have b_ib := h_ib.F.binds (ps := ["value", "limit"]) fun _ _ _ _ _ _ us hl => match us, hl with | [_, _], _ => rfl
  have g_pe := PySem.W.mg_of X G h_pe.g
  have b_pe := h_pe.F.binds (ps := ["tables"]) fun _ _ _ _ _ _ us hl => match us, hl with | [_], _ => rfl
  have g_ct := PySem.W.mg_of X G h_ct.g
  have b_ct := h_ct.F.binds (ps := ["tables"]) fun _ _ _ _ _ _ us hl => match us, hl with | [_], _ => rfl
  have g_ck := PySem.W.mg_of X G h_ck.g
  have b_ck := h_ck.F.binds (ps := ["keys"]) fun _ _ _ _ _ _ us hl => match us, hl with | [_], _ => rfl
  have g_cc := PySem.W.mg_of X G h_cc.g
  have b_cc := h_cc.F.binds (ps := ["careful", "persons"]) fun _ _ _ _ _ _ us hl => match us, hl with | [_, _], _ => rfl
  have g_cr := PySem.W.mg_of X G h_cr.g
  have b_cr := h_cr.F.binds (ps := ["reminders", "period", "persons"]) fun _ _ _ _ _ _ us hl => match us, hl with | [_, _, _], _ => rfl
  have g_it := PySem.W.mg_of X G h_it.g
  have b_it := h_it.F.binds (ps := ["table"]) fun _ _ _ _ _ _ us hl => match us, hl with | [_], _ => rfl
  have g_ir := PySem.W.mg_of X G h_ir.g
  have b_ir := h_ir.F.binds (ps := ["reminder", "period", "persons"]) fun _ _ _ _ _ _ us hl => match us, hl with | [_, _, _], _ => rfl
  have g_as := PySem.W.mg_of X G h_as.g
  have b_as := h_as.F.binds (ps := ["items", "index"]) fun _ _ _ _ _ _ us hl => match us, hl with | [_, _], _ => rfl
  have g_ho := PySem.W.mg_of X G h_ho.g
  have b_ho := h_ho.F.binds (ps := ["word", "characters"]) fun _ _ _ _ _ _ us hl => match us, hl with | [_, _], _ => rfl
  have g_tk := PySem.W.mg_of X G h_tk.g
  have b_tk := h_tk.F.binds (ps := ["tick"]) fun _ _ _ _ _ _ us hl => match us, hl with | [_], _ => rfl
  have g_cp := PySem.W.mg_of X G h_cp.g
  have b_cp := h_cp.F.binds (ps := ["person", "persons"]) fun _ _ _ _ _ _ us hl => match us, hl with | [_, _], _ => rfl
  have g_hl := PySem.W.mg_of X G h_hl.g
  have b_hl := h_hl.F.binds (ps := ["table", "tick"]) fun _ _ _ _ _ _ us hl => match us, hl with | [_, _], _ => rfl
  have g_ca := PySem.W.mg_of X G h_ca.g
  have b_ca := h_ca.F.binds (ps := ["house", "tick"]) fun _ _ _ _ _ _ us hl => match us, hl with | [_, _], _ => rfl
  have g_so := PySem.W.mg_of X G h_so.g
  have b_so := h_so.F.binds (ps := ["house"]) fun _ _ _ _ _ _ us hl => match us, hl with | [_], _ => rfl
  have g_fc := PySem.W.mg_of X G h_fc.g
  have b_fc := h_fc.F.binds (ps := ["house"]) fun _ _ _ _ _ _ us hl => match us, hl with | [_], _ => rfl
  have g_cy := PySem.W.mg_of X G h_cy.g
  have b_cy := h_cy.F.binds (ps := ["scenes"]) fun _ _ _ _ _ _ us hl => match us, hl with | [_], _ => rfl
  have g_et := PySem.W.mg_of X G h_et.g
  have b_et := h_et.F.binds (ps := ["tick", "begin", "length"]) fun _ _ _ _ _ _ us hl => match us, hl with | [_, _, _], _ => rfl
  have g_ev := PySem.W.mg_of X G h_ev.g
  have b_ev := h_ev.F.binds (ps := ["house", "first", "last"]) fun _ _ _ _ _ _ us hl => match us, hl with | [_, _, _], _ => rfl
  have g_ah := PySem.W.mg_of X G h_ah.g
  have b_ah := h_ah.F.binds (ps := ["house", "tick"]) fun _ _ _ _ _ _ us hl => match us, hl with | [_, _], _ => rfl
  have g_wa := PySem.W.mg_of X G h_wa.g
  have b_wa := h_wa.F.binds (ps := ["house", "tick"]) fun _ _ _ _ _ _ us hl => match us, hl with | [_, _], _ => rfl
  have g_hd := PySem.W.mg_of X G h_hd.g
  have b_hd := h_hd.F.binds (ps := ["house", "tick"]) fun _ _ _ _ _ _ us hl => match us, hl with | [_, _], _ => rfl
  have g_hk := PySem.W.mg_of X G h_hk.g
  have b_hk := h_hk.F.binds (ps := ["house", "tick"]) fun _ _ _ _ _ _ us hl => match us, hl with | [_, _], _ => rfl
  have g_io := PySem.W.mg_of X G h_io.g
  have b_io := h_io.F.binds (ps := ["house", "tick"]) fun _ _ _ _ _ _ us hl => match us, hl with | [_, _], _ => rfl
  have g_wt := PySem.W.mg_of X G h_wt.g
  have b_wt := h_wt.F.binds (ps := ["house", "person"]) fun _ _ _ _ _ _ us hl => match us, hl with | [_, _], _ => rfl
  have g_sp := PySem.W.mg_of X G h_sp.g
  have b_sp := h_sp.F.binds (ps := ["house", "marks"]) fun _ _ _ _ _ _ us hl => match us, hl with | [_, _], _ => rfl
  have g_cw := PySem.W.mg_of X G h_cw.g
  have b_cw := h_cw.F.binds (ps := ["house", "person", "first", "last"]) fun _ _ _ _ _ _ us hl => match us, hl with | [_, _, _, _], _ => rfl
  have g_cb := PySem.W.mg_of X G h_cb.g
  have b_cb := h_cb.F.binds (ps := ["house", "person", "limit"]) fun _ _ _ _ _ _ us hl => match us, hl with | [_, _, _], _ => rfl
  have g_ne := PySem.W.mg_of X G h_ne.g
  have b_ne := h_ne.F.binds (ps := ["house", "person", "tick"]) fun _ _ _ _ _ _ us hl => match us, hl with | [_, _, _], _ => rfl
  have g_sm := PySem.W.mg_of X G h_sm.g
  have b_sm := h_sm.F.binds (ps := ["house"]) fun _ _ _ _ _ _ us hl => match us, hl with | [_], _ => rfl
  have g_ra := PySem.W.mg_of X G h_ra.g
  have b_ra := h_ra.F.binds (ps := ["_law_script", "_law_salt"]) fun _ _ _ _ _ _ us hl => match us, hl with | [_, _], _ => rfl
  have g_be := PySem.W.mg_of X G h_be.g
  have b_be := h_be.F.binds (ps := ["_law_d", "_law_limit"]) fun _ _ _ _ _ _ us hl => match us, hl with | [_, _], _ => rfl
  have g_ta := PySem.W.mg_of X G h_ta.g
  have b_ta := h_ta.F.binds (ps := ["_law_d"]) fun _ _ _ _ _ _ us hl => match us, hl with | [_], _ => rfl
  have g_le := PySem.W.mg_of X G h_le.g
  have b_le := h_le.F.binds (ps := ["_law_tables"]) fun _ _ _ _ _ _ us hl => match us, hl with | [_], _ => rfl
  have g_pa := PySem.W.mg_of X G h_pa.g
  have b_pa := h_pa.F.binds (ps := ["_law_d", "_law_most"]) fun _ _ _ _ _ _ us hl => match us, hl with | [_, _], _ => rfl
  have g_hs := PySem.W.mg_of X G h_hs.g
  have b_hs := h_hs.F.binds (ps := ["_law_parts_here"]) fun _ _ _ _ _ _ us hl => match us, hl with | [_], _ => rfl
  have g_pn := PySem.W.mg_of X G h_pn.g
  have b_pn := h_pn.F.binds (ps := ["house", "limit"]) fun _ _ _ _ _ _ us hl => match us, hl with | [_, _], _ => rfl
  have g_er := PySem.W.mg_of X G h_er.g
  have b_er := h_er.F.binds (ps := ["_law_call"]) fun _ _ _ _ _ _ us hl => match us, hl with | [_], _ => rfl
  have g_alr := PySem.W.mg_of X G h_alr.g
  have b_alr := h_alr.F.binds (ps := ["_law_calls", "_law_expected"]) fun _ _ _ _ _ _ us hl => match us, hl with | [_, _], _ => rfl
  have b_ad := m_ad.F.binds (ps := ["self"]) fun _ _ _ _ _ _ us hl => match us, hl with | [_], _ => rfl
  have b_sn := m_sn.F.binds (ps := ["self"]) fun _ _ _ _ _ _ us hl => match us, hl with | [_], _ => rfl
  have b_ar := m_ar.F.binds (ps := ["self", "wishes"]) fun _ _ _ _ _ _ us hl => match us, hl with | [_, _], _ => rfl
  have b_ce := m_ce.F.binds (ps := ["self", "comers"]) fun _ _ _ _ _ _ us hl => match us, hl with | [_, _], _ => rfl
  have b_dp := m_dp.F.binds (ps := ["self", "wishes"]) fun _ _ _ _ _ _ us hl => match us, hl with | [_, _], _ => rfl
  have b_th := m_th.F.binds (ps := ["self", "person"]) fun _ _ _ _ _ _ us hl => match us, hl with | [_, _], _ => rfl
  have b_tkk := m_tkk.F.binds (ps := ["self", "person"]) fun _ _ _ _ _ _ us hl => match us, hl with | [_, _], _ => rfl
  have b_cl := m_cl.F.binds (ps := ["self", "person"]) fun _ _ _ _ _ _ us hl => match us, hl with | [_, _], _ => rfl
  have b_pP := p_pP.F.binds (ps := ["self"]) fun _ _ _ _ _ _ us hl => match us, hl with | [_], _ => rfl
  have b_pS := p_pS.F.binds (ps := ["self"]) fun _ _ _ _ _ _ us hl => match us, hl with | [_], _ => rfl
  have y_abs := PySem.W.mg_none_of X G z_abs
  have y_len := PySem.W.mg_none_of X G z_len
  have y_range := PySem.W.mg_none_of X G z_range
  have y_tuple := PySem.W.mg_none_of X G z_tuple
  have y_sorted := PySem.W.mg_none_of X G z_sorted
  have y_enumerate := PySem.W.mg_none_of X G z_enumerate
  have y_isinstance := PySem.W.mg_none_of X G z_isinstance
  have y_int := PySem.W.mg_none_of X G z_int
  have y_bool := PySem.W.mg_none_of X G z_bool
  have y_str := PySem.W.mg_none_of X G z_str
  have y_all := PySem.W.mg_none_of X G z_all
  have y_list := PySem.W.mg_none_of X G z_list
  have y_any := PySem.W.mg_none_of X G z_any
  have y_ValueError := PySem.W.mg_none_of X G z_ValueError
  have y_min := PySem.W.mg_none_of X G z_min
  have y_divmod := PySem.W.mg_none_of X G z_divmod
  have b_i := e_i.F.binds (ps := ["self", "part", "index"]) fun _ _ _ _ _ _ us hl => match us, hl with | [_, _, _], _ => rfl
  have b_c := hc.F.binds (ps := ["self", "house"]) fun _ _ _ _ _ _ us hl => match us, hl with | [_, _], _ => rfl
  have b_h : Binds K d_h ["self", "tables", "keys", "careful", "reminders"] [] := by
    have hq := hh.FH.binds1 (ps := ["self", "tables", "keys", "careful", "reminders"]) 5 2 (fun q => by have := hh.two; rw [q] at this; cases this) (by rw [hh.two]; rfl)
      (fun T kV doc pm an cdv ct us its hl hi => by
        rw [hh.two] at hi
        match us, hl, its, hi with
        | [_, _, _, _, _], _, [_, _], _ => exact ⟨_, rfl, rfl⟩)
    obtain ⟨ds, hv, hb⟩ := hq
    rw [show dvs.drop 2 = [] from List.drop_of_length_le (by rw [hh.two]; exact Nat.le_refl _)] at hv
    cases hv
    exact hb
  obtain ⟨a1, g1, q1⟩ := c1
  obtain ⟨t3, g3⟩ := c3
  obtain ⟨t4, g4⟩ := c4
  obtain ⟨t5, g5⟩ := c5
  obtain ⟨t7, g7⟩ := c7
  obtain ⟨t8, g8⟩ := c8
  obtain ⟨t9, g9⟩ := c9
  obtain ⟨t10, g10⟩ := c10
  obtain ⟨t6, g6⟩ := c6
  have TA : TxtA mg := { abs := y_abs, len := y_len, range := y_range }
  have TB : TxtB K mg f_be d_be := { g := g_be, F := h_be.F, b := b_be }
  have TD : TxtD K mg f_ta f_le d_ta d_le := { gT := g_ta, FT := h_ta.F, bT := b_ta, gL := g_le, FL := h_le.F, bL := b_le, tuple := y_tuple, sorted := y_sorted }
  have TC : TxtC mg := { lcm := PySem.W.mg_of X G zl }
  have TF : TxtF K mg f_ii f_ib f_ho d_ii d_ib d_ho := { isinstance := y_isinstance, int := y_int, bool := y_bool, str := y_str, tuple := y_tuple, all := y_all, gII := g_ii, FII := h_ii.F, bII := b_ii, gIB := g_ib, FIB := h_ib.F, bIB := b_ib, gHO := g_ho, FHO := h_ho.F, bHO := b_ho, letters := ⟨t6, PySem.W.mg_of X G g6⟩, lengths := ⟨a1, PySem.W.mg_of X G g1, q1⟩ }
  have TI : TxtI K mg f_it f_ir f_as d_it d_ir d_as := { enumerate := y_enumerate, most := ⟨t3, PySem.W.mg_of X G g3⟩, keys := ⟨t4, PySem.W.mg_of X G g4⟩, rems := ⟨t5, PySem.W.mg_of X G g5⟩, gIT := g_it, FIT := h_it.F, bIT := b_it, gIR := g_ir, FIR := h_ir.F, bIR := b_ir, gAs := g_as, FAs := h_as.F, bAs := b_as }
  have TH : TxtIH K mg C_i f_i d_i := { gC := PySem.W.mg_of X G e_i.g, O := e_i.O, iC := e_i.i, tI := e_i.t, F := e_i.F, b := b_i, nP := np, nI := ni }
  have TL' : TxtL K mg CH f_pe f_ct f_ck f_cc f_cr d_pe d_ct d_ck d_cc d_cr := { cl := hh.cl, nT := hh.nT, nK := hh.nK, nC := hh.nC, nR := hh.nR, gP := g_pe, FP := h_pe.F, bP := b_pe, gT := g_ct, FT := h_ct.F, bT := b_ct, gK := g_ck, FK := h_ck.F, bK := b_ck, gCa := g_cc, FC := h_cc.F, bC := b_cc, gR := g_cr, FR := h_cr.F, bR := b_cr }
  have HP : TxtHp K mg CH f_pe ppP f_pP ppS f_pS d_pe d_pP d_pS := { gCP := g_pe, FCP := h_pe.F, bCP := b_pe, poPe := p_pP.po, FPe := p_pP.F, bPe := b_pP, poPs := p_pS.po, FPs := p_pS.F, bPs := b_pS }
  have C' : TxtCo K mg CC CH f_hl d_hl := { cl := hc.cl, nHo := hc.n1, nSp := hc.n2, nTk := hc.n3, nHm := hc.n4, nWt := hc.n5, nCr := hc.n6, nUn := hc.n7, clH := hh.cl, nT := hh.nT, nK := hh.nK, nC := hh.nC, nR := hh.nR, gHL := g_hl, FHL := h_hl.F, bHL := b_hl, any := y_any, sorted := y_sorted, enumerate := y_enumerate, list := y_list, tuple := y_tuple }
  have TKK : TxtTk K CC f_tkk d_tkk := { m := m_tkk.m, F := m_tkk.F, b := b_tkk }
  have DP : TxtDp K CC f_th f_tkk f_cl d_th d_tkk d_cl := { mTh := m_th.m, FTh := m_th.F, bTh := b_th, tk := TKK, mCl := m_cl.m, FCl := m_cl.F, bCl := b_cl }
  have AD : TxtAd K CC f_ar f_dp f_ce f_th f_tkk f_cl d_ar d_dp d_ce d_th d_tkk d_cl := { mAr := m_ar.m, FAr := m_ar.F, bAr := b_ar, mDp := m_dp.m, FDp := m_dp.F, bDp := b_dp, ce := { m := m_ce.m, F := m_ce.F, b := b_ce }, dp := DP }
  have Z : ∀ base : Heap, TxtSc l.prog w K mg base CC CH fC f_ad f_sn d_c d_ad d_sn := fun base => { gC := PySem.W.mg_of X G hc.g, M := hc.M, GI := ok_cinit hc.F C' HP TA TC, bI := b_c, mAd := m_ad.m, GA := ok_adv m_ad.F C' TA AD, bAd := b_ad, mSn := m_sn.m, GS := ok_scene m_sn.F C', bSn := b_sn, cl := hc.cl }
  have AS : TxtAs K mg f_tk f_ca d_tk d_ca := { gCt := g_tk, FCt := h_tk.F, bCt := b_tk, gCa := g_ca, FCa := h_ca.F, bCa := b_ca, last := ⟨t7, PySem.W.mg_of X G g7⟩ }
  have FC : TxtFc K mg f_so f_fc d_so d_fc := { gSo := g_so, FSo := h_so.F, bSo := b_so, gFc := g_fc, FFc := h_fc.F, bFc := b_fc, list := y_list, cy := ⟨_, _, g_cy, h_cy.F, b_cy⟩, et := ⟨_, _, g_et, h_et.F, b_et⟩ }
  have WT : TxtWt K mg f_sp f_wt f_cp d_sp d_wt d_cp := { gSp := g_sp, FSp := h_sp.F, bSp := b_sp, gWt := g_wt, FWt := h_wt.F, bWt := b_wt, gCp := g_cp, FCp := h_cp.F, bCp := b_cp, wtr := ⟨t8, PySem.W.mg_of X G g8⟩ }
  have CW : TxtCw K mg f_cb f_cw f_tk d_cb d_cw d_tk := { gCb := g_cb, FCb := h_cb.F, bCb := b_cb, gCw := g_cw, FCw := h_cw.F, bCw := b_cw, gCt := g_tk, FCt := h_tk.F, bCt := b_tk, divmod := y_divmod }
  let ecs : Nat → Addr := fun i => [c_0, c_1, c_2, c_3, c_4, c_5, c_6, c_7, C_i, c_9, c_10, c_11].getD i 0
  have NN : TxtN mg ecs CE := { gE := PySem.W.mg_of X G hE, n0 := PySem.W.mg_of X G k0.g, n1 := PySem.W.mg_of X G k1.g, n2 := PySem.W.mg_of X G k2.g, n3 := PySem.W.mg_of X G k3.g, n4 := PySem.W.mg_of X G k4.g, n5 := PySem.W.mg_of X G k5.g, n6 := PySem.W.mg_of X G k6.g, n7 := PySem.W.mg_of X G k7.g, n8 := PySem.W.mg_of X G k8.g, n9 := PySem.W.mg_of X G k9.g, n10 := PySem.W.mg_of X G k10.g, n11 := PySem.W.mg_of X G k11.g, vE := y_ValueError, isi := y_isinstance }
  have KT0 : ErrKit K ecs CE (ecs 0) 0 := by
    refine ⟨fun i hi => ?_, kit_ve s0.v, PySem.W.exm_ref x1 x2 x3 s0.e, s0.C⟩
    match i, hi with
    | 0, _ => exact kit_self
    | 1, _ => exact kit_no k1 m0_1 a0_1
    | 2, _ => exact kit_no k2 m0_2 a0_2
    | 3, _ => exact kit_no k3 m0_3 a0_3
    | 4, _ => exact kit_no k4 m0_4 a0_4
    | 5, _ => exact kit_no k5 m0_5 a0_5
    | 6, _ => exact kit_no k6 m0_6 a0_6
    | 7, _ => exact kit_no k7 m0_7 a0_7
    | 8, _ => exact kit_no k8 m0_8 a0_8
    | 9, _ => exact kit_no k9 m0_9 a0_9
    | 10, _ => exact kit_no k10 m0_10 a0_10
    | 11, _ => exact kit_no k11 m0_11 a0_11
  have KT1 : ErrKit K ecs CE (ecs 1) 1 := by
    refine ⟨fun i hi => ?_, kit_ve s1.v, PySem.W.exm_ref x1 x2 x3 s1.e, s1.C⟩
    match i, hi with
    | 0, _ => exact kit_no k0 m1_0 a1_0
    | 1, _ => exact kit_self
    | 2, _ => exact kit_no k2 m1_2 a1_2
    | 3, _ => exact kit_no k3 m1_3 a1_3
    | 4, _ => exact kit_no k4 m1_4 a1_4
    | 5, _ => exact kit_no k5 m1_5 a1_5
    | 6, _ => exact kit_no k6 m1_6 a1_6
    | 7, _ => exact kit_no k7 m1_7 a1_7
    | 8, _ => exact kit_no k8 m1_8 a1_8
    | 9, _ => exact kit_no k9 m1_9 a1_9
    | 10, _ => exact kit_no k10 m1_10 a1_10
    | 11, _ => exact kit_no k11 m1_11 a1_11
  have KT2 : ErrKit K ecs CE (ecs 2) 2 := by
    refine ⟨fun i hi => ?_, kit_ve s2.v, PySem.W.exm_ref x1 x2 x3 s2.e, s2.C⟩
    match i, hi with
    | 0, _ => exact kit_no k0 m2_0 a2_0
    | 1, _ => exact kit_no k1 m2_1 a2_1
    | 2, _ => exact kit_self
    | 3, _ => exact kit_no k3 m2_3 a2_3
    | 4, _ => exact kit_no k4 m2_4 a2_4
    | 5, _ => exact kit_no k5 m2_5 a2_5
    | 6, _ => exact kit_no k6 m2_6 a2_6
    | 7, _ => exact kit_no k7 m2_7 a2_7
    | 8, _ => exact kit_no k8 m2_8 a2_8
    | 9, _ => exact kit_no k9 m2_9 a2_9
    | 10, _ => exact kit_no k10 m2_10 a2_10
    | 11, _ => exact kit_no k11 m2_11 a2_11
  have ekit : ∀ j ∈ ([0, 1, 2] : List Nat), ErrKit K ecs CE (ecs j) j := by
    intro j hj
    simp only [List.mem_cons, List.not_mem_nil, or_false] at hj
    rcases hj with rfl | rfl | rfl
    · exact KT0
    · exact KT1
    · exact KT2
  have eten : ∀ j ∈ ([0, 1, 2] : List Nat), 10 ≤ j → XfC K (ecs j) ∧ PySem.W.findIn K (.ref (ecs j)) "place" = some none := by
    intro j hj h10
    simp only [List.mem_cons, List.not_mem_nil, or_false] at hj
    rcases hj with rfl | rfl | rfl
    · exact absurd h10 (by decide)
    · exact absurd h10 (by decide)
    · exact absurd h10 (by decide)
  have EK : ErK K ecs CE [0, 1, 2] := { lt := by decide, kit := ekit, x8 := xf8, x9 := xf9, nP := np, nI := ni, nL := nl, x10 := eten }
  have gH := PySem.W.mg_of X G hh.g
  have NE : TxtNe K mg f_ne f_tk f_ca f_cp d_ne d_tk d_ca d_cp := { gNe := g_ne, FNe := h_ne.F, bNe := b_ne, gCp := g_cp, FCp := h_cp.F, bCp := b_cp }
  have PN : TxtPn K mg f_pn d_pn := { FPn := h_pn.F, comb := PySem.W.mg_of X G zc, min := y_min, mostP := ⟨t10, PySem.W.mg_of X G g10⟩, rems := ⟨t5, PySem.W.mg_of X G g5⟩ }
  have EC0 : TxtEc K mg "InvalidTick" c_0 := { g := PySem.W.mg_of X G k0.g, x := xA0, k := kA0, b := bA0, t := tA0 }
  have EC1 : TxtEc K mg "UnknownPerson" c_1 := { g := PySem.W.mg_of X G k1.g, x := xA1, k := kA1, b := bA1, t := tA1 }
  have EC2 : TxtEc K mg "InvalidLimit" c_2 := { g := PySem.W.mg_of X G k2.g, x := xA2, k := kA2, b := bA2, t := tA2 }
  have GT : ∀ base : Heap, FnOk l.prog w K mg base CX0 3 f_tk d_tk ["tick"] spTk := fun base => ok_tk AS TF
  have FO : FunC K "law" "law" sLaw fa cL_lw (PySem.W.fnOf "law" "law" (defArgs sLaw) (defBody sLaw) (defScope sLaw) .none kVl_lw docl_lw pml_lw anl_lw (.ref cL_lw) ctl_lw) := ⟨⟨_, _, _, _, _, _, _, _, rfl, ll_lw, lc_lw⟩⟩
  have U : ∀ base : Heap, LamX.TabB base mg cL_lw Pt_lw → Use l.prog w K mg base CH c_0 c_1 c_2 f_er cL_lw Pt_lw CE f_alr ppS f_pS d_er d_alr d_pS ecs := fun base TB' => {
    T := TA
    cRa := ⟨_, _, g_ra, h_ra.F.kp, b_ra, ok_random h_ra.F TA⟩
    cB := ⟨_, _, g_be, h_be.F.kp, b_be, ok_below h_be.F TA⟩
    cPa := ⟨_, _, g_pa, h_pa.F.kp, b_pa, ok_parts h_pa.F TA TB TD⟩
    cHo := ⟨_, _, g_hs, h_hs.F.kp, b_hs, ok_housef h_hs.F TA TC TF TI TH TL' hh.FH b_h hh.M gH⟩
    vW := ⟨_, _, g_wa, h_wa.F.kp, b_wa, ok_waiting h_wa.F AS TF (Z base) FC TA C'⟩
    vC := ⟨_, _, g_cw, h_cw.F.kp, b_cw, ok_cntw CW (GT base) WT (Z base) FC TA TF HP C'⟩
    xH := ⟨_, _, g_ah, h_ah.F.kp, b_ah, ok_askX h_ah.F scAtHome rfl rfl (.inl rfl) AS TF EC0⟩
    xW := ⟨_, _, g_wa, h_wa.F.kp, b_wa, ok_askX h_wa.F scWaiting rfl rfl (.inl rfl) AS TF EC0⟩
    xHo := ⟨_, _, g_hd, h_hd.F.kp, b_hd, ok_askX h_hd.F scHolders rfl rfl (.inl rfl) AS TF EC0⟩
    xHk := ⟨_, _, g_hk, h_hk.F.kp, b_hk, ok_askX h_hk.F scHook rfl rfl (.inl rfl) AS TF EC0⟩
    xO := ⟨_, _, g_io, h_io.F.kp, b_io, ok_askX h_io.F scIsOpen rfl rfl (.inl rfl) AS TF EC0⟩
    xN := ⟨_, _, g_ne, h_ne.F.kp, b_ne, ok_nextX NE AS TF HP C' TA EC1 EC0⟩
    xC := ⟨_, _, g_cw, h_cw.F.kp, b_cw, ok_cntwX CW WT AS TF HP C' TA EC1 EC0⟩
    xWt := ⟨_, _, g_wt, h_wt.F.kp, b_wt, ok_waitX WT TF HP C' TA EC1⟩
    xP := ⟨_, _, g_pn, h_pn.F.kp, b_pn, ok_planX PN TF EC2⟩
    gEv := ⟨_, _, g_ev, h_ev.F.kp, b_ev, gok_evX h_ev.F AS TF EC0⟩
    noS := noS, list := y_list, isi := y_isinstance, tuple := y_tuple
    N := NN, EK := EK, eCT := rfl, eCP := rfl, eCL := rfl
    gE := g_er, FE := h_er.F, bE := b_er
    gA := g_alr, FA := h_alr.F, bA := b_alr
    TB := TB'
    clH := hh.cl, poPs := p_pS.po, GPs := ok_persons HP C' TA, bPs := b_pS }

  refine ⟨PySem.W.fnOf "law" "law" (defArgs sLaw) (defBody sLaw) (defScope sLaw) .none kVl_lw docl_lw pml_lw anl_lw (.ref cL_lw) ctl_lw, [(cL_lw, Pt_lw)], spLaw K Pt_lw, fun p hp => ?_, fun p hp => ?_, fun p hp => ?_, fun s u => .of_eq rfl, fun H a ns hl _ hT hS => ?_, fun base hb hg hTB => ?_⟩
  · rw [List.mem_singleton.mp hp]; exact tabE_lw
  · rw [List.mem_singleton.mp hp]; exact nPx_lw
  · rw [List.mem_singleton.mp hp]; exact PySem.W.codeHd_of_K X hC_lw
  · exact ⟨a, ns, rfl, hS, hl, fun p hp => by rw [List.mem_singleton.mp hp]; exact LamX.TabS.nil (hT _ (List.mem_singleton.mpr rfl)), fun _ => rfl⟩
  · have TB_lw := hTB (cL_lw, Pt_lw) (by simp)
    exact ok_law FO (U base TB_lw)
end Dk

open PySem PySem.W PyProof.Rows
set_option Elab.async false
set_option maxRecDepth 100000 in
set_option maxHeartbeats 0 in
open_top hd for PySem.Challenge.rw_doorkeys_k09_invalid_ticks_and_persons

set_option Elab.async false
set_option linter.all false
open PySem PySem.W PyProof.Rows
set_option maxRecDepth 100000 in
set_option maxHeartbeats 0 in
theorem PySem.Challenge.cw_doorkeys_k09_invalid_ticks_and_persons_holds : PySem.Challenge.rw_doorkeys_k09_invalid_ticks_and_persons.Holds :=
  hd (by
  k_fill
  refine LamX.walk_ofTs (l := PySem.Challenge.rw_doorkeys_k09_invalid_ticks_and_persons) (n := 63) (k := 15) (x := "_law_script") (CX := fun _ => L2.CX0) rfl (by decide) rfl ⟨rfl, by decide, by decide⟩ (fun w h Y => PySem.W.km_in_of Y) ?F (fun _ _ _ _ _ z => z)
  case F =>
    intro w mg fa h Y KX G hmg
    refine' Dk.all_mk KX G hmg ?h_ii ?h_ib ?h_pe ?h_ct ?h_ck ?h_cc ?h_cr ?h_it ?h_ir ?h_as ?h_ho ?h_tk ?h_cp ?h_hl ?h_ca ?h_so ?h_fc ?h_cy ?h_et ?h_ev ?h_ah ?h_wa ?h_hd ?h_hk ?h_io ?h_wt ?h_sp ?h_cw ?h_cb ?h_ne ?h_sm ?h_ra ?h_be ?h_ta ?h_le ?h_pa ?h_hs ?h_pn ?h_er ?h_alr ?m_ad ?m_sn ?m_ar ?m_ce ?m_dp ?m_th ?m_tkk ?m_cl ?p_pP ?p_pS ?e_i ?np ?ni ?hh ?hc ?hE ?x1 ?x2 ?x3 ?k0 ?k1 ?k2 ?k3 ?k4 ?k5 ?k6 ?k7 ?k8 ?k9 ?k10 ?k11 ?s0 ?s1 ?s2 ?a0_1 ?m0_1 ?a0_2 ?m0_2 ?a0_3 ?m0_3 ?a0_4 ?m0_4 ?a0_5 ?m0_5 ?a0_6 ?m0_6 ?a0_7 ?m0_7 ?a0_8 ?m0_8 ?a0_9 ?m0_9 ?a0_10 ?m0_10 ?a0_11 ?m0_11 ?a1_0 ?m1_0 ?a1_2 ?m1_2 ?a1_3 ?m1_3 ?a1_4 ?m1_4 ?a1_5 ?m1_5 ?a1_6 ?m1_6 ?a1_7 ?m1_7 ?a1_8 ?m1_8 ?a1_9 ?m1_9 ?a1_10 ?m1_10 ?a1_11 ?m1_11 ?a2_0 ?m2_0 ?a2_1 ?m2_1 ?a2_3 ?m2_3 ?a2_4 ?m2_4 ?a2_5 ?m2_5 ?a2_6 ?m2_6 ?a2_7 ?m2_7 ?a2_8 ?m2_8 ?a2_9 ?m2_9 ?a2_10 ?m2_10 ?a2_11 ?m2_11 ?xf8 ?xf9 ?nl ?gl_lw ?ll_lw ?lc_lw ?kl_lw ?tabE_lw ?hC_lw ?nPx_lw ?c1 ?c3 ?c4 ?c5 ?c7 ?c8 ?c9 ?c10 ?c6 ?zl ?z_abs ?z_len ?z_range ?z_tuple ?z_sorted ?z_enumerate ?z_isinstance ?z_int ?z_bool ?z_str ?z_all ?z_list ?z_any ?z_ValueError ?z_min ?z_divmod ?zc ?noS ?xA0 ?kA0 ?bA0 ?tA0 ?xA1 ?kA1 ?bA1 ?tA1 ?xA2 ?kA2 ?bA2 ?tA2
    (case h_ii => refine' Dk.fnAt_mk ?a ?l ?c ?k; (case a => k_is); (case l => k_is); (case c => k_is); (case k => k_is))
    (case h_ib => refine' Dk.fnAt_mk ?a ?l ?c ?k; (case a => k_is); (case l => k_is); (case c => k_is); (case k => k_is))
    (case h_pe => refine' Dk.fnAt_mk ?a ?l ?c ?k; (case a => k_is); (case l => k_is); (case c => k_is); (case k => k_is))
    (case h_ct => refine' Dk.fnAt_mk ?a ?l ?c ?k; (case a => k_is); (case l => k_is); (case c => k_is); (case k => k_is))
    (case h_ck => refine' Dk.fnAt_mk ?a ?l ?c ?k; (case a => k_is); (case l => k_is); (case c => k_is); (case k => k_is))
    (case h_cc => refine' Dk.fnAt_mk ?a ?l ?c ?k; (case a => k_is); (case l => k_is); (case c => k_is); (case k => k_is))
    (case h_cr => refine' Dk.fnAt_mk ?a ?l ?c ?k; (case a => k_is); (case l => k_is); (case c => k_is); (case k => k_is))
    (case h_it => refine' Dk.fnAt_mk ?a ?l ?c ?k; (case a => k_is); (case l => k_is); (case c => k_is); (case k => k_is))
    (case h_ir => refine' Dk.fnAt_mk ?a ?l ?c ?k; (case a => k_is); (case l => k_is); (case c => k_is); (case k => k_is))
    (case h_as => refine' Dk.fnAt_mk ?a ?l ?c ?k; (case a => k_is); (case l => k_is); (case c => k_is); (case k => k_is))
    (case h_ho => refine' Dk.fnAt_mk ?a ?l ?c ?k; (case a => k_is); (case l => k_is); (case c => k_is); (case k => k_is))
    (case h_tk => refine' Dk.fnAt_mk ?a ?l ?c ?k; (case a => k_is); (case l => k_is); (case c => k_is); (case k => k_is))
    (case h_cp => refine' Dk.fnAt_mk ?a ?l ?c ?k; (case a => k_is); (case l => k_is); (case c => k_is); (case k => k_is))
    (case h_hl => refine' Dk.fnAt_mk ?a ?l ?c ?k; (case a => k_is); (case l => k_is); (case c => k_is); (case k => k_is))
    (case h_ca => refine' Dk.fnAt_mk ?a ?l ?c ?k; (case a => k_is); (case l => k_is); (case c => k_is); (case k => k_is))
    (case h_so => refine' Dk.fnAt_mk ?a ?l ?c ?k; (case a => k_is); (case l => k_is); (case c => k_is); (case k => k_is))
    (case h_fc => refine' Dk.fnAt_mk ?a ?l ?c ?k; (case a => k_is); (case l => k_is); (case c => k_is); (case k => k_is))
    (case h_cy => refine' Dk.fnAt_mk ?a ?l ?c ?k; (case a => k_is); (case l => k_is); (case c => k_is); (case k => k_is))
    (case h_et => refine' Dk.fnAt_mk ?a ?l ?c ?k; (case a => k_is); (case l => k_is); (case c => k_is); (case k => k_is))
    (case h_ev => refine' Dk.fnAt_mk ?a ?l ?c ?k; (case a => k_is); (case l => k_is); (case c => k_is); (case k => k_is))
    (case h_ah => refine' Dk.fnAt_mk ?a ?l ?c ?k; (case a => k_is); (case l => k_is); (case c => k_is); (case k => k_is))
    (case h_wa => refine' Dk.fnAt_mk ?a ?l ?c ?k; (case a => k_is); (case l => k_is); (case c => k_is); (case k => k_is))
    (case h_hd => refine' Dk.fnAt_mk ?a ?l ?c ?k; (case a => k_is); (case l => k_is); (case c => k_is); (case k => k_is))
    (case h_hk => refine' Dk.fnAt_mk ?a ?l ?c ?k; (case a => k_is); (case l => k_is); (case c => k_is); (case k => k_is))
    (case h_io => refine' Dk.fnAt_mk ?a ?l ?c ?k; (case a => k_is); (case l => k_is); (case c => k_is); (case k => k_is))
    (case h_wt => refine' Dk.fnAt_mk ?a ?l ?c ?k; (case a => k_is); (case l => k_is); (case c => k_is); (case k => k_is))
    (case h_sp => refine' Dk.fnAt_mk ?a ?l ?c ?k; (case a => k_is); (case l => k_is); (case c => k_is); (case k => k_is))
    (case h_cw => refine' Dk.fnAt_mk ?a ?l ?c ?k; (case a => k_is); (case l => k_is); (case c => k_is); (case k => k_is))
    (case h_cb => refine' Dk.fnAt_mk ?a ?l ?c ?k; (case a => k_is); (case l => k_is); (case c => k_is); (case k => k_is))
    (case h_ne => refine' Dk.fnAt_mk ?a ?l ?c ?k; (case a => k_is); (case l => k_is); (case c => k_is); (case k => k_is))
    (case h_sm => refine' Dk.fnAt_mk ?a ?l ?c ?k; (case a => k_is); (case l => k_is); (case c => k_is); (case k => k_is))
    (case h_ra => refine' Dk.fnAt_mk ?a ?l ?c ?k; (case a => k_is); (case l => k_is); (case c => k_is); (case k => k_is))
    (case h_be => refine' Dk.fnAt_mk ?a ?l ?c ?k; (case a => k_is); (case l => k_is); (case c => k_is); (case k => k_is))
    (case h_ta => refine' Dk.fnAt_mk ?a ?l ?c ?k; (case a => k_is); (case l => k_is); (case c => k_is); (case k => k_is))
    (case h_le => refine' Dk.fnAt_mk ?a ?l ?c ?k; (case a => k_is); (case l => k_is); (case c => k_is); (case k => k_is))
    (case h_pa => refine' Dk.fnAt_mk ?a ?l ?c ?k; (case a => k_is); (case l => k_is); (case c => k_is); (case k => k_is))
    (case h_hs => refine' Dk.fnAt_mk ?a ?l ?c ?k; (case a => k_is); (case l => k_is); (case c => k_is); (case k => k_is))
    (case h_pn => refine' Dk.fnAt_mk ?a ?l ?c ?k; (case a => k_is); (case l => k_is); (case c => k_is); (case k => k_is))
    (case h_er => refine' Dk.fnAt_mk ?a ?l ?c ?k; (case a => k_is); (case l => k_is); (case c => k_is); (case k => k_is))
    (case h_alr => refine' Dk.fnAt_mk ?a ?l ?c ?k; (case a => k_is); (case l => k_is); (case c => k_is); (case k => k_is))
    (case e_i => refine' Dk.errAt_mk ?a ?xL ?sa ?eC ?tC ?kC ?i ?t ?l ?c ?k; (case a => k_is); (case xL => k_is); (case sa => k_is); (case eC => k_is); (case tC => k_is); (case kC => k_is); (case i => k_is); (case t => k_is); (case l => k_is); (case c => k_is); (case k => k_is))
    (case np => k_is)
    (case ni => k_is)
    (case hh => refine' Dk.houAt_mk ?qg ?qpg ?qhd ?qpo ?qsa ?qn1 ?qn2 ?qn3 ?qn4 ?qmk ?qi ?qfn ?qkc ?qlH ?qcH ?qkH ?qlT; (case qg => k_is); (case qpg => k_is); (case qhd => k_is); (case qpo => k_is); (case qsa => k_is); (case qn1 => k_is); (case qn2 => k_is); (case qn3 => k_is); (case qn4 => k_is); (case qmk => k_is); (case qi => k_is); (case qfn => k_is); (case qkc => k_is); (case qlH => k_is); (case qcH => k_is); (case qkH => k_is); (case qlT => k_is))
    (case hc => refine' Dk.couAt_mk ?qg ?qpg ?qhd ?qpo ?qsa ?qn1 ?qn2 ?qn3 ?qn4 ?qn5 ?qn6 ?qn7 ?qmk ?qi ?qfn ?qkc ?ql ?qc ?qk; (case qg => k_is); (case qpg => k_is); (case qhd => k_is); (case qpo => k_is); (case qsa => k_is); (case qn1 => k_is); (case qn2 => k_is); (case qn3 => k_is); (case qn4 => k_is); (case qn5 => k_is); (case qn6 => k_is); (case qn7 => k_is); (case qmk => k_is); (case qi => k_is); (case qfn => k_is); (case qkc => k_is); (case ql => k_is); (case qc => k_is); (case qk => k_is))
    (case hE => k_is)
    (case x1 => k_is)
    (case x2 => k_is)
    (case x3 => k_is)
    (case k0 => refine' Dk.ClsAt.mk ?a ?b ?c; (case a => k_is); (case b => k_is); (case c => k_is))
    (case k1 => refine' Dk.ClsAt.mk ?a ?b ?c; (case a => k_is); (case b => k_is); (case c => k_is))
    (case k2 => refine' Dk.ClsAt.mk ?a ?b ?c; (case a => k_is); (case b => k_is); (case c => k_is))
    (case k3 => refine' Dk.ClsAt.mk ?a ?b ?c; (case a => k_is); (case b => k_is); (case c => k_is))
    (case k4 => refine' Dk.ClsAt.mk ?a ?b ?c; (case a => k_is); (case b => k_is); (case c => k_is))
    (case k5 => refine' Dk.ClsAt.mk ?a ?b ?c; (case a => k_is); (case b => k_is); (case c => k_is))
    (case k6 => refine' Dk.ClsAt.mk ?a ?b ?c; (case a => k_is); (case b => k_is); (case c => k_is))
    (case k7 => refine' Dk.ClsAt.mk ?a ?b ?c; (case a => k_is); (case b => k_is); (case c => k_is))
    (case k8 => refine' Dk.ClsAt.mk ?a ?b ?c; (case a => k_is); (case b => k_is); (case c => k_is))
    (case k9 => refine' Dk.ClsAt.mk ?a ?b ?c; (case a => k_is); (case b => k_is); (case c => k_is))
    (case k10 => refine' Dk.ClsAt.mk ?a ?b ?c; (case a => k_is); (case b => k_is); (case c => k_is))
    (case k11 => refine' Dk.ClsAt.mk ?a ?b ?c; (case a => k_is); (case b => k_is); (case c => k_is))
    (case gl_lw => k_is)
    (case ll_lw => k_is)
    (case lc_lw => k_is)
    (case kl_lw => k_is)
    (case tabE_lw => exact PySem.W.km_tabs_of Y _ (List.mem_singleton.mpr rfl))
    (case hC_lw => first | k_is | exact rfl)
    (case nPx_lw => first | k_is | exact rfl)
    (case c1 => refine' Dk.tupAt_mk ?a ?b ?z ?v; (case a => k_is); (case b => k_is); (case z => decide); (case v => repeat (first | exact .nil | refine .cons rfl ?_ | refine .cons ⟨_, rfl⟩ ?_)))
    (case c3 => refine' Dk.intAt_mk ?a; (case a => k_is))
    (case c4 => refine' Dk.intAt_mk ?a; (case a => k_is))
    (case c5 => refine' Dk.intAt_mk ?a; (case a => k_is))
    (case c7 => refine' Dk.intAt_mk ?a; (case a => k_is))
    (case c8 => refine' Dk.intAt_mk ?a; (case a => k_is))
    (case c9 => refine' Dk.intAt_mk ?a; (case a => k_is))
    (case c10 => refine' Dk.intAt_mk ?a; (case a => k_is))
    (case c6 => refine' Dk.strAt_mk ?a; (case a => k_is))
    (case zl => k_is)
    (case z_abs => k_is)
    (case z_len => k_is)
    (case z_range => k_is)
    (case z_tuple => k_is)
    (case z_sorted => k_is)
    (case z_enumerate => k_is)
    (case z_isinstance => k_is)
    (case z_int => k_is)
    (case z_bool => k_is)
    (case z_str => k_is)
    (case z_all => k_is)
    (case z_list => k_is)
    (case z_any => k_is)
    (case z_ValueError => k_is)
    (case z_min => k_is)
    (case z_divmod => k_is)
    (case zc => k_is)
    (case noS => k_is)
    (case xA0 => k_exc)
    (case kA0 => k_is)
    (case bA0 => k_is)
    (case tA0 => k_is)
    (case xA1 => k_exc)
    (case kA1 => k_is)
    (case bA1 => k_is)
    (case tA1 => k_is)
    (case xA2 => k_exc)
    (case kA2 => k_is)
    (case bA2 => k_is)
    (case tA2 => k_is)
    (case m_ad => refine' Dk.metAt_mk ?a ?n ?l ?c ?k; (case a => k_is); (case n => k_is); (case l => k_is); (case c => k_is); (case k => k_is))
    (case m_sn => refine' Dk.metAt_mk ?a ?n ?l ?c ?k; (case a => k_is); (case n => k_is); (case l => k_is); (case c => k_is); (case k => k_is))
    (case m_ar => refine' Dk.metAt_mk ?a ?n ?l ?c ?k; (case a => k_is); (case n => k_is); (case l => k_is); (case c => k_is); (case k => k_is))
    (case m_ce => refine' Dk.metAt_mk ?a ?n ?l ?c ?k; (case a => k_is); (case n => k_is); (case l => k_is); (case c => k_is); (case k => k_is))
    (case m_dp => refine' Dk.metAt_mk ?a ?n ?l ?c ?k; (case a => k_is); (case n => k_is); (case l => k_is); (case c => k_is); (case k => k_is))
    (case m_th => refine' Dk.metAt_mk ?a ?n ?l ?c ?k; (case a => k_is); (case n => k_is); (case l => k_is); (case c => k_is); (case k => k_is))
    (case m_tkk => refine' Dk.metAt_mk ?a ?n ?l ?c ?k; (case a => k_is); (case n => k_is); (case l => k_is); (case c => k_is); (case k => k_is))
    (case m_cl => refine' Dk.metAt_mk ?a ?n ?l ?c ?k; (case a => k_is); (case n => k_is); (case l => k_is); (case c => k_is); (case k => k_is))
    (case p_pP => refine' Dk.prpAt_mk ?a ?g ?t ?r ?l ?c ?k; (case a => k_is); (case g => k_is); (case t => k_is); (case r => k_is); (case l => k_is); (case c => k_is); (case k => k_is))
    (case p_pS => refine' Dk.prpAt_mk ?a ?g ?t ?r ?l ?c ?k; (case a => k_is); (case g => k_is); (case t => k_is); (case r => k_is); (case l => k_is); (case c => k_is); (case k => k_is))
    (case s0 => refine' Dk.subEx_mk ?qv ?qe ?qhg ?qhk ?qhs ?qhd ?qha ?qhn ?qht ?qhm; (case qv => k_is); (case qe => k_is); (case qhg => k_is); (case qhk => k_is); (case qhs => k_is); (case qhd => k_is); (case qha => k_is); (case qhn => k_is); (case qht => k_is); (case qhm => k_is))
    (case s1 => refine' Dk.subEx_mk ?qv ?qe ?qhg ?qhk ?qhs ?qhd ?qha ?qhn ?qht ?qhm; (case qv => k_is); (case qe => k_is); (case qhg => k_is); (case qhk => k_is); (case qhs => k_is); (case qhd => k_is); (case qha => k_is); (case qhn => k_is); (case qht => k_is); (case qhm => k_is))
    (case s2 => refine' Dk.subEx_mk ?qv ?qe ?qhg ?qhk ?qhs ?qhd ?qha ?qhn ?qht ?qhm; (case qv => k_is); (case qe => k_is); (case qhg => k_is); (case qhk => k_is); (case qhs => k_is); (case qhd => k_is); (case qha => k_is); (case qhn => k_is); (case qht => k_is); (case qhm => k_is))
    (case a0_1 => k_is)
    (case m0_1 => decide)
    (case a0_2 => k_is)
    (case m0_2 => decide)
    (case a0_3 => k_is)
    (case m0_3 => decide)
    (case a0_4 => k_is)
    (case m0_4 => decide)
    (case a0_5 => k_is)
    (case m0_5 => decide)
    (case a0_6 => k_is)
    (case m0_6 => decide)
    (case a0_7 => k_is)
    (case m0_7 => decide)
    (case a0_8 => k_is)
    (case m0_8 => decide)
    (case a0_9 => k_is)
    (case m0_9 => decide)
    (case a0_10 => k_is)
    (case m0_10 => decide)
    (case a0_11 => k_is)
    (case m0_11 => decide)
    (case a1_0 => k_is)
    (case m1_0 => decide)
    (case a1_2 => k_is)
    (case m1_2 => decide)
    (case a1_3 => k_is)
    (case m1_3 => decide)
    (case a1_4 => k_is)
    (case m1_4 => decide)
    (case a1_5 => k_is)
    (case m1_5 => decide)
    (case a1_6 => k_is)
    (case m1_6 => decide)
    (case a1_7 => k_is)
    (case m1_7 => decide)
    (case a1_8 => k_is)
    (case m1_8 => decide)
    (case a1_9 => k_is)
    (case m1_9 => decide)
    (case a1_10 => k_is)
    (case m1_10 => decide)
    (case a1_11 => k_is)
    (case m1_11 => decide)
    (case a2_0 => k_is)
    (case m2_0 => decide)
    (case a2_1 => k_is)
    (case m2_1 => decide)
    (case a2_3 => k_is)
    (case m2_3 => decide)
    (case a2_4 => k_is)
    (case m2_4 => decide)
    (case a2_5 => k_is)
    (case m2_5 => decide)
    (case a2_6 => k_is)
    (case m2_6 => decide)
    (case a2_7 => k_is)
    (case m2_7 => decide)
    (case a2_8 => k_is)
    (case m2_8 => decide)
    (case a2_9 => k_is)
    (case m2_9 => decide)
    (case a2_10 => k_is)
    (case m2_10 => decide)
    (case a2_11 => k_is)
    (case m2_11 => decide)
    (case xf8 => refine' L2.XfC.mk ?a ?b ?c ?d; (case a => k_is); (case b => k_is); (case c => k_is); (case d => k_is))
    (case xf9 => refine' L2.XfC.mk ?a ?b ?c ?d; (case a => k_is); (case b => k_is); (case c => k_is); (case d => k_is))
    (case nl => k_is)
    )
