import PyProof.Rows.All
import Wide.All
import OpenK.AllK
import Wide.FinOn
import HandS.Base
import HandS.Call
import HandS.List
import HandS.Comp
import HandS.Dict
import HandS.Iter
import HandS.Text
import HandS.More
import HandS.Ends
import HandS.Words
import HandS.Defaults
import HandS.Gcd
import KE.KMathG
import HandS.Deep
import HandS.SortRule
import HandS.Walk
import KE.GoesEnum
import HandS.IsInst
import HandS.WordsExc
import HandS.ExcInit
import HandS.ForMost
import HandS.ForExc
import KE.KDictKeyed
import PyProof.Rows.TupTab
import HandS.SortInts
import HandS.Star
import HandS.Property
import HandS.Conv
import HandS.GenBody
import HandS.GenYield
import HandS.GenCall
import HandS.GenList
import HandS.Style
import HandS.NoneIn
import HandS.Lambda
import HandS.IterVal
import HandS.Codes
import HandS.ExcIs
import HandS.ExcField
import HandS.SetFor
import KE.KRevSl
import KE.DataCmp
import KE.KAsSuite
import PyProof.EnumMake
import PyProof.EnumFor
import HandS.TupAny
import KE.KNestM
import HandS.EndOwn
import PySem.Challenge.RW_doorkeys_k10_first_differences
set_option Elab.async false
set_option linter.all false
set_option maxRecDepth 100000
set_option maxHeartbeats 4000000
namespace Dk
open PySem PySem.Spec PyProof.Rows L2
/-! ### the text by places -/
def top (i : Nat) : Stmt := PySem.Challenge.pw_doorkeys_k10_first_differences.main.body.getD i (.Pass ⟨0, 0, 0, 0⟩)
abbrev sIsInt : Stmt := top 17
abbrev sIsBelow : Stmt := top 18
abbrev sHomeL : Stmt := top 28
abbrev sPeriod : Stmt := top 29
abbrev sChkTables : Stmt := top 30
abbrev sChkKeys : Stmt := top 31
abbrev sChkCareful : Stmt := top 32
abbrev sChkRem : Stmt := top 33
abbrev sIsTable : Stmt := top 34
abbrev sIsRem : Stmt := top 35
abbrev sAsc : Stmt := top 36
abbrev sHasOnly : Stmt := top 37
abbrev sFindC : Stmt := top 50
abbrev sCyc : Stmt := top 51
abbrev sScenes : Stmt := top 52
abbrev sRandom : Stmt := top 60
abbrev sBelow : Stmt := top 61
abbrev sTable : Stmt := top 62
abbrev sLength : Stmt := top 63
abbrev sParts : Stmt := top 64
abbrev sHouseF : Stmt := top 65
abbrev sEqual : Stmt := top 71
abbrev sLeave : Stmt := top 67
abbrev sTickF : Stmt := top 68
abbrev sCycle : Stmt := top 69
abbrev sLaw : Stmt := top 73
abbrev sFirstE : Stmt := top 57
abbrev sIsGroup : Stmt := top 58
abbrev sFirstD : Stmt := top 54
abbrev sIsPair : Stmt := top 55
abbrev sCntT : Stmt := top 56
abbrev sLawAt : Stmt := top 70
abbrev sErrOf : Stmt := top 66
abbrev sChecks : Stmt := top 72
abbrev sSplitT : Stmt := top 38
abbrev sAreArgs : Stmt := top 39
abbrev sIsTW : Stmt := top 40
abbrev sIsNW : Stmt := top 41
abbrev sIsRW : Stmt := top 42
abbrev sReadNs : Stmt := top 43
abbrev sReadRs : Stmt := top 44
abbrev sKeysL : Stmt := top 45
abbrev sCarL : Stmt := top 46
abbrev sRemL : Stmt := top 47
abbrev sInit : Stmt := inClass (top 27) 0
abbrev sPersonsP : Stmt := inClass (top 27) 1
abbrev sPeriodP : Stmt := inClass (top 27) 2
abbrev sText : Stmt := inClass (top 27) 3
abbrev sParse : Stmt := inClass (top 27) 4
abbrev sWantsH : Stmt := inClass (top 27) 5
abbrev sCInit : Stmt := inClass (top 49) 0
abbrev sScene : Stmt := inClass (top 49) 1
abbrev sAdv : Stmt := inClass (top 49) 2
abbrev sArrive : Stmt := inClass (top 49) 3
abbrev sCanE : Stmt := inClass (top 49) 4
abbrev sDepart : Stmt := inClass (top 49) 5
abbrev sThinks : Stmt := inClass (top 49) 6
abbrev sTake : Stmt := inClass (top 49) 7
abbrev sClose : Stmt := inClass (top 49) 8
abbrev sWants : Stmt := inClass (top 27) 5

/-! ### heaps -/
theorem sSqT {K : PySem.W.Frag} {H H' : Hp} {a : Addr} {xs : List V} (e : Same H H') (h : SqT K H a xs) : SqT K H' a xs := by
  rcases h with (h | ⟨o, h⟩) | h
  · exact .inl (.inl (e _ _ h))
  · exact .inl (.inr ⟨o, e _ _ h⟩)
  · exact .inr h
theorem same_upd {H : Hp} {p : Addr} {o : HO} (h : H p = none) : Same H (upd H p o) := fun b u e => by
  rw [upd_ne (ne_of_none e h)]; exact e
/-- all that was tracked is as it was, but at l -/
def Kp (l : Addr) (H H' : Hp) : Prop := ∀ b o, b ≠ l → H b = some o → H' b = some o
theorem sKp {l : Addr} {H H' : Hp} (s : Same H H') : Kp l H H' := fun b o _ e => s b o e
theorem Kp.refl {l : Addr} {H : Hp} : Kp l H H := fun _ _ _ e => e
theorem Kp.trans {l : Addr} {H H1 H2 : Hp} (a : Kp l H H1) (b : Kp l H1 H2) : Kp l H H2 := fun c o n e => b c o n (a c o n e)
theorem kp_upd {l : Addr} {H : Hp} {o : HO} : Kp l H (upd H l o) := fun b u n e => by rw [upd_ne n]; exact e
theorem Kp.same {l : Addr} {H H' : Hp} (k : Kp l H H') (h : ∀ o, H l = some o → H' l = some o) : Same H H' := fun b o e => by
  by_cases n : b = l
  · subst n; exact h o e
  · exact k b o n e
theorem Kp.sqT {K : PySem.W.Frag} {l : Addr} {xs : List V} {ys : List V} {H H' : Hp} {a : Addr} (k : Kp l H H') (hl : H l = some (.lst ys)) (h : SqT K H a xs) : SqT K H' a xs := by
  rcases h with (h | ⟨o, h⟩) | h
  · exact .inl (.inl (k _ _ (fun e => by rw [e, hl] at h; cases h) h))
  · exact .inl (.inr ⟨o, k _ _ (fun e => by rw [e, hl] at h; cases h) h⟩)
  · exact .inr h
/-- a list other than l stays -/
theorem Kp.lst {l : Addr} {xs : List V} {H H' : Hp} {a : Addr} (k : Kp l H H') (n : a ≠ l) (h : H a = some (.lst xs)) : H' a = some (.lst xs) := k _ _ n h

theorem take_more {α : Type} {l : List α} {i : Nat} {x : α} (h : l[i]? = some x) : l.take (i + 1) = l.take i ++ [x] := by
  rw [List.take_add_one, h]
  rfl
theorem map_at {α : Type} {f : α → V} {l : List α} {i : Nat} {y : V} (h : (l.map f)[i]? = some y) : ∃ z, l[i]? = some z ∧ y = f z := by
  rw [List.getElem?_map] at h
  cases e : l[i]? with
  | none => rw [e] at h; cases h
  | some z => rw [e] at h; exact ⟨z, rfl, (Option.some.inj h).symm⟩

/-! ### the law's source of numbers -/
/-- what is always true of the source's list -/
structure Good (st : List Int) : Prop where
  ex : ∃ s0 s1 r, st = s0 :: s1 :: r ∧ 0 ≤ s0 ∧ s0 < 2147483647 ∧ 0 ≤ s1 ∧ (∀ z ∈ r, (0 : Int) ≤ z) ∧ r.length ≤ 63

def spRandom (K : PySem.W.Frag) : Sp := fun vs H Q _ => ∃ (a : Addr) (ns : List Int) (salt : Int), vs = [.ref a, .int salt] ∧ SqL K H a (ns.map V.int) ∧ ns.length ≤ 63 ∧ 0 ≤ salt ∧ salt < 2147483647 ∧
  ∀ (H' : Hp) (p : Addr) (st : List Int), Same H H' → H p = none → H' p = some (.lst (st.map V.int)) → Good st → Q (.ref p) H'
structure TxtA (mg : Str → Option Value) : Prop where
  abs : mg "abs" = none
  len : mg "len" = none
  range : mg "range" = none

section
variable {P : Program} {w : World} {K : PySem.W.Frag} {mg : Str → Option Value} {base : Heap}
theorem scRandom : FnScope ["_law_script", "_law_salt", "_law_seed", "_law_cell"] ["_law_script", "_law_salt"] (defScope sRandom) := ⟨rfl, rfl, rfl, by decide +kernel, rfl, by decide +kernel, by decide +kernel⟩
theorem ok_random {f : Addr} {fd : FuncData} (F : Fun K "_law_random" "_law_random" sRandom f fd) (T : TxtA mg) : FnOk P w K mg base CX0 1 f fd ["_law_script", "_law_salt"] (spRandom K) := by
  refine F.ok scRandom (fun vs H Q E h => ?_) (fun cdv A outer s H vs Q E hr h => ?_)
  · obtain ⟨a, ns, salt, rfl, _⟩ := h
    rfl
  · obtain ⟨a, ns, salt, rfl, hS, hlen, hs0, hs1, k⟩ := h
    refine ⟨_, pss_cons (ps_set (i := 2) scRandom.nd rfl (.inl rfl) (pv 1))
      (pss_cons (ps_for PassesOwn.never rfl (pi_list (pv 0)) (pg_name (i := 3) scRandom.nd rfl (.inl rfl))
        (pss_one (ps_set (i := 2) scRandom.nd rfl (.inl rfl) (pe_op op_mod (pe_op op_add (pe_op op_mul (pv 2) pe_int) (pe_callB call_abs (by rfl) T.abs (by decide +kernel) (pa_cons (pv 3) pa_nil))) pe_int))))
      (pss_one (ps_ret (pe_op op_cat (pe_lst (pa_cons (pv 2) (pa_cons pe_int pa_nil)))
        (pe_lc (own := [("_law_cell", 3)]) (g := gName 3) (by rfl) scRandom.nd (pi_list (pv 0)) (blkOk_by (N := ["_law_script", "_law_salt", "_law_seed", "_law_cell"]) (sc := defScope sRandom) (by decide +kernel))
          (fun _ _ _ _ _ => pg_name (i := 3) scRandom.nd rfl (Or.inl rfl)) (fun _ _ _ _ _ => pts_one (pt_cmpR op_ge (pv 3) (pe_op op_pow pe_int pe_int) (nomark _))) (fun _ _ _ _ _ => pv 3)))))), ?_⟩
    refine ⟨_, rfl, ?_⟩
    refine ⟨_, rfl, a, rfl, ⟨_, hS⟩, for_list (K := K) (a := a) (xs := ns.map V.int) (fun i σ H' => ∃ (z : Int) (v : Option V), σ = [some (.ref a), some (.int salt), some (.int z), v] ∧ H' = H ∧ 0 ≤ z ∧ z < 2147483647)
      ⟨salt, none, rfl, rfl, hs0, hs1⟩ (fun i σ H' _ ⟨_, _, _, e, _⟩ => by rw [e]; exact hS) ?_ ?_⟩
    · rintro i y σ H' hi ⟨z, v, rfl, rfl, h0, h1⟩
      obtain ⟨u, hu, rfl⟩ := map_at hi
      refine ⟨_, rfl, _, _, rfl, rfl, .inl ⟨by omega, by omega⟩, _, rfl, _, rfl, _, _, rfl, rfl, _, _, rfl, rfl, (by show (0 : Int) < 2147483647; decide), ?_⟩
      exact ⟨_, _, rfl, rfl, Int.emod_nonneg _ (by decide), Int.emod_lt_of_pos _ (by decide)⟩
    · rintro σ H' ⟨z, v, rfl, rfl, h0, h1⟩
      refine ⟨_, rfl, (by show 2 ≤ sizeLine; decide), fun l hl => ?_⟩
      have s1 : Same H' (upd H' l (.lst [.int z, .int 0])) := same_upd hl
      refine ⟨_, rfl, a, rfl, ⟨_, s1.seq hS⟩, fun D hD => lc_list (K := K) (a := a) (xs := ns.map V.int)
        (fun i H2 => ∃ r : List Int, Same (upd H' l (.lst [.int z, .int 0])) H2 ∧ H2 D = some (.lst (r.map V.int)) ∧ r.length ≤ i ∧ ∀ x : Int, x ∈ r → 0 ≤ x)
        ⟨[], same_upd hD, upd_same, Nat.le_refl _, fun x hx => by cases hx⟩ (fun i H2 _ ⟨_, e, _⟩ => e.seq (s1.seq hS)) ?_ ?_⟩
      · rintro i y H2 hi ⟨r, e2, eD, hr1, hr2⟩
        obtain ⟨u, hu, rfl⟩ := map_at hi
        have hil : i < ns.length := (List.getElem?_eq_some_iff.mp hu).1
        refine ⟨rfl, _, rfl, _, _, rfl, rfl, ?_, _, _, rfl, rfl, _, rfl, ite2 (fun c => ?_) (fun c => ?_)⟩
        · exact ⟨by decide, by decide, by decide⟩
        · refine ⟨_, rfl, _, eD, ?_, r ++ [u], fun b o eb => ?_, ?_, ?_, fun x hx => ?_⟩
          · rw [List.length_map]; exact Nat.lt_of_le_of_lt (by omega : r.length ≤ 1000) (by decide)
          · have nb : b ≠ D := ne_of_none eb hD
            rw [upd_ne nb]; exact e2 _ _ eb
          · rw [upd_same]; simp
          · rw [List.length_append, List.length_singleton]; omega
          · rcases List.mem_append.mp hx with hx | hx
            · exact hr2 x hx
            · rw [List.mem_singleton] at hx
              subst hx
              have c' : (10 : Int) ^ (18 : Int).toNat ≤ x := of_decide_eq_true c
              exact Int.le_trans (by decide) c'
        · exact ⟨r, e2, eD, by omega, hr2⟩
      · rintro H2 ⟨r, e2, eD, hr1, hr2⟩
        rw [List.length_map] at hr1
        have el : H2 l = some (.lst [.int z, .int 0]) := e2 _ _ upd_same
        refine ⟨_, _, _, _, rfl, rfl, el, eD, ?_, fun p hp => ?_⟩
        · simp only [List.length_cons, List.length_nil, List.length_map]
          exact Nat.le_trans (by omega : _ ≤ 1000) (by decide)
        · have s2 : Same H' H2 := s1.trans e2
          refine k _ p (z :: 0 :: r) (s2.trans (same_upd hp)) (s2.free hp) (by rw [upd_same]; rfl) ⟨⟨z, 0, r, rfl, h0, h1, Int.le_refl _, hr2, by omega⟩⟩
end
end Dk

set_option Elab.async false
set_option linter.all false
set_option maxRecDepth 100000
set_option maxHeartbeats 4000000
namespace Dk
open PySem PySem.Spec PyProof.Rows L2
theorem at0 {a : V} {l : List V} : atI (a :: l) 0 = some a := atI_nat (j := 0) rfl
theorem at1 {a b : V} {l : List V} : atI (a :: b :: l) 1 = some b := atI_nat (j := 1) rfl
theorem at2 {a b c : V} {l : List V} : atI (a :: b :: c :: l) 2 = some c := atI_nat (j := 2) rfl
theorem at3 {a b c e : V} {l : List V} : atI (a :: b :: c :: e :: l) 3 = some e := atI_nat (j := 3) rfl
theorem ix0 {a : V} {l : List V} : ixN (a :: l).length 0 = some 0 := by
  unfold ixN; rw [if_pos (by decide), if_pos (by rw [List.length_cons]; omega)]; rfl
theorem ix1 {a b : V} {l : List V} : ixN (a :: b :: l).length 1 = some 1 := by
  unfold ixN; rw [if_pos (by decide), if_pos (by rw [List.length_cons, List.length_cons]; omega)]; rfl
theorem sq2 {a b c : V} {l : List V} : seqIndex? 2 (a :: b :: c :: l).length = some 2 := (ixN_seq (by
  unfold ixN; rw [if_pos (by decide), if_pos (by rw [List.length_cons, List.length_cons, List.length_cons]; omega)]; rfl)).1
def spBelow : Sp := fun vs H Q _ => ∃ (d : Addr) (lim : Int) (st : List Int), vs = [.ref d, .int lim] ∧ H d = some (.lst (st.map V.int)) ∧ Good st ∧ 1 ≤ lim ∧ lim < 1073741824 ∧
  ∀ (H' : Hp) (st' : List Int) (r : Int), Kp d H H' → H' d = some (.lst (st'.map V.int)) → Good st' → 0 ≤ r → r < lim → Q (.int r) H'
section
variable {P : Program} {w : World} {K : PySem.W.Frag} {mg : Str → Option Value} {base : Heap}
theorem scBelow : FnScope ["_law_d", "_law_limit", "_law_result"] ["_law_d", "_law_limit"] (defScope sBelow) := ⟨rfl, rfl, rfl, by decide +kernel, rfl, by decide +kernel, by decide +kernel⟩
theorem ok_below {f : Addr} {fd : FuncData} (F : Fun K "_law_below" "_law_below" sBelow f fd) (T : TxtA mg) : FnOk P w K mg base CX0 1 f fd ["_law_d", "_law_limit"] spBelow := by
  refine F.ok scBelow (fun vs H Q E h => ?_) (fun cdv A outer s H vs Q E hr h => ?_)
  · obtain ⟨d, lim, st, rfl, _⟩ := h
    rfl
  · obtain ⟨d, lim, st, rfl, hd, ⟨s0, s1, r, rfl, h0, h1, h2, h3, h4⟩, hl1, hl2, k⟩ := h
    refine ⟨_, pss_cons (ps_if (PW.pt (pw_and (pt_cmpR op_eq (pe_ix ix_list (pv 0) pe_int (fun _ _ => rfl)) pe_int (nomark _)) (pw_and1 (pt_cmpR op_gt (pe_callB call_len_seq (by rfl) T.len PySem.boot_len (pa_cons (pv 0) pa_nil)) pe_int (nomark _)))))
        (pss_one (ps_asg (pe_bm PySem.F.plainAttrs_list PySem.F.slot_list_pop PySem.F.type_list_pop mt_popAt (pv 0) (pa_cons pe_int pa_nil)) (pg_sub (pv 0) pe_int set_list))) pss_nil)
      (pss_cons (ps_if (pt_cmpR op_gt (pe_ix ix_list (pv 0) pe_int (fun _ _ => rfl)) pe_int (nomark _))
        (pss_cons (ps_set (i := 2) scBelow.nd rfl (.inl rfl) (pe_op op_modN (pe_ix ix_list (pv 0) pe_int (fun _ _ => rfl)) (pv 1)))
        (pss_cons (ps_asg (pe_op op_fdivN (pe_ix ix_list (pv 0) pe_int (fun _ _ => rfl)) (pv 1)) (pg_sub (pv 0) pe_int set_list))
        (pss_one (ps_ret (pv 2))))) pss_nil)
      (pss_cons (ps_asg (pe_op op_mod (pe_op op_add (pe_op op_mul (pe_ix ix_list (pv 0) pe_int (fun _ _ => rfl)) pe_int) pe_int) pe_int) (pg_sub (pv 0) pe_int set_list))
      (pss_one (ps_ret (pe_op op_modN (pe_op op_fdiv (pe_ix ix_list (pv 0) pe_int (fun _ _ => rfl)) pe_int) (pv 1)))))), ?_⟩
    have hd' : H d = some (.lst (V.int s0 :: V.int s1 :: r.map V.int)) := hd
    refine ⟨_, rfl, d, _, 1, V.int s1, rfl, rfl, SqL.of hd', at1, rfl, _, rfl, ite2 (fun c => ?_) (fun c => ?_)⟩
    · refine ⟨_, rfl, d, _, rfl, .inl (SqL.of hd'), _, _, rfl, rfl, _, rfl, ite2 (fun c2 => ?_) (fun c2 => ?_)⟩
      · cases r with
        | nil => exact absurd (of_decide_eq_true c2) (by simp)
        | cons r0 r =>
          refine ⟨_, rfl, .inl ⟨rfl, _, SqL.of hd'⟩, d, _, 2, 2, V.int r0, rfl, rfl, hd', (by decide), (by decide), sq2, rfl, ?_⟩
          refine ⟨_, rfl, d, _, _, 1, rfl, rfl, upd_same, ix1, ?_⟩
          generalize e : (upd (upd H d (HO.lst ((V.int s0 :: V.int s1 :: List.map V.int (r0 :: r)).eraseIdx 2))) d (HO.lst (((V.int s0 :: V.int s1 :: List.map V.int (r0 :: r)).eraseIdx 2).set 1 (V.int r0)))) = H1
          have kp1 : Kp d H H1 := by rw [← e]; exact kp_upd.trans kp_upd
          obtain ⟨t0, t1, r', hd1, g0, g1, g2, g3, g4⟩ : ∃ t0 t1 r', H1 d = some (.lst (V.int t0 :: V.int t1 :: r'.map V.int)) ∧ 0 ≤ t0 ∧ t0 < 2147483647 ∧ 0 ≤ t1 ∧ (∀ z ∈ r', (0 : Int) ≤ z) ∧ r'.length ≤ 63 :=
            ⟨s0, r0, r, by rw [← e, upd_same]; rfl, h0, h1, h3 _ (List.mem_cons_self ..), fun z hz => h3 z (List.mem_cons_of_mem _ hz), by rw [List.length_cons] at h4; omega⟩
          refine ⟨_, rfl, d, _, 1, V.int t1, rfl, rfl, SqL.of hd1, at1, _, _, rfl, rfl, _, rfl, ite2 (fun c3 => ?_) (fun c3 => ?_)⟩
          · have c3' : 0 < t1 := of_decide_eq_true c3
            refine ⟨_, rfl, d, _, 1, V.int t1, rfl, rfl, SqL.of hd1, at1, _, rfl, _, _, rfl, rfl, (by omega), ?_⟩
            refine ⟨_, rfl, d, _, 1, V.int t1, rfl, rfl, SqL.of hd1, at1, _, rfl, _, _, rfl, rfl, ⟨by omega, by omega⟩, _, rfl, d, _, _, 1, rfl, rfl, hd1, ix1, ?_⟩
            exact ⟨_, rfl, k _ (t0 :: t1.fdiv lim :: r') _ (kp1.trans kp_upd) upd_same ⟨⟨t0, _, r', rfl, g0, g1, Int.fdiv_nonneg g2 (by omega), g3, g4⟩⟩ (Int.fmod_nonneg_of_pos _ (by omega)) (Int.fmod_lt_of_pos _ (by omega))⟩
          · refine ⟨_, rfl, d, _, 0, V.int t0, rfl, rfl, SqL.of hd1, at0, _, _, rfl, rfl, .inl ⟨by omega, by omega⟩, _, _, rfl, rfl, _, _, rfl, rfl, (by show (0 : Int) < 2147483647; decide), _, rfl, d, _, _, 0, rfl, rfl, hd1, ix0, ?_⟩
            refine ⟨_, rfl, d, _, 0, V.int ((t0 * 48271 + 11) % 2147483647), rfl, rfl, SqL.of upd_same, at0, _, _, rfl, rfl, ⟨by decide, by decide⟩, _, rfl, _, _, rfl, rfl, (by omega), ?_⟩
            exact k _ ((t0 * 48271 + 11) % 2147483647 :: t1 :: r') _ (kp1.trans kp_upd) upd_same ⟨⟨_, _, r', rfl, Int.emod_nonneg _ (by decide), Int.emod_lt_of_pos _ (by decide), g2, g3, g4⟩⟩ (Int.fmod_nonneg_of_pos _ (by omega)) (Int.fmod_lt_of_pos _ (by omega))
      · have kp1 : Kp d H H := Kp.refl
        obtain ⟨t0, t1, r', hd1, g0, g1, g2, g3, g4⟩ : ∃ t0 t1 r', H d = some (.lst (V.int t0 :: V.int t1 :: r'.map V.int)) ∧ 0 ≤ t0 ∧ t0 < 2147483647 ∧ 0 ≤ t1 ∧ (∀ z ∈ r', (0 : Int) ≤ z) ∧ r'.length ≤ 63 :=
          ⟨s0, s1, r, hd', h0, h1, h2, h3, h4⟩
        refine ⟨_, rfl, d, _, 1, V.int t1, rfl, rfl, SqL.of hd1, at1, _, _, rfl, rfl, _, rfl, ite2 (fun c3 => ?_) (fun c3 => ?_)⟩
        · have c3' : 0 < t1 := of_decide_eq_true c3
          refine ⟨_, rfl, d, _, 1, V.int t1, rfl, rfl, SqL.of hd1, at1, _, rfl, _, _, rfl, rfl, (by omega), ?_⟩
          refine ⟨_, rfl, d, _, 1, V.int t1, rfl, rfl, SqL.of hd1, at1, _, rfl, _, _, rfl, rfl, ⟨by omega, by omega⟩, _, rfl, d, _, _, 1, rfl, rfl, hd1, ix1, ?_⟩
          exact ⟨_, rfl, k _ (t0 :: t1.fdiv lim :: r') _ (kp1.trans kp_upd) upd_same ⟨⟨t0, _, r', rfl, g0, g1, Int.fdiv_nonneg g2 (by omega), g3, g4⟩⟩ (Int.fmod_nonneg_of_pos _ (by omega)) (Int.fmod_lt_of_pos _ (by omega))⟩
        · refine ⟨_, rfl, d, _, 0, V.int t0, rfl, rfl, SqL.of hd1, at0, _, _, rfl, rfl, .inl ⟨by omega, by omega⟩, _, _, rfl, rfl, _, _, rfl, rfl, (by show (0 : Int) < 2147483647; decide), _, rfl, d, _, _, 0, rfl, rfl, hd1, ix0, ?_⟩
          refine ⟨_, rfl, d, _, 0, V.int ((t0 * 48271 + 11) % 2147483647), rfl, rfl, SqL.of upd_same, at0, _, _, rfl, rfl, ⟨by decide, by decide⟩, _, rfl, _, _, rfl, rfl, (by omega), ?_⟩
          exact k _ ((t0 * 48271 + 11) % 2147483647 :: t1 :: r') _ (kp1.trans kp_upd) upd_same ⟨⟨_, _, r', rfl, Int.emod_nonneg _ (by decide), Int.emod_lt_of_pos _ (by decide), g2, g3, g4⟩⟩ (Int.fmod_nonneg_of_pos _ (by omega)) (Int.fmod_lt_of_pos _ (by omega))
    · have kp1 : Kp d H H := Kp.refl
      obtain ⟨t0, t1, r', hd1, g0, g1, g2, g3, g4⟩ : ∃ t0 t1 r', H d = some (.lst (V.int t0 :: V.int t1 :: r'.map V.int)) ∧ 0 ≤ t0 ∧ t0 < 2147483647 ∧ 0 ≤ t1 ∧ (∀ z ∈ r', (0 : Int) ≤ z) ∧ r'.length ≤ 63 :=
        ⟨s0, s1, r, hd', h0, h1, h2, h3, h4⟩
      refine ⟨_, rfl, d, _, 1, V.int t1, rfl, rfl, SqL.of hd1, at1, _, _, rfl, rfl, _, rfl, ite2 (fun c3 => ?_) (fun c3 => ?_)⟩
      · have c3' : 0 < t1 := of_decide_eq_true c3
        refine ⟨_, rfl, d, _, 1, V.int t1, rfl, rfl, SqL.of hd1, at1, _, rfl, _, _, rfl, rfl, (by omega), ?_⟩
        refine ⟨_, rfl, d, _, 1, V.int t1, rfl, rfl, SqL.of hd1, at1, _, rfl, _, _, rfl, rfl, ⟨by omega, by omega⟩, _, rfl, d, _, _, 1, rfl, rfl, hd1, ix1, ?_⟩
        exact ⟨_, rfl, k _ (t0 :: t1.fdiv lim :: r') _ (kp1.trans kp_upd) upd_same ⟨⟨t0, _, r', rfl, g0, g1, Int.fdiv_nonneg g2 (by omega), g3, g4⟩⟩ (Int.fmod_nonneg_of_pos _ (by omega)) (Int.fmod_lt_of_pos _ (by omega))⟩
      · refine ⟨_, rfl, d, _, 0, V.int t0, rfl, rfl, SqL.of hd1, at0, _, _, rfl, rfl, .inl ⟨by omega, by omega⟩, _, _, rfl, rfl, _, _, rfl, rfl, (by show (0 : Int) < 2147483647; decide), _, rfl, d, _, _, 0, rfl, rfl, hd1, ix0, ?_⟩
        refine ⟨_, rfl, d, _, 0, V.int ((t0 * 48271 + 11) % 2147483647), rfl, rfl, SqL.of upd_same, at0, _, _, rfl, rfl, ⟨by decide, by decide⟩, _, rfl, _, _, rfl, rfl, (by omega), ?_⟩
        exact k _ ((t0 * 48271 + 11) % 2147483647 :: t1 :: r') _ (kp1.trans kp_upd) upd_same ⟨⟨_, _, r', rfl, Int.emod_nonneg _ (by decide), Int.emod_lt_of_pos _ (by decide), g2, g3, g4⟩⟩ (Int.fmod_nonneg_of_pos _ (by omega)) (Int.fmod_lt_of_pos _ (by omega))
end
end Dk

set_option Elab.async false
set_option linter.all false
set_option maxRecDepth 100000
set_option maxHeartbeats 4000000
namespace Dk
open PySem PySem.Spec PyProof.Rows L2 TL
theorem at_mem {L : List Int} {r : Int} (h0 : 0 ≤ r) (h1 : r < L.length) : ∃ z, z ∈ L ∧ atI (L.map V.int) r = some (.int z) := by
  obtain ⟨n, rfl⟩ := Int.eq_ofNat_of_zero_le h0
  have hn : n < L.length := by omega
  exact ⟨L[n], List.getElem_mem hn, atI_nat (by rw [List.getElem?_map, List.getElem?_eq_getElem hn]; rfl)⟩
theorem joinL_nil : ∀ ls : List (List Nat), joinL [] ls = ls.flatten
  | [] => rfl
  | [p] => by simp [joinL]
  | p :: q :: r => by
    show p ++ ([] ++ joinL [] (q :: r)) = _
    rw [List.nil_append, joinL_nil (q :: r)]
    rfl
def one (c : Nat) : Str := ⟨#[c]⟩
theorem tl_one (c : Nat) : tl (one c) = [c] := rfl
theorem tl_joined (cs : List Nat) : tl (Txt.join Str.empty (cs.map one)) = cs := by
  rw [join_eq, tl_join, show tl Str.empty = [] from rfl, joinL_nil, List.map_map]
  induction cs with
  | nil => rfl
  | cons c cs ih => show [c] ++ (List.map (tl ∘ one) cs).flatten = _; rw [ih]; rfl
theorem ones_sum (cs : List Nat) : ((cs.map one).map (·.length)).sum = cs.length := by
  induction cs with
  | nil => rfl
  | cons c cs ih => rw [List.map_cons, List.map_cons, List.sum_cons, ih, List.length_cons]; show 1 + _ = _; omega
/-- a timetable -/
structure IsTab (t : Str) : Prop where
  len : (tl t).length ∈ [1, 2, 3, 4, 6, 8, 12, 24]
  ho : ∀ c ∈ tl t, c = 104 ∨ c = 111
theorem IsTab.pos {t : Str} (h : IsTab t) : 1 ≤ (tl t).length ∧ (tl t).length ≤ 24 := by
  have := h.len
  simp only [List.mem_cons, List.not_mem_nil, or_false] at this
  omega
def spTable : Sp := fun vs H Q _ => ∃ (d : Addr) (st : List Int), vs = [.ref d] ∧ H d = some (.lst (st.map V.int)) ∧ Good st ∧
  ∀ (H' : Hp) (st' : List Int) (t : Str), Kp d H H' → H' d = some (.lst (st'.map V.int)) → Good st' → IsTab t → Q (.str t) H'
structure TxtB (K : PySem.W.Frag) (mg : Str → Option Value) (fB : Addr) (fdB : FuncData) : Prop where
  g : mg "_law_below" = some (.ref fB)
  F : Fun K "_law_below" "_law_below" sBelow fB fdB
  b : Binds K fdB ["_law_d", "_law_limit"] []
section
variable {P : Program} {w : World} {K : PySem.W.Frag} {mg : Str → Option Value} {base : Heap}
theorem scTable : FnScope ["_law_d", "_law_length_here", "_law_k"] ["_law_d"] (defScope sTable) := ⟨rfl, rfl, rfl, by decide +kernel, rfl, by decide +kernel, by decide +kernel⟩
theorem ok_table {f fB : Addr} {fd fdB : FuncData} (F : Fun K "_law_table" "_law_table" sTable f fd) (T : TxtA mg) (B : TxtB K mg fB fdB) : FnOk P w K mg base CX0 2 f fd ["_law_d"] spTable := by
  have GB : FnOk P w K mg base CX0 1 fB fdB ["_law_d", "_law_limit"] spBelow := ok_below B.F T
  refine F.ok scTable (fun vs H Q E h => ?_) (fun cdv A outer s H vs Q E hr h => ?_)
  · obtain ⟨d, st, rfl, _⟩ := h
    rfl
  · obtain ⟨d, st, rfl, hd, hg, k⟩ := h
    refine ⟨_, pss_cons (ps_set (i := 1) scTable.nd rfl (.inl rfl) (pe_ix ix_list (pe_lst (pa_cons pe_int (pa_cons pe_int (pa_cons pe_int (pa_cons pe_int (pa_cons pe_int (pa_cons pe_int (pa_cons pe_int (pa_cons pe_int (pa_cons pe_int pa_nil))))))))))
        (pe_call GB hr rfl B.g B.F.kp B.b .nil pass0 (pa_cons (pv 0) (pa_cons (pe_ix ix_list (pe_lst (pa_cons pe_int (pa_cons pe_int (pa_cons pe_int pa_nil)))) (pe_call GB hr rfl B.g B.F.kp B.b .nil pass0 (pa_cons (pv 0) (pa_cons pe_int pa_nil))) (fun _ _ => rfl)) pa_nil))) (fun _ _ => rfl)))
      (pss_one (ps_ret (pe_join pe_str
        (pe_lc (own := [("_law_k", 2)]) (g := gName 2) (by rfl) scTable.nd (pi_range1 rfl T.range (pa_cons (pv 1) pa_nil)) (blkOk_by (N := ["_law_d", "_law_length_here", "_law_k"]) (sc := defScope sTable) (by decide +kernel))
          (fun _ _ _ _ _ => pg_name (i := 2) scTable.nd rfl (Or.inl rfl)) (fun _ _ _ _ _ => pts_nil)
          (fun _ _ _ _ _ => pe_item_str pe_str (pe_call GB hr rfl B.g B.F.kp B.b .nil pass0 (pa_cons (pv 0) (pa_cons pe_int pa_nil))) (fun _ _ => rfl)))))), ?_⟩
    refine ⟨by show 9 ≤ sizeLine; decide, fun l1 hl1 => ?_⟩
    have nl1 : d ≠ l1 := ne_of_none hd hl1
    refine ⟨_, rfl, by show 3 ≤ sizeLine; decide, fun l2 hl2 => ?_⟩
    have hd0 : (upd (upd H l1 (.lst [.int 1, .int 2, .int 3, .int 4, .int 4, .int 6, .int 8, .int 12, .int 24])) l2 (.lst [.int 5, .int 7, .int 9])) d = some (.lst (st.map V.int)) := same_upd hl2 _ _ (same_upd hl1 _ _ hd)
    have nl12 : l1 ≠ l2 := ne_of_none upd_same hl2
    have nl2 : d ≠ l2 := ne_of_none (same_upd hl1 _ _ hd) hl2
    refine ⟨_, rfl, d, 3, st, rfl, hd0, hg, by decide, by decide, fun H1 st1 r1 k1 hd1 hg1 r10 r11 => ?_⟩
    have e2 : H1 l2 = some (.lst (([5, 7, 9] : List Int).map V.int)) := k1 _ _ nl2.symm upd_same
    have e1 : H1 l1 = some (.lst (([1, 2, 3, 4, 4, 6, 8, 12, 24] : List Int).map V.int)) := k1 _ _ nl1.symm (by rw [upd_ne nl12]; exact upd_same)
    have kA : Kp d H H1 := (sKp ((same_upd hl1).trans (same_upd hl2))).trans k1
    obtain ⟨z1, hz1, a1⟩ := at_mem (L := [5, 7, 9]) r10 (by simpa using r11)
    refine ⟨l2, _, r1, _, rfl, rfl, SqL.of e2, a1, d, z1, st1, rfl, hd1, hg1, ?_, ?_, fun H2 st2 r2 k2 hd2 hg2 r20 r21 => ?_⟩
    · simp at hz1; omega
    · simp at hz1; omega
    have e3 := k2 _ _ nl1.symm e1
    have kB : Kp d H H2 := kA.trans k2
    obtain ⟨z2, hz2, a2⟩ := at_mem (L := [1, 2, 3, 4, 4, 6, 8, 12, 24]) r20 (by simp at hz1 ⊢; omega)
    refine ⟨l1, _, r2, _, rfl, rfl, SqL.of e3, a2, ?_⟩
    have hz3 : 1 ≤ z2 ∧ z2 ≤ 24 ∧ z2.toNat ∈ [1, 2, 3, 4, 6, 8, 12, 24] := by
      simp only [List.mem_cons, List.not_mem_nil, or_false] at hz2
      rcases hz2 with h | h | h | h | h | h | h | h | h <;> subst h <;> decide
    refine ⟨⟨_, rfl⟩, _, rfl, z2, rfl, by omega, by omega, fun D hD => lc_range (lo := 0) (n := z2.toNat)
      (fun i H3 => ∃ (st3 : List Int) (cs : List Nat), Kp d H2 H3 ∧ H3 d = some (.lst (st3.map V.int)) ∧ Good st3 ∧ H3 D = some (.lst ((cs.map one).map V.str)) ∧ cs.length = i ∧ ∀ c ∈ cs, c = 104 ∨ c = 111)
      ⟨st2, [], sKp (same_upd hD), same_upd hD _ _ hd2, hg2, upd_same, rfl, fun c hc => by cases hc⟩ ?_ ?_⟩
    · rintro i H3 hi ⟨st3, cs, k3, hd3, hg3, eD, hcl, hc⟩
      have ndD : d ≠ D := ne_of_none hd2 hD
      refine ⟨rfl, _, rfl, d, 2, st3, rfl, hd3, hg3, by decide, by decide, fun H4 st4 r4 k4 hd4 hg4 r40 r41 => ?_⟩
      have add : ∀ (c : Nat), (c = 104 ∨ c = 111) → ∃ acc, H4 D = some (.lst acc) ∧ acc.length < sizeLine ∧
          ∃ (st3 : List Int) (cs : List Nat), Kp d H2 (upd H4 D (.lst (acc ++ [V.str (one c)]))) ∧ (upd H4 D (.lst (acc ++ [V.str (one c)]))) d = some (.lst (st3.map V.int)) ∧ Good st3 ∧ (upd H4 D (.lst (acc ++ [V.str (one c)]))) D = some (.lst ((cs.map one).map V.str)) ∧ cs.length = i + 1 ∧ ∀ c ∈ cs, c = 104 ∨ c = 111 := fun c hc1 => by
        refine ⟨_, k4 _ _ ndD.symm eD, ?_, st4, cs ++ [c], fun b o nb eb => ?_, by rw [upd_ne ndD]; exact hd4, hg4, by rw [upd_same]; simp, by rw [List.length_append, hcl]; rfl, fun x hx => ?_⟩
        · rw [List.length_map, List.length_map, hcl]; exact Nat.lt_of_le_of_lt (by omega : i ≤ 1000) (by decide)
        · rw [upd_ne (ne_of_none eb hD)]; exact k4 _ _ nb (k3 _ _ nb eb)
        · rcases List.mem_append.mp hx with hx | hx
          · exact hc x hx
          · rw [List.mem_singleton.mp hx]; exact hc1
      have r4c : r4 = 0 ∨ r4 = 1 := by omega
      rcases r4c with rfl | rfl
      · exact ⟨_, 0, 104, rfl, rfl, by decide, by decide, by decide +kernel, by decide +kernel, add 104 (.inl rfl)⟩
      · exact ⟨_, 1, 111, rfl, rfl, by decide, by decide, by decide +kernel, by decide +kernel, add 111 (.inr rfl)⟩
    · rintro H3 ⟨st3, cs, k3, hd3, hg3, eD, hcl, hc⟩
      refine ⟨_, D, cs.map one, rfl, rfl, .inl (SqL.of eD), ?_, ?_⟩
      · rw [ones_sum, hcl]
        have : (Str.ofString "").length = 0 := by decide +kernel
        rw [this]
        omega
      · refine k _ st3 _ (kB.trans k3) hd3 hg3 ⟨?_, ?_⟩
        · have e := tl_joined cs
          rw [show tl (Txt.join (Str.ofString "") (cs.map one)) = cs from e, hcl]
          exact hz3.2.2
        · rw [show tl (Txt.join (Str.ofString "") (cs.map one)) = cs from tl_joined cs]
          exact hc
end
end Dk

set_option Elab.async false
set_option linter.all false
set_option maxRecDepth 100000
set_option maxHeartbeats 4000000
namespace Dk
open PySem PySem.Spec PyProof.Rows L2 TL
/-! ### the period -/
def lens (ts : List Str) : List Nat := ts.map fun t => (tl t).length
def lcmL : List Nat → Nat → Nat
  | [], a => a
  | n :: r, a => lcmL r (a.lcm n)
def per (ts : List Str) : Nat := lcmL (lens ts) 1
theorem lcmL_dvd : ∀ (l : List Nat) (a m : Nat), a ∣ m → (∀ n ∈ l, n ∣ m) → lcmL l a ∣ m
  | [], a, m, h, _ => h
  | n :: r, a, m, h, k => lcmL_dvd r _ m (Nat.lcm_dvd h (k n (List.mem_cons_self ..))) fun x hx => k x (List.mem_cons_of_mem _ hx)
theorem dvd_lcmL : ∀ (l : List Nat) (a : Nat), a ∣ lcmL l a ∧ ∀ n ∈ l, n ∣ lcmL l a
  | [], a => ⟨Nat.dvd_refl _, fun n h => by cases h⟩
  | n :: r, a => by
    have ih := dvd_lcmL r (a.lcm n)
    refine ⟨Nat.dvd_trans (Nat.dvd_lcm_left a n) ih.1, fun x hx => ?_⟩
    rcases List.mem_cons.mp hx with e | hx
    · rw [e]; exact Nat.dvd_trans (Nat.dvd_lcm_right a n) ih.1
    · exact ih.2 x hx
def Tabs (ts : List Str) : Prop := ∀ t ∈ ts, IsTab t
theorem IsTab.dvd {t : Str} (h : IsTab t) : (tl t).length ∣ 24 := by
  have := h.len
  simp only [List.mem_cons, List.not_mem_nil, or_false] at this
  rcases this with e | e | e | e | e | e | e | e <;> rw [e] <;> decide
theorem per_24 {ts : List Str} (h : Tabs ts) : per ts ∣ 24 := lcmL_dvd _ _ _ (Nat.one_dvd _) fun n hn => by
  obtain ⟨t, ht, rfl⟩ := List.mem_map.mp hn
  exact (h t ht).dvd
theorem per_le {ts : List Str} (h : Tabs ts) : per ts ≤ 24 := Nat.le_of_dvd (by decide) (per_24 h)
theorem per_pos {ts : List Str} (h : Tabs ts) : 1 ≤ per ts := Nat.pos_of_ne_zero fun e => by
  have := per_24 h
  rw [e] at this
  exact absurd (Nat.eq_zero_of_zero_dvd this) (by decide)
theorem dvd_per {ts : List Str} {t : Str} (h : t ∈ ts) : (tl t).length ∣ per ts := (dvd_lcmL _ _).2 _ (List.mem_map.mpr ⟨t, h, rfl⟩)
theorem per_min {ts : List Str} {m : Nat} (h : ∀ t ∈ ts, (tl t).length ∣ m) : per ts ∣ m := lcmL_dvd _ _ _ (Nat.one_dvd _) fun n hn => by
  obtain ⟨t, ht, rfl⟩ := List.mem_map.mp hn
  exact h t ht
theorem IsTab.strOk {t : Str} (h : IsTab t) : PyData.strOk t = true := by
  unfold PyData.strOk
  rw [← Array.all_toList, List.all_eq_true]
  intro c hc
  have := h.ho c hc
  simp only [decide_eq_true_eq]
  omega
theorem dpAll_strs {K : PySem.W.Frag} {H : Hp} : ∀ ys : List Str, DpAll K H (ys.map V.str) (ys.map PyData.str)
  | [] => .nil
  | y :: ys => .cons (.str y) (dpAll_strs ys)
theorem shaped_strs : ∀ {ys : List Str}, Tabs ys → SeqAt.shaped (.list (ys.map PyData.str)) = true := by
  intro ys h
  have h1 : PyData.canLayAll0 (ys.map PyData.str) = true := by
    induction ys with
    | nil => rfl
    | cons y ys ih =>
      show (PyData.canLay0 (.str y) && PyData.canLayAll0 (ys.map PyData.str)) = true
      rw [ih fun t ht => h t (List.mem_cons_of_mem _ ht)]
      have := (h y (List.mem_cons_self ..)).strOk
      simp [PyData.canLay0, this]
  have h2 : PyData.depthAll (ys.map PyData.str) = 0 := by
    clear h h1
    induction ys with
    | nil => rfl
    | cons y ys ih => show max (PyData.depth (.str y)) (PyData.depthAll _) = 0; rw [ih]; rfl
  unfold SeqAt.shaped
  simp only [PyData.canLay0, PyData.depth, h1, h2]
  decide
theorem eqv_strs (ys : List Str) : PyData.eqv (.list (ys.map PyData.str)) (.list []) = ys.isEmpty := by
  cases ys <;> rfl
theorem fmod_pos {n m : Nat} (hm : 1 ≤ m) : (0 < (n : Int).fmod (m : Int)) ↔ ¬ m ∣ n := by
  have e : (n : Int).fmod (m : Int) = ((n % m : Nat) : Int) := by
    rw [Int.fmod_eq_emod_of_nonneg _ (by omega)]; rfl
  rw [e]
  constructor
  · intro h d
    rw [Nat.mod_eq_zero_of_dvd d] at h
    exact absurd h (by decide)
  · intro h
    have : n % m ≠ 0 := fun q => h (Nat.dvd_of_mod_eq_zero q)
    omega
/-! ### lcm -/
def rLcm : List V → Hp → VK → Prop := fun vs H Q => ∃ a b : Nat, vs = [.int (a : Int), .int (b : Int)] ∧ a ≤ 1000 ∧ b ≤ 1000 ∧ Q (.int ((Nat.lcm a b : Nat) : Int)) H
theorem cr_lcm {X : Cx} : CallR X (.builtin "math.lcm") rLcm := by
  intro pins s σ H vs us Q I r h
  obtain ⟨a, b, rfl, ha, hb, q⟩ := h
  obtain ⟨t, u, rfl⟩ := Vals.int2 r
  have e : (Nat.lcm 1 (a : Int).natAbs).lcm (b : Int).natAbs = Nat.lcm a b := by
    rw [Nat.lcm_one_left]; rfl
  have hle : Nat.lcm a b ≤ 1000000 := by
    have h1 : Nat.lcm a b ≤ a * b := Nat.div_le_self _ _
    have h2 : a * b ≤ 1000 * 1000 := Nat.mul_le_mul ha hb
    omega
  refine PySem.W.mg_lcm_v (c := ((Nat.lcm a b : Nat) : Int)) (by simp; omega) (by simp; omega) (by rw [e]) ?_ ⟨.int _, H, I.tok _, ⟨_, rfl⟩, q⟩
  rw [bitsLine_eq]
  have h3 : ((Nat.lcm a b : Nat) : Int).natAbs.log2 ≤ ((Nat.lcm a b : Nat) : Int).natAbs := Nat.log2_le_self _
  have h4 : ((Nat.lcm a b : Nat) : Int).natAbs = Nat.lcm a b := rfl
  omega
theorem lcmL_take {l : List Nat} {i x a : Nat} (h : l[i]? = some x) : lcmL (l.take (i + 1)) a = (lcmL (l.take i) a).lcm x := by
  rw [take_more h]
  generalize l.take i = p
  induction p generalizing a with
  | nil => rfl
  | cons y p ih => exact ih (a := a.lcm y)
theorem Tabs.take {ts : List Str} (h : Tabs ts) (n : Nat) : Tabs (ts.take n) := fun t ht => h t (List.mem_of_mem_take ht)
theorem lens_take (ts : List Str) (n : Nat) : lens (ts.take n) = (lens ts).take n := by unfold lens; rw [List.map_take]
theorem small_str {t : Str} (h : t.length ≤ 1000) : t.length ≤ sizeLine := Nat.le_trans h (by decide)
theorem IsTab.size {t : Str} (h : IsTab t) : t.length ≤ sizeLine := small_str (by rw [len_tl t]; have := h.pos.2; omega)
theorem filt1 {α : Type} {p : α → Bool} {x : α} (h : p x = true) : [x].filter p = [x] := by simp [h]
theorem filt0 {α : Type} {p : α → Bool} {x : α} (h : p x = false) : [x].filter p = [] := by simp [h]
def spPeriod (K : PySem.W.Frag) : Sp := fun vs H Q _ => ∃ (a : Addr) (ts : List Str), vs = [.ref a] ∧ SqT K H a (ts.map V.str) ∧ Tabs ts ∧ Q (.int ((per ts : Nat) : Int)) H
def spLength (K : PySem.W.Frag) : Sp := fun vs H Q _ => ∃ (a : Addr) (ts : List Str), vs = [.ref a] ∧ SqT K H a (ts.map V.str) ∧ Tabs ts ∧ ts.length ≤ 6 ∧ ∀ H', Same H H' → Q (.int ((per ts : Nat) : Int)) H'
structure TxtC (mg : Str → Option Value) : Prop where
  lcm : mg "lcm" = some (.builtin "math.lcm")
section
variable {P : Program} {w : World} {K : PySem.W.Frag} {mg : Str → Option Value} {base : Heap}
theorem scPeriod : FnScope ["tables", "ticks", "table"] ["tables"] (defScope sPeriod) := ⟨rfl, rfl, rfl, by decide +kernel, rfl, by decide +kernel, by decide +kernel⟩
theorem ok_period {f : Addr} {fd : FuncData} (F : Fun K "common_period" "common_period" sPeriod f fd) (T : TxtA mg) (TC : TxtC mg) : FnOk P w K mg base CX0 1 f fd ["tables"] (spPeriod K) := by
  refine F.ok scPeriod (fun vs H Q E h => ?_) (fun cdv A outer s H vs Q E hr h => ?_)
  · obtain ⟨a, ts, rfl, _⟩ := h
    rfl
  · obtain ⟨a, ts, rfl, hS, hT, k⟩ := h
    refine ⟨_, pss_cons (ps_set (i := 1) scPeriod.nd rfl (.inl rfl) pe_int)
      (pss_cons (ps_for PassesOwn.never rfl (pi_tup (pv 0)) (pg_name (i := 2) scPeriod.nd rfl (.inl rfl))
        (pss_one (ps_set (i := 1) scPeriod.nd rfl (.inl rfl) (pe_callBfun cr_lcm (by rfl) TC.lcm (pa_cons (pv 1) (pa_cons (pe_callB call_len_str (by rfl) T.len PySem.boot_len (pa_cons (pv 2) pa_nil)) pa_nil))))))
      (pss_one (ps_ret (pv 1)))), ?_⟩
    refine ⟨_, rfl, a, rfl, ⟨_, hS⟩, for_tup (K := K) (a := a) (xs := ts.map V.str) (fun i σ H' => ∃ v : Option V, σ = [some (.ref a), some (.int ((per (ts.take i) : Nat) : Int)), v] ∧ H' = H)
      ⟨none, rfl, rfl⟩ (fun i σ H' _ ⟨_, _, e⟩ => by rw [e]; exact hS) ?_ ?_⟩
    · rintro i y σ H' hi ⟨v, rfl, rfl⟩
      obtain ⟨t, ht, rfl⟩ := map_at hi
      have hm : t ∈ ts := List.mem_of_getElem? ht
      have hit := hT t hm
      have ex : (lens ts)[i]? = some (tl t).length := by unfold lens; rw [List.getElem?_map, ht]; rfl
      refine ⟨_, rfl, _, rfl, _, rfl, hit.size, per (ts.take i), (tl t).length, ?_, ?_, ?_, ?_⟩
      · rw [len_tl t]
      · have := per_le (hT.take i); omega
      · have := hit.pos.2; omega
      · refine ⟨some (.str t), ?_, rfl⟩
        show _ = [some (V.ref a), some (V.int ((per (ts.take (i + 1)) : Nat) : Int)), some (V.str t)]
        unfold per
        rw [lens_take, lens_take, lcmL_take ex]
        rfl
    · rintro σ H' ⟨v, rfl, rfl⟩
      rw [List.length_map, List.take_length]
      exact ⟨_, rfl, k⟩
theorem scLength : FnScope ["_law_tables", "_law_length_here", "_law_table_here"] ["_law_tables"] (defScope sLength) := ⟨rfl, rfl, rfl, by decide +kernel, rfl, by decide +kernel, by decide +kernel⟩
theorem ok_length {f : Addr} {fd : FuncData} (F : Fun K "_law_length" "_law_length" sLength f fd) (T : TxtA mg) : FnOk P w K mg base CX0 1 f fd ["_law_tables"] (spLength K) := by
  refine F.ok scLength (fun vs H Q E h => ?_) (fun cdv A outer s H vs Q E hr h => ?_)
  · obtain ⟨a, ts, rfl, _⟩ := h
    rfl
  · obtain ⟨a, ts, rfl, hS, hT, hl6, k⟩ := h
    refine ⟨_, pss_cons (ps_set (i := 1) scLength.nd rfl (.inr rfl) pe_int)
      (pss_cons (ps_while PassesOwn.never (pt_cmpR (op_neD hr.units) (pe_lc (own := [("_law_table_here", 2)]) (g := gName 2) (by rfl) scLength.nd (pi_tup (pv 0)) (blkOk_by (N := ["_law_tables", "_law_length_here", "_law_table_here"]) (sc := defScope sLength) (by decide +kernel))
          (fun _ _ _ _ _ => pg_name (i := 2) scLength.nd rfl (Or.inl rfl)) (fun _ _ _ _ _ => pts_one (pt_cmpR op_gt (pe_op op_modN (pv 1) (pe_callB call_len_str (by rfl) T.len PySem.boot_len (pa_cons (pv 2) pa_nil))) pe_int (nomark _))) (fun _ _ _ _ _ => pv 2)) (pe_lst pa_nil) (nomark _))
        (pss_one (ps_set (i := 1) scLength.nd rfl (.inr rfl) (pe_op op_add (pv 1) pe_int))))
      (pss_one (ps_ret (pv 1)))), ?_⟩
    refine ⟨fun m σ H' => ∃ n : Nat, σ = [some (.ref a), some (.int (n : Int)), none] ∧ Same H H' ∧ 1 ≤ n ∧ n ≤ per ts ∧ m = per ts - n, ⟨_, 1, rfl, Same.refl H, Nat.le_refl _, per_pos hT, rfl⟩, ?_⟩
    rintro m σ H' ⟨n, rfl, s1, h1, h2, rfl⟩
    have hS1 := sSqT s1 hS
    refine ⟨_, rfl, a, rfl, ⟨_, hS1⟩, fun D hD => lc_tup (K := K) (a := a) (xs := ts.map V.str)
      (fun i H3 => ∃ ys : List Str, Same H' H3 ∧ H3 D = some (.lst (ys.map V.str)) ∧ ys = (ts.take i).filter (fun t => decide (¬ (tl t).length ∣ n)) ∧ ys.length ≤ i)
      ⟨[], same_upd hD, upd_same, rfl, Nat.le_refl _⟩ (fun i H3 _ ⟨_, e, _⟩ => sSqT e hS1) ?_ ?_⟩
    · rintro i y H3 hi ⟨ys, s3, eD, hys, hyl⟩
      obtain ⟨t, ht, rfl⟩ := map_at hi
      have hil : i < ts.length := (List.getElem?_eq_some_iff.mp ht).1
      have hit := hT t (List.mem_of_getElem? ht)
      have hlen : t.length = (tl t).length := len_tl t
      refine ⟨rfl, _, rfl, _, rfl, _, rfl, hit.size, _, _, rfl, rfl, (by have := hit.pos.1; omega), _, _, rfl, rfl, _, rfl, ite2 (fun c => ?_) (fun c => ?_)⟩
      · have c' := of_decide_eq_true c
        rw [hlen, fmod_pos hit.pos.1] at c'
        refine ⟨_, rfl, _, eD, ?_, ys ++ [t], fun b o eb => ?_, ?_, ?_, ?_⟩
        · rw [List.length_map]; exact Nat.lt_of_le_of_lt (by omega : ys.length ≤ 1000) (by decide)
        · rw [upd_ne (ne_of_none eb hD)]; exact s3 _ _ eb
        · rw [upd_same]; simp
        · rw [take_more ht, List.filter_append, ← hys, show List.filter (fun t => decide (¬ (tl t).length ∣ n)) [t] = [t] from filt1 (decide_eq_true c')]
        · rw [List.length_append, List.length_singleton]; omega
      · have c' : ¬ (0 < (n : Int).fmod (t.length : Int)) := fun q => c (decide_eq_true q)
        rw [hlen, fmod_pos hit.pos.1] at c'
        refine ⟨ys, s3, eD, ?_, by omega⟩
        rw [take_more ht, List.filter_append, ← hys, show List.filter (fun t => decide (¬ (tl t).length ∣ n)) [t] = [] from filt0 (decide_eq_false c'), List.append_nil]
    · rintro H3 ⟨ys, s3, eD, hys, hyl⟩
      rw [List.length_map, List.take_length] at hys
      refine ⟨Nat.zero_le _, fun l hl => ?_⟩
      have eD2 := same_upd (o := .lst []) hl _ _ eD
      have hTy : Tabs ys := fun t ht => hT t (by rw [hys] at ht; exact (List.mem_filter.mp ht).1)
      refine ⟨.list (ys.map PyData.str), .list [], .lst (SqL.of eD2) (dpAll_strs ys), .lst (SqL.of upd_same) .nil, shaped_strs hTy, by decide, _, rfl, ?_⟩
      rw [eqv_strs]
      have s5 : Same H (upd H3 l (.lst [])) := (s1.trans s3).trans (same_upd hl)
      cases hy : ys with
      | nil =>
        refine iteF ⟨_, rfl, ?_⟩
        have all : ∀ t ∈ ts, (tl t).length ∣ n := fun t ht => by
          by_cases d : (tl t).length ∣ n
          · exact d
          · have : t ∈ ys := by rw [hys]; exact List.mem_filter.mpr ⟨ht, decide_eq_true d⟩
            rw [hy] at this
            cases this
        have e : n = per ts := Nat.le_antisymm h2 (Nat.le_of_dvd h1 (per_min all))
        rw [e]
        exact k _ s5
      | cons t0 ys' =>
        refine iteT ?_
        have hne : n ≠ per ts := fun e => by
          have hm : t0 ∈ ts.filter (fun t => decide (¬ (tl t).length ∣ n)) := by rw [← hys, hy]; exact List.mem_cons_self ..
          have := List.mem_filter.mp hm
          exact (of_decide_eq_true this.2) (by rw [e]; exact dvd_per this.1)
        refine ⟨fun σ' H'' => ∃ n' : Nat, σ' = [some (.ref a), some (.int (n' : Int)), none] ∧ Same H H'' ∧ 1 ≤ n' ∧ n' ≤ per ts ∧ n' = n + 1, fun σ' H'' ⟨n', e1, e2, e3, e4, e5⟩ => ⟨per ts - n', by omega, n', e1, e2, e3, e4, rfl⟩, ?_⟩
        exact ⟨_, rfl, _, _, rfl, rfl, n + 1, rfl, s5, by omega, by omega, rfl⟩
end
end Dk

set_option Elab.async false
set_option linter.all false
set_option maxRecDepth 100000
set_option maxHeartbeats 4000000
namespace Dk
open PySem PySem.Spec PyProof.Rows L2 TL
/-! ### pairs -/
abbrev Pr := Int × Int
def PrAt (H : Hp) (x : V) (r : Pr) : Prop := ∃ t, x = .ref t ∧ H t = some (.tup [.int r.1, .int r.2])
def Prs (H : Hp) (xs : List V) (rs : List Pr) : Prop := Paired (PrAt H) xs rs
theorem Prs.app {H : Hp} : ∀ {xs : List V} {rs : List Pr} {x : V} {r : Pr}, Prs H xs rs → PrAt H x r → Prs H (xs ++ [x]) (rs ++ [r])
  | [], [], _, _, .nil, h => .cons h .nil
  | _ :: _, _ :: _, _, _, .cons a b, h => .cons a (Prs.app b h)
theorem Prs.mono {H H' : Hp} : ∀ {xs : List V} {rs : List Pr}, (∀ t ys, H t = some (.tup ys) → H' t = some (.tup ys)) → Prs H xs rs → Prs H' xs rs
  | [], [], _, .nil => .nil
  | _ :: _, _ :: _, k, .cons ⟨t, e, h⟩ b => .cons ⟨t, e, k _ _ h⟩ (Prs.mono k b)
theorem kp_tup {d : Addr} {H H' : Hp} {xs : List V} (k : Kp d H H') (hd : H d = some (.lst xs)) : ∀ t ys, H t = some (.tup ys) → H' t = some (.tup ys) := fun t ys h => k t _ (fun e => by rw [e, hd] at h; cases h) h
theorem Prs.len {H : Hp} {xs : List V} {rs : List Pr} (h : Prs H xs rs) : xs.length = rs.length := Paired.length h
def kf (H : Hp) : V → Pr
  | .ref t => match H t with
    | some (.tup [.int i, .int j]) => (i, j)
    | _ => (0, 0)
  | _ => (0, 0)
theorem kf_at {H : Hp} {x : V} {r : Pr} (h : PrAt H x r) : kf H x = r := by
  obtain ⟨t, rfl, e⟩ := h
  show (match H t with | some (.tup [.int i, .int j]) => (i, j) | _ => (0, 0)) = r
  rw [e]
theorem Prs.kf {H : Hp} : ∀ {xs : List V} {rs : List Pr}, Prs H xs rs → xs.map (kf H) = rs
  | [], [], .nil => rfl
  | _ :: _, _ :: _, .cons a b => by rw [List.map_cons, kf_at a, Prs.kf b]
theorem Prs.mem {H : Hp} : ∀ {xs : List V} {rs : List Pr}, Prs H xs rs → ∀ x ∈ xs, PrAt H x (Dk.kf H x)
  | [], [], .nil, _, h => by cases h
  | _ :: _, _ :: _, .cons a b, x, h => by
    rcases List.mem_cons.mp h with rfl | h
    · rw [kf_at a]; exact a
    · exact Prs.mem b x h
theorem Prs.of_mem {H : Hp} : ∀ {xs : List V}, (∀ x ∈ xs, PrAt H x (Dk.kf H x)) → Prs H xs (xs.map (Dk.kf H))
  | [], _ => .nil
  | x :: xs, h => .cons (h x (List.mem_cons_self ..)) (Prs.of_mem fun y hy => h y (List.mem_cons_of_mem _ hy))
/-- r before s -/
def plt (r s : Pr) : Prop := r.1 < s.1 ∨ (r.1 = s.1 ∧ r.2 < s.2)
def prR (r : Pr) : PyData := .tuple [.int r.1, .int r.2]
theorem prR_eqv (r s : Pr) : PyData.eqv (prR r) (prR s) = decide (r = s) := by
  obtain ⟨a, b⟩ := r
  obtain ⟨c, d⟩ := s
  show (a == c && (b == d && true)) = decide ((a, b) = (c, d))
  by_cases h1 : a = c
  · by_cases h2 : b = d
    · subst h1 h2; simp
    · simp [h2]
  · simp [h1]
theorem any_eqv (rs : List Pr) (r : Pr) : ((rs.map prR).any fun z => PyData.eqv z (prR r)) = decide (r ∈ rs) := by
  induction rs with
  | nil => rfl
  | cons s rs ih =>
    rw [List.map_cons, List.any_cons, ih, prR_eqv]
    by_cases h : s = r
    · subst h; simp
    · have h' : r ≠ s := fun e => h e.symm
      simp [h, h']
theorem prR_shaped (r : Pr) : SeqAt.shaped (prR r) = true := by
  unfold SeqAt.shaped prR
  simp [PyData.canLay0, PyData.canLayAll0, PyData.depth, PyData.depthAll]
theorem prRs_shaped (rs : List Pr) : SeqAt.shaped (.list (rs.map prR)) = true := by
  have h1 : PyData.canLayAll0 (rs.map prR) = true := by
    induction rs with
    | nil => rfl
    | cons r rs ih => show (PyData.canLay0 (prR r) && PyData.canLayAll0 (rs.map prR)) = true; rw [ih]; rfl
  have h2 : PyData.depthAll (rs.map prR) ≤ 1 := by
    clear h1
    induction rs with
    | nil => exact Nat.zero_le _
    | cons r rs ih => show max (PyData.depth (prR r)) (PyData.depthAll (rs.map prR)) ≤ 1; exact Nat.max_le.mpr ⟨by show max 0 (max 0 0) + 1 ≤ 1; decide, ih⟩
  have h3 : PyData.depth (.list (rs.map prR)) ≤ 64 := by
    show PyData.depthAll (rs.map prR) + 1 ≤ 64
    omega
  unfold SeqAt.shaped
  rw [show PyData.canLay0 (.list (rs.map prR)) = true from h1, decide_eq_true h3]
  rfl
theorem dp_pr {K : PySem.W.Frag} {H : Hp} {x : V} {r : Pr} (h : PrAt H x r) : Dp K H x (prR r) := by
  obtain ⟨t, rfl, e⟩ := h
  exact .tup (SqT.of e) (.cons (.int _) (.cons (.int _) .nil))
theorem dpAll_prs {K : PySem.W.Frag} {H : Hp} : ∀ {xs : List V} {rs : List Pr}, Prs H xs rs → DpAll K H xs (rs.map prR)
  | [], [], .nil => .nil
  | _ :: _, _ :: _, .cons a b => .cons (dp_pr a) (dpAll_prs b)
theorem lex_plt {r s : Pr} (h : SrtO.lexB s r = false) (n : r ≠ s) : plt r s := by
  have a := SrtO.lexB_no.mp h
  obtain ⟨r1, r2⟩ := r
  obtain ⟨s1, s2⟩ := s
  simp only [plt] at *
  by_cases h1 : r1 = s1
  · subst h1
    by_cases h2 : r2 = s2
    · subst h2; exact absurd rfl n
    · right; omega
  · left; omega
theorem sorted_plt : ∀ {l : List Pr}, l.Pairwise (fun x y => SrtO.lexB y x = false) → l.Nodup → l.Pairwise plt
  | [], _, _ => .nil
  | x :: l, h, n => by
    have h' := List.pairwise_cons.mp h
    have n' := List.nodup_cons.mp n
    exact .cons (fun y hy => lex_plt (h'.1 y hy) fun e => n'.1 (e ▸ hy)) (sorted_plt h'.2 n'.2)
/-- the parts of a house -/
structure Parts (ts : List Str) (keys : Int) (cs : List Int) (rs : List Pr) : Prop where
  tabs : Tabs ts
  n1 : 1 ≤ ts.length
  n6 : ts.length ≤ 6
  k0 : 0 ≤ keys
  k9 : keys ≤ 9
  cp : cs.Pairwise (· < ·)
  cm : ∀ c ∈ cs, (0 : Int) ≤ c ∧ c < (ts.length : Int)
  rp : rs.Pairwise plt
  rm : ∀ r ∈ rs, (0 : Int) ≤ r.1 ∧ r.1 < ((per ts : Nat) : Int) ∧ (0 : Int) ≤ r.2 ∧ r.2 < (ts.length : Int)
  r10 : rs.length ≤ 10
structure PartsAt (H : Hp) (a : Addr) (ts : List Str) (keys : Int) (cs : List Int) (rs : List Pr) : Prop where
  ex : ∃ aT aC aR xs, H a = some (.tup [.ref aT, .int keys, .ref aC, .ref aR]) ∧ H aT = some (.tup (ts.map V.str)) ∧ H aC = some (.tup (cs.map V.int)) ∧ H aR = some (.tup xs) ∧ Prs H xs rs
theorem PartsAt.mono {H H' : Hp} {a : Addr} {ts : List Str} {keys : Int} {cs : List Int} {rs : List Pr} (h : PartsAt H a ts keys cs rs) (k : ∀ t ys, H t = some (.tup ys) → H' t = some (.tup ys)) : PartsAt H' a ts keys cs rs := by
  obtain ⟨aT, aC, aR, xs, e1, e2, e3, e4, e5⟩ := h
  exact ⟨aT, aC, aR, xs, k _ _ e1, k _ _ e2, k _ _ e3, k _ _ e4, e5.mono k⟩
end Dk

set_option Elab.async false
set_option linter.all false
set_option maxRecDepth 100000
set_option maxHeartbeats 4000000
namespace Dk
open PySem PySem.Spec PyProof.Rows L2 TL
def spParts : Sp := fun vs H Q _ => ∃ (d : Addr) (most : Int) (st : List Int), vs = [.ref d, .int most] ∧ H d = some (.lst (st.map V.int)) ∧ Good st ∧ 1 ≤ most ∧ most ≤ 6 ∧
  ∀ (H' : Hp) (st' : List Int) (a : Addr) (ts : List Str) (keys : Int) (cs : List Int) (rs : List Pr), Kp d H H' → H' d = some (.lst (st'.map V.int)) → Good st' → PartsAt H' a ts keys cs rs → Parts ts keys cs rs → Q (.ref a) H'
structure TxtD (K : PySem.W.Frag) (mg : Str → Option Value) (fT fL : Addr) (fdT fdL : FuncData) : Prop where
  gT : mg "_law_table" = some (.ref fT)
  FT : Fun K "_law_table" "_law_table" sTable fT fdT
  bT : Binds K fdT ["_law_d"] []
  gL : mg "_law_length" = some (.ref fL)
  FL : Fun K "_law_length" "_law_length" sLength fL fdL
  bL : Binds K fdL ["_law_tables"] []
  tuple : mg "tuple" = none
  sorted : mg "sorted" = none
abbrev nParts : List Str := ["_law_d", "_law_most", "_law_k", "_law_tables", "_law_careful", "_law_length_here", "_law_reminders", "_law_reminder"]
section
variable {P : Program} {w : World} {K : PySem.W.Frag} {mg : Str → Option Value} {base : Heap}
theorem scParts : FnScope nParts ["_law_d", "_law_most"] (defScope sParts) := ⟨rfl, rfl, rfl, by decide +kernel, rfl, by decide +kernel, by decide +kernel⟩
theorem ok_parts {f fB fT fL : Addr} {fd fdB fdT fdL : FuncData} (F : Fun K "_law_parts" "_law_parts" sParts f fd) (T : TxtA mg) (B : TxtB K mg fB fdB) (D' : TxtD K mg fT fL fdT fdL) : FnOk P w K mg base CX0 3 f fd ["_law_d", "_law_most"] spParts := by
  have GB : FnOk P w K mg base CX0 1 fB fdB ["_law_d", "_law_limit"] spBelow := ok_below B.F T
  have GT : FnOk P w K mg base CX0 2 fT fdT ["_law_d"] spTable := ok_table D'.FT T B
  have GL : FnOk P w K mg base CX0 1 fL fdL ["_law_tables"] (spLength K) := ok_length D'.FL T
  refine F.ok scParts (fun vs H Q E h => ?_) (fun cdv A outer s H vs Q E hr h => ?_)
  · obtain ⟨d, most, st, rfl, _⟩ := h
    rfl
  · obtain ⟨d, most, st, rfl, hd, hg, hm1, hm6, k⟩ := h
    have hr1 : Room 1 _ := hr.mono (by decide)
    have hu : (A.deeper (envOfC (Str.ofString "_law_parts") (defScope sParts) s.heap.objs.size f cdv)).units + 65 < cLine := by have := hr.un; omega
    refine ⟨_, pss_cons (ps_set (i := 3) scParts.nd rfl (.inl rfl) (pe_callTy call_tuple_of (by rfl) D'.tuple (by decide +kernel) (pa_cons
        (pe_lc (own := [("_law_k", 2)]) (g := gName 2) (by rfl) scParts.nd (pi_range1 rfl T.range (pa_cons (pe_op op_add pe_int (pe_call GB hr1 rfl B.g B.F.kp B.b .nil pass0 (pa_cons (pv 0) (pa_cons (pv 1) pa_nil)))) pa_nil)) (blkOk_by (N := nParts) (sc := defScope sParts) (by decide +kernel))
          (fun _ _ _ _ _ => pg_name (i := 2) scParts.nd rfl (Or.inl rfl)) (fun _ _ _ _ _ => pts_nil)
          (fun _ _ _ _ _ => pe_call GT hr rfl D'.gT D'.FT.kp D'.bT .nil pass0 (pa_cons (pv 0) pa_nil))) pa_nil)))
      (pss_cons (ps_set (i := 4) scParts.nd rfl (.inl rfl) (pe_callTy call_tuple_of (by rfl) D'.tuple (by decide +kernel) (pa_cons
        (pe_lc (own := [("_law_k", 2)]) (g := gName 2) (by rfl) scParts.nd (pi_range1 rfl T.range (pa_cons (pe_callB call_len_seq (by rfl) T.len PySem.boot_len (pa_cons (pv 3) pa_nil)) pa_nil)) (blkOk_by (N := nParts) (sc := defScope sParts) (by decide +kernel))
          (fun _ _ _ _ _ => pg_name (i := 2) scParts.nd rfl (Or.inl rfl)) (fun _ _ _ _ _ => pts_one (pt_cmpR op_eq (pe_call GB hr1 rfl B.g B.F.kp B.b .nil pass0 (pa_cons (pv 0) (pa_cons pe_int pa_nil))) pe_int (nomark _)))
          (fun _ _ _ _ _ => pv 2)) pa_nil)))
      (pss_cons (ps_par (by rfl) scParts.nd (i := 5) (j := 6) rfl rfl (by decide) rfl rfl (pa_cons (pe_call GL hr1 rfl D'.gL D'.FL.kp D'.bL .nil pass0 (pa_cons (pv 3) pa_nil)) (pa_cons (pe_lst pa_nil) pa_nil)) (by rfl))
      (pss_cons (ps_for PassesOwn.never rfl (pi_range1 rfl T.range (pa_cons (pe_call GB hr1 rfl B.g B.F.kp B.b .nil pass0 (pa_cons (pv 0) (pa_cons
            (pe_ix ix_list (pe_lst (pa_cons pe_int (pa_cons pe_int (pa_cons pe_int pa_nil)))) (pe_call GB hr1 rfl B.g B.F.kp B.b .nil pass0 (pa_cons (pv 0) (pa_cons pe_int pa_nil))) (fun _ _ => rfl)) pa_nil))) pa_nil)) (pg_name (i := 2) scParts.nd rfl (.inl rfl))
          (pss_cons (ps_set (i := 7) scParts.nd rfl (.inl rfl) (pe_tup (pa_cons (pe_call GB hr1 rfl B.g B.F.kp B.b .nil pass0 (pa_cons (pv 0) (pa_cons (pv 5) pa_nil)))
              (pa_cons (pe_call GB hr1 rfl B.g B.F.kp B.b .nil pass0 (pa_cons (pv 0) (pa_cons (pe_callB call_len_seq (by rfl) T.len PySem.boot_len (pa_cons (pv 3) pa_nil)) pa_nil))) pa_nil))))
          (pss_one (ps_if (pt_cmpR (op_notInD hu) (pv 7) (pv 6) (by rfl))
            (pss_one (ps_expr (pe_bm PySem.F.plainAttrs_list PySem.F.slot_list_append PySem.F.type_list_append mt_append (pv 6) (pa_cons (pv 7) pa_nil)))) pss_nil))))
      (pss_one (ps_ret (pe_tup (pa_cons (pv 3) (pa_cons (pe_call GB hr1 rfl B.g B.F.kp B.b .nil pass0 (pa_cons (pv 0) (pa_cons
            (pe_ix ix_list (pe_lst (pa_cons pe_int (pa_cons pe_int pa_nil))) (pe_call GB hr1 rfl B.g B.F.kp B.b .nil pass0 (pa_cons (pv 0) (pa_cons pe_int pa_nil))) (fun _ _ => rfl)) pa_nil)))
          (pa_cons (pv 4) (pa_cons (pe_callTy call_tuple_of (by rfl) D'.tuple (by decide +kernel) (pa_cons (pe_callB cr_sortedPO (by rfl) D'.sorted (by decide +kernel) (pa_cons (pv 6) pa_nil)) pa_nil)) pa_nil)))))))))), ?_⟩
    -- the timetables
    refine ⟨_, rfl, _, rfl, d, most, st, rfl, hd, hg, hm1, by omega, fun H1 st1 r1 k1 hd1 hg1 r10 r11 => ?_⟩
    refine ⟨_, _, rfl, rfl, _, rfl, by omega, by omega, fun D hD => lc_range (lo := 0) (n := (1 + r1).toNat)
      (fun i H3 => ∃ (st3 : List Int) (ts : List Str), Kp d H1 H3 ∧ H3 d = some (.lst (st3.map V.int)) ∧ Good st3 ∧ H3 D = some (.lst (ts.map V.str)) ∧ ts.length = i ∧ Tabs ts)
      ⟨st1, [], sKp (same_upd hD), same_upd hD _ _ hd1, hg1, upd_same, rfl, fun t ht => by cases ht⟩ ?_ ?_⟩
    · rintro i H3 hi ⟨st3, ts, k3, hd3, hg3, eD, hl, hT⟩
      have ndD : d ≠ D := ne_of_none hd1 hD
      refine ⟨rfl, _, rfl, d, st3, rfl, hd3, hg3, fun H4 st4 t k4 hd4 hg4 ht => ?_⟩
      refine ⟨_, k4 _ _ ndD.symm eD, ?_, st4, ts ++ [t], fun b o nb eb => ?_, by rw [upd_ne ndD]; exact hd4, hg4, by rw [upd_same]; simp, by rw [List.length_append, hl]; rfl, fun x hx => ?_⟩
      · rw [List.length_map, hl]; exact Nat.lt_of_le_of_lt (by omega : i ≤ 1000) (by decide)
      · rw [upd_ne (ne_of_none eb hD)]; exact k4 _ _ nb (k3 _ _ nb eb)
      · rcases List.mem_append.mp hx with hx | hx
        · exact hT x hx
        · rw [List.mem_singleton.mp hx]; exact ht
    rintro H3 ⟨st3, ts, k3, hd3, hg3, eD, hl, hT⟩
    have hl6 : 1 ≤ ts.length ∧ ts.length ≤ 6 := by omega
    clear hl
    refine ⟨D, ts.map V.str, rfl, .inl ⟨SqL.of eD, fun aT haT => ?_⟩⟩
    have kA : Kp d H (upd H3 aT (.tup (ts.map V.str))) := (k1.trans k3).trans (sKp (same_upd haT))
    have hdA : (upd H3 aT (.tup (ts.map V.str))) d = some (.lst (st3.map V.int)) := same_upd haT _ _ hd3
    have eT : (upd H3 aT (.tup (ts.map V.str))) aT = some (.tup (ts.map V.str)) := upd_same
    generalize upd H3 aT (.tup (ts.map V.str)) = HA at kA hdA eT
    clear k1 hd1 hg1 k3 hd3 eD haT hD hd hg
    -- the careful persons
    refine ⟨_, rfl, aT, _, rfl, .inr (SqT.of eT), _, rfl, by omega, by rw [List.length_map]; omega, fun D hD => lc_range (lo := 0) (n := (((ts.map V.str).length : Nat) : Int).toNat)
      (fun i H3 => ∃ (st3 : List Int) (cs : List Int), Kp d HA H3 ∧ H3 d = some (.lst (st3.map V.int)) ∧ Good st3 ∧ H3 D = some (.lst (cs.map V.int)) ∧ cs.length ≤ i ∧ cs.Pairwise (· < ·) ∧ ∀ c ∈ cs, (0 : Int) ≤ c ∧ c < (i : Int))
      ⟨st3, [], sKp (same_upd hD), same_upd hD _ _ hdA, hg3, upd_same, Nat.le_refl _, .nil, fun t ht => by cases ht⟩ ?_ ?_⟩
    · rintro i H3 hi ⟨st3, cs, k3, hd3, hg3, eD, hl, hP, hC⟩
      have ndD : d ≠ D := ne_of_none hdA hD
      rw [List.length_map] at hi
      refine ⟨rfl, _, rfl, d, 3, st3, rfl, hd3, hg3, by decide, by decide, fun H4 st4 r4 k4 hd4 hg4 r40 r41 => ?_⟩
      have eD4 := k4 _ _ ndD.symm eD
      refine ⟨rfl, _, rfl, ite2 (fun c => ?_) (fun c => ?_)⟩
      · refine ⟨_, rfl, _, eD4, ?_, st4, cs ++ [(0 : Int) + (i : Int)], fun b o nb eb => ?_, by rw [upd_ne ndD]; exact hd4, hg4, by rw [upd_same]; simp, by rw [List.length_append, List.length_singleton]; omega, ?_, fun x hx => ?_⟩
        · rw [List.length_map]; exact Nat.lt_of_le_of_lt (by omega : cs.length ≤ 1000) (by decide)
        · rw [upd_ne (ne_of_none eb hD)]; exact k4 _ _ nb (k3 _ _ nb eb)
        · refine List.pairwise_append.mpr ⟨hP, List.pairwise_singleton _ _, fun x hx y hy => ?_⟩
          rw [List.mem_singleton.mp hy]
          have := hC x hx
          omega
        · rcases List.mem_append.mp hx with hx | hx
          · have := hC x hx; omega
          · rw [List.mem_singleton.mp hx]; omega
      · exact ⟨st4, cs, fun b o nb eb => k4 _ _ nb (k3 _ _ nb eb), hd4, hg4, eD4, by omega, hP, fun x hx => by have := hC x hx; omega⟩
    rintro H3 ⟨st4, cs, k3, hd3, hg4, eD, hl, hCP, hCM⟩
    rw [List.length_map] at hl hCM
    refine ⟨D, cs.map V.int, rfl, .inl ⟨SqL.of eD, fun aC haC => ?_⟩⟩
    have kB : Kp d H (upd H3 aC (.tup (cs.map V.int))) := (kA.trans k3).trans (sKp (same_upd haC))
    have hdB : (upd H3 aC (.tup (cs.map V.int))) d = some (.lst (st4.map V.int)) := same_upd haC _ _ hd3
    have eT2 : (upd H3 aC (.tup (cs.map V.int))) aT = some (.tup (ts.map V.str)) := same_upd haC _ _ (kp_tup k3 hdA _ _ eT)
    have eC : (upd H3 aC (.tup (cs.map V.int))) aC = some (.tup (cs.map V.int)) := upd_same
    generalize upd H3 aC (.tup (cs.map V.int)) = HB at kB hdB eT2 eC
    clear kA hdA eT k3 hd3 hg3 eD haC hD
    -- the period; no reminders yet
    refine ⟨_, rfl, aT, ts, rfl, SqT.of eT2, hT, hl6.2, fun HC sC => ?_⟩
    refine ⟨Nat.zero_le _, fun l hL => ?_⟩
    have kC : Kp d H (upd HC l (.lst [])) := (kB.trans (sKp sC)).trans (sKp (same_upd hL))
    have hdC := same_upd (o := .lst []) hL _ _ (sC _ _ hdB)
    have eT3 := same_upd (o := .lst []) hL _ _ (sC _ _ eT2)
    have eC3 := same_upd (o := .lst []) hL _ _ (sC _ _ eC)
    have eL : (upd HC l (.lst [])) l = some (.lst []) := upd_same
    have ndl : d ≠ l := ne_of_none (sC _ _ hdB) hL
    have nHl : H l = none := by
      cases q : H l with
      | none => rfl
      | some o =>
        have := (kB.trans (sKp sC)) l o ndl.symm q
        rw [hL] at this
        cases this
    generalize upd HC l (.lst []) = HD at kC hdC eT3 eC3 eL
    clear kB hdB eT2 eC sC hL
    refine ⟨_, _, rfl, ?_⟩
    -- the reminders
    refine ⟨_, rfl, by show 3 ≤ sizeLine; decide, fun l1 hl1 => ?_⟩
    have s1 : Same HD (upd HD l1 (.lst [.int 1, .int 4, .int 11])) := same_upd hl1
    have n1 : l1 ≠ d := (ne_of_none hdC hl1).symm
    refine ⟨_, rfl, d, 3, st4, rfl, s1 _ _ hdC, hg4, by decide, by decide, fun HE st5 r5 k5 hd5 hg5 r50 r51 => ?_⟩
    have e1 : HE l1 = some (.lst (([1, 4, 11] : List Int).map V.int)) := k5 _ _ n1 upd_same
    obtain ⟨z1, hz1, a1⟩ := at_mem (L := [1, 4, 11]) r50 (by simpa using r51)
    have hz : 1 ≤ z1 ∧ z1 ≤ 11 := by simp at hz1; omega
    refine ⟨l1, _, r5, _, rfl, rfl, SqL.of e1, a1, d, z1, st5, rfl, hd5, hg5, hz.1, by omega, fun HF st6 r6 k6 hd6 hg6 r60 r61 => ?_⟩
    have kF : Kp d HD HF := (sKp s1).trans (k5.trans k6)
    have tF := kp_tup kF hdC
    refine ⟨_, rfl, by omega, by omega, for_range (lo := 0) (n := r6.toNat)
      (fun i σ H' => ∃ (st7 : List Int) (xs : List V) (rs : List Pr) (v2 v7 : Option V), σ = [some (.ref d), some (.int most), v2, some (.ref aT), some (.ref aC), some (.int ((per ts : Nat) : Int)), some (.ref l), v7] ∧
        Kp d H H' ∧ H' d = some (.lst (st7.map V.int)) ∧ Good st7 ∧ H' aT = some (.tup (ts.map V.str)) ∧ H' aC = some (.tup (cs.map V.int)) ∧ H' l = some (.lst xs) ∧ Prs H' xs rs ∧ rs.Nodup ∧ rs.length ≤ i ∧
        ∀ r ∈ rs, (0 : Int) ≤ r.1 ∧ r.1 < ((per ts : Nat) : Int) ∧ (0 : Int) ≤ r.2 ∧ r.2 < (ts.length : Int))
      ⟨st6, [], [], none, none, rfl, kC.trans kF, hd6, hg6, tF _ _ eT3, tF _ _ eC3, kF _ _ ndl.symm eL, .nil, .nil, Nat.le_refl _, fun r hr => by cases hr⟩ ?_ ?_⟩
    · rintro i σ H' hi ⟨st7, xs, rs, v2, v7, rfl, kG, hd7, hg7, eT4, eC4, eL4, hP, hN, hlen, hM⟩
      refine ⟨_, rfl, _, rfl, d, _, st7, rfl, hd7, hg7, by have := per_pos hT; omega, by have := per_le hT; omega, fun H5 st8 ra k8 hd8 hg8 ra0 ra1 => ?_⟩
      refine ⟨_, rfl, _, rfl, aT, _, rfl, .inr (SqT.of (kp_tup k8 hd7 _ _ eT4)), d, _, st8, rfl, hd8, hg8, by rw [List.length_map]; omega, by rw [List.length_map]; omega, fun H6 st9 rb k9 hd9 hg9 rb0 rb1 => ?_⟩
      rw [List.length_map] at rb1
      have kH : Kp d H' H6 := k8.trans k9
      have tH := kp_tup kH hd7
      refine ⟨by show 2 ≤ sizeLine; decide, fun p hp => ?_⟩
      have eL6 := same_upd (o := .tup [.int ra, .int rb]) hp _ _ (kH _ _ ndl.symm eL4)
      have hP6 : Prs (upd H6 p (.tup [.int ra, .int rb])) xs rs := hP.mono fun t ys h => same_upd hp _ _ (tH _ _ h)
      have hPr : PrAt (upd H6 p (.tup [.int ra, .int rb])) (.ref p) (ra, rb) := ⟨p, rfl, upd_same⟩
      have kI : Kp d H (upd H6 p (.tup [.int ra, .int rb])) := (kG.trans kH).trans (sKp (same_upd hp))
      have hd10 := same_upd (o := .tup [.int ra, .int rb]) hp _ _ hd9
      have eT6 := same_upd (o := .tup [.int ra, .int rb]) hp _ _ (tH _ _ eT4)
      have eC6 := same_upd (o := .tup [.int ra, .int rb]) hp _ _ (tH _ _ eC4)
      generalize upd H6 p (.tup [.int ra, .int rb]) = H7 at eL6 hP6 hPr kI hd10 eT6 eC6
      refine ⟨_, rfl, _, rfl, prR (ra, rb), rs.map prR, dp_pr hPr, .lst (SqL.of eL6) (dpAll_prs hP6), prR_shaped _, prRs_shaped _, _, rfl, ?_⟩
      rw [any_eqv]
      by_cases c : (ra, rb) ∈ rs
      · rw [decide_eq_true c]
        refine iteF ?_
        exact ⟨st9, xs, rs, _, _, rfl, kI, hd10, hg9, eT6, eC6, eL6, hP6, hN, by omega, hM⟩
      · rw [decide_eq_false c]
        refine iteT ?_
        refine ⟨_, rfl, .inl ⟨rfl, _, SqL.of eL6⟩, _, rfl, l, _, _, rfl, rfl, eL6, ?_, ?_⟩
        · rw [hP6.len]; exact Nat.lt_of_le_of_lt (by omega : rs.length ≤ 1000) (by decide)
        · have nlT : aT ≠ l := fun e => by rw [e, eL6] at eT6; cases eT6
          have nlC : aC ≠ l := fun e => by rw [e, eL6] at eC6; cases eC6
          have tK : ∀ t ys, H7 t = some (.tup ys) → (upd H7 l (.lst (xs ++ [V.ref p]))) t = some (.tup ys) := fun t ys h => by
            rw [upd_ne (fun e => by rw [e, eL6] at h; cases h)]; exact h
          refine ⟨st9, _, rs ++ [(ra, rb)], _, _, rfl, fun b o nb eb => ?_, by rw [upd_ne ndl]; exact hd10, hg9, tK _ _ eT6, tK _ _ eC6, upd_same, (hP6.mono tK).app ?_, ?_, ?_, fun r hr => ?_⟩
          · rw [upd_ne (fun e => by rw [e, nHl] at eb; cases eb)]; exact kI _ _ nb eb
          · obtain ⟨t, e, h⟩ := hPr
            exact ⟨t, e, tK _ _ h⟩
          · refine List.nodup_append.mpr ⟨hN, (by simp), fun a ha b hb => ?_⟩
            rw [List.mem_singleton.mp hb]
            exact fun e => c (e ▸ ha)
          · rw [List.length_append, List.length_singleton]; omega
          · rcases List.mem_append.mp hr with hr | hr
            · exact hM r hr
            · rw [List.mem_singleton.mp hr]; exact ⟨ra0, ra1, rb0, rb1⟩
    rintro σ H' ⟨st7, xs, rs, v2, v7, rfl, kG, hd7, hg7, eT4, eC4, eL4, hP, hN, hlen, hM⟩
    have hl10 : rs.length ≤ 10 := by omega
    -- the answer
    refine ⟨_, rfl, _, rfl, by show 2 ≤ sizeLine; decide, fun l2 hl2 => ?_⟩
    have s2 : Same H' (upd H' l2 (.lst [.int 3, .int 10])) := same_upd hl2
    have n2 : l2 ≠ d := (ne_of_none hd7 hl2).symm
    refine ⟨_, rfl, d, 2, st7, rfl, s2 _ _ hd7, hg7, by decide, by decide, fun H5 st8 r8 k8 hd8 hg8 r80 r81 => ?_⟩
    have e2 : H5 l2 = some (.lst (([3, 10] : List Int).map V.int)) := k8 _ _ n2 upd_same
    obtain ⟨z2, hz2, a2⟩ := at_mem (L := [3, 10]) r80 (by simpa using r81)
    have hz3 : 1 ≤ z2 ∧ z2 ≤ 10 := by simp at hz2; omega
    refine ⟨l2, _, r8, _, rfl, rfl, SqL.of e2, a2, d, z2, st8, rfl, hd8, hg8, hz3.1, by omega, fun H6 st9 keys k9 hd9 hg9 ky0 ky1 => ?_⟩
    have k10 : Kp d H' H6 := (sKp s2).trans (k8.trans k9)
    have t10 := kp_tup k10 hd7
    have hP6 := hP.mono t10
    have eL6 := k10 _ _ ndl.symm eL4
    refine ⟨_, rfl, _, rfl, l, xs, kf H6, rfl, SqL.of eL6, fun x hx => hP6.mem x hx, fun ys p hs hst hp => ?_⟩
    refine ⟨p, ys, rfl, .inl ⟨SqL.of upd_same, fun aR haR => ?_⟩⟩
    have s3 := same_upd (o := .lst ys) hp
    have s4 := same_upd (o := .tup ys) haR
    refine ⟨by show 4 ≤ sizeLine; decide, fun a ha => ?_⟩
    have s5 := same_upd (o := .tup [V.ref aT, V.int keys, V.ref aC, V.ref aR]) ha
    have perm : ys.Perm xs := hst.perm
    have hPy : Prs H6 ys (ys.map (kf H6)) := Prs.of_mem fun y hy => hP6.mem y (perm.mem_iff.mp hy)
    have permR : (ys.map (kf H6)).Perm rs := by
      have := perm.map (kf H6)
      rw [hP6.kf] at this
      exact this
    have s6 := (s3.trans s4).trans s5
    refine k _ st9 a ts keys cs (ys.map (kf H6)) ((kG.trans k10).trans (sKp s6)) (s6 _ _ hd9) hg9 ⟨⟨aT, aC, aR, ys, upd_same, s6 _ _ (t10 _ _ eT4), s6 _ _ (t10 _ _ eC4), s5 _ _ upd_same, hPy.mono fun t zs h => s6 _ _ h⟩⟩ ?_
    refine ⟨hT, hl6.1, hl6.2, ky0, by omega, hCP, fun c hc => ⟨(hCM c hc).1, ?_⟩, ?_, fun r hr => hM r (permR.mem_iff.mp hr), by rw [permR.length_eq]; exact hl10⟩
    · have := (hCM c hc).2; omega
    · refine sorted_plt ?_ (permR.nodup_iff.mpr hN)
      rw [List.pairwise_map]
      exact hs
end
end Dk

set_option Elab.async false
set_option linter.all false
set_option maxRecDepth 100000
set_option maxHeartbeats 4000000
/-! enumerate(tuple) -/
namespace Dk
open PySem PySem.Spec PyProof.Rows L2
theorem meets_enumB {v : Value} {o : Obj} {H : Heap → Prop} (B : Begins v o H) :
    Meets (Builtin.«enumerate.__new__» ⟨[.type "enumerate", v], []⟩) (fun _ R s => H s.heap ∧
      R (.ok (.ret (.ref (s.heap.push o).objs.size))) { s with heap := (s.heap.push o).push { cls := .type "enumerate", data := .fields #[.none, .bool false, .ref s.heap.objs.size, rawInt 0, .none, .none] } }) :=
  .of_wp fun prog w A R s h => by
    obtain ⟨hh, hR⟩ := h
    cases s with
    | mk h0 g0 d0 t0 o0 =>
      have _ := sub_enumerate
      have begin_ {A1 : Around} {E1 Q1 : Value → Shared → Prop} (q : Q1 (.ref h0.objs.size) ⟨h0.push o, g0, d0, t0, o0⟩) : wpAny (model prog w) A1 (pyIter v) Q1 E1 ⟨h0, g0, d0, t0, o0⟩ := B.iter prog w _ _ _ _ hh q
      (wp_walk using begin_); refine wpAny_stack_any fun _ => ?_
      refine wpAny_pure ?_
      split
      next c _ _ _ _ _ => cases (c == Value.type "enumerate") <;> (wp_walk using begin_) <;> exact ⟨_, rfl, hR⟩
      next => (wp_walk using begin_); exact ⟨_, rfl, hR⟩
section
variable {prog : Program} {w : World} {A : Around} {E : Value → Shared → Prop} {s : Shared}
theorem enum_beginsB {v : Value} {o : Obj} {H : Heap → Prop} {Q : Value → Shared → Prop} (B : Begins v o H) (h1 : H s.heap)
    (h : ∀ h', IsEnum h' (s.heap.objs.size + 1) s.heap.objs.size 0 .none → h'.get? s.heap.objs.size = some o → h'.objs.size = s.heap.objs.size + 2 →
      (∀ b o, s.heap.get? b = some o → h'.get? b = some o) → Q (.ref (s.heap.objs.size + 1)) { s with heap := h' }) :
    wpAny (model prog w) A (call (.type "enumerate") [v]) Q E s := by
  refine callType_new F.called_enumerate (by decide) (F.typeCall_enumerate_1 _) (F.newCall_enumerate_1 _) (fun obj => F.args_object_init_2 obj _) F.entry_enumerate_new
    (meets_enumB B) ⟨h1, ?_⟩
  have hzz : (s.heap.push o).objs.size = s.heap.objs.size + 1 := Heap.size_push ..
  show _ ∧ _
  rw [hzz]
  have he : IsEnum ((s.heap.push o).push { cls := .type "enumerate", data := .fields #[.none, .bool false, .ref s.heap.objs.size, rawInt 0, .none, .none] }) (s.heap.objs.size + 1) s.heap.objs.size 0 .none := by
    have := Heap.get?_push_size (s.heap.push o) (o := { cls := .type "enumerate", data := .fields #[.none, .bool false, .ref s.heap.objs.size, rawInt 0, .none, .none] }) rfl
    rw [hzz] at this; exact this
  refine ⟨⟨_, he, rfl⟩, h _ he (Heap.get?_push_of_some _ (Heap.get?_push_size _ B.free)) (by rw [Heap.size_push, hzz]) fun b o x => Heap.get?_push_of_some _ (Heap.get?_push_of_some _ x)⟩
end
/-- the tuple at a, each item in a nw pair -/
def IteT (K : PySem.W.Frag) (a : Addr) : It :=
  ⟨fun i H => ∃ (xs : List V) (x : V), SqT K H a xs ∧ xs[i]? = some x, fun i H v H' => ∃ T x, v = .ref T ∧ H T = none ∧ H' = upd H T (.tup [.int (i : Nat), x]) ∧ ∀ xs, SqT K H a xs → xs[i]? = some x, fun i H => ∃ xs : List V, SqT K H a xs ∧ xs.length = i⟩
theorem turn_enumT {P : Program} {w : World} {K : PySem.W.Frag} {elts : List Expr} {kk : Nat} {tpos : Pos} (a e it : Addr) :
    Turn P w K (.Tuple elts kk tpos) (IteT K a) [e, it] e (fun i h => (∃ was, IsEnum h e it ((i : Nat) : Int) was) ∧ h.IsTupleIter it a i ∧ e ≠ it ∧ a ≠ it ∧ a ≠ e) where
  mem := by simp
  obj := fun i h stt b hb => by
    obtain ⟨⟨was, he⟩, ⟨o, hob, hcl, hd⟩, _⟩ := stt
    have ee : b = e ∨ b = it := by simpa using hb
    rcases ee with z | z
    · rw [z]; exact ⟨_, he, fun v q => nomatch q⟩
    · rw [z]; exact ⟨o, hob, fun v q => by rw [hd] at q; cases q⟩
  keep := fun i h h' stt k => let ⟨⟨was, he⟩, hi, neq⟩ := stt; ⟨⟨was, k e (by simp) _ he⟩, hi.at fun o q => k it (by simp) o q, neq⟩
  item := by
    intro X hP hw hK hcl i pins s σ H E I hf stt hg
    subst hP hw hK
    obtain ⟨⟨was, he⟩, hit, neq, hai, hae⟩ := stt
    obtain ⟨xs, x, hq, hx⟩ := hg
    obtain ⟨its, rv, p, hzz⟩ := I.tuple hq
    obtain ⟨u, hu, ru⟩ := rv.get hx
    have elt : e < s.heap.objs.size := Heap.lt_size he
    have ilt : it < s.heap.objs.size := by obtain ⟨_, q, _⟩ := hit; exact Heap.lt_size q
    have hlen : i < its.toArray.size := by
      have h1 := (List.getElem?_eq_some_iff.mp hu).1
      simpa using h1
    refine wpAny_pyNext_enum_itemC (n := its.toArray.size) (i := i) (Draws.tuple (A := X.A.in1) (show X.A.in1.handled = none from I.ok.hd hcl) it a hai its.toArray) he ⟨hit, p⟩ hlen neq (by simp; exact ⟨neq, fun z => hae z.symm⟩) fun y h' tk hP hob hst hT hsize hkeep => ?_
    have ey : y = u := by
      have h1 : its.toArray[i]? = some u := by simpa using hu
      rw [h1] at hP
      exact (Option.some.inj hP).symm
    subst ey
    refine ⟨_, rfl, wpAny_letOwnedTupleGo_enum (s := { s with heap := h', toks := tk + 1 }) hob fun h'' he' same2 => ?_⟩
    have hT2 : h''.get? s.heap.objs.size = some { cls := .type "tuple", data := .seq #[.int i tk, y] } := (same2.2 _ (Nat.ne_of_gt elt)).trans hT
    have nw : ObjOk X.prog X.w (upd H s.heap.objs.size (.tup [.int (i : Nat), x])) h'' s.heap.objs.size (.tup [.int (i : Nat), x]) :=
      ⟨by show 2 ≤ sizeLine; decide, [.int i tk, y], .cons ⟨_, rfl⟩ (.cons ru .nil), ⟨_, hT2, rfl, _, rfl⟩⟩
    have J1 : Inv X pins σ (upd H s.heap.objs.size (.tup [.int (i : Nat), x])) { s with heap := h'', toks := tk + 1 } :=
      I.turnedNew (ch := [e, it]) (fun b ob hb q => (same2.2 b (fun z => hb (by simp [z]))).trans (hkeep b ob (fun z => hb (by simp [z])) (fun z => hb (by simp [z])) q)) hf (Nat.le_refl _) nw
    refine ⟨.ref s.heap.objs.size, _, J1, rfl, ⟨_, x, rfl, I.hok.fresh (Nat.le_refl _), rfl, fun ys hy => by rw [I.tuple_inj hy hq]; exact hx⟩, ⟨⟨y, ?_⟩, hst.1.at fun o q => (same2.2 it (Ne.symm neq)).trans q, neq, hai, hae⟩, fun b hb => ?_⟩
    · have esum : ((i + 1 : Nat) : Int) = (i : Int) + 1 := by omega
      rw [esum]; exact he'
    · have hlow : b < s.heap.objs.size := by
        have ee : b = e ∨ b = it := by simpa using hb
        rcases ee with z | z
        · rw [z]; exact elt
        · rw [z]; exact ilt
      rw [upd_ne (Nat.ne_of_lt hlow)]
      exact (hf b hb).1
  done := by
    intro X hP hw hK hcl i pins s σ H E I hf stt hg
    subst hP hw hK
    obtain ⟨⟨was, he⟩, hit, neq, hai, hae⟩ := stt
    obtain ⟨xs, hq, hx⟩ := hg
    obtain ⟨its, rv, p, hzz⟩ := I.tuple hq
    obtain ⟨k0, k1, k2, k3, k4, k5⟩ := hf it (by simp)
    have hl : its.toArray.size = i := by have := rv.length; simp; omega
    have D := Draws.tuple (prog := X.prog) (w := X.w) (A := X.A.in1) (I.ok.hd hcl) it a hai its.toArray
    exact wpAny_pyNext_enum_endD D he (hl ▸ ⟨hit, p⟩) fun h' eb => ⟨rfl, I.turned (t' := s.toks) (fun b o hb q => eb b o hb q) k0 k1 k3 k4 k5⟩
  self := fun A i s Q E stt h => let ⟨⟨_, he⟩, _⟩ := stt; wpAny_pyIter_enum he h
def iEnumT (K : PySem.W.Frag) (ta : TA) : TI := fun σ H R => ta σ H fun vs H1 => ∃ a xs, vs = [.ref a] ∧ SqT K H1 a xs ∧ R (IteT K a) H1
theorem pi_enumT {X : Cx} {e : Expr} {ta : TA} {p pos tpos : Pos} {elts : List Expr} {kk : Nat} (hg : Gl X "enumerate") (hm : X.mg "enumerate" = none) (ha : PA X [e] ta) (hs : starEach [e] X.env = [(false, eval e X.env)] := by rfl) :
    PI X (.Tuple elts kk tpos) (.Call (.Name "enumerate" p) [e] [] pos) (iEnumT X.K ta) := by
  refine ⟨fun pins s σ H R I h => ?_⟩
  refine Call_ (ld_blt I hg hm boot_enumerate (PyProof.Rows.callWith_type1 (thn (ha.run pos pins s σ H _ I h) fun us s1 ⟨vs, H1, J1, r1, q1⟩ => ?_) hs rfl))
  obtain ⟨a, xs, ex, hq, q⟩ := q1
  subst ex
  cases r1 with
  | cons r rr =>
    cases rr
    cases r
    obtain ⟨its, rv, p', hzz⟩ := J1.tuple hq
    have hal : a < s1.heap.objs.size := p'.lt
    refine enum_beginsB (begins_tuple a its.toArray) p' fun h' he hit hsize hkeep => wpAny_pyIter_enum he ?_
    have J2 : Inv X pins σ H1 { s1 with heap := h' } := J1.kept (t' := s1.toks) hkeep
    refine ⟨s1.heap.objs.size + 1, [s1.heap.objs.size + 1, s1.heap.objs.size], _, _, H1, rfl, J2, turn_enumT a (s1.heap.objs.size + 1) s1.heap.objs.size, ⟨⟨.none, he⟩, ⟨_, hit, rfl, rfl⟩, Nat.succ_ne_self _, Nat.ne_of_lt hal, Nat.ne_of_lt (Nat.lt_succ_of_lt hal)⟩, fun b hb => ?_, q⟩
    have ee : b = s1.heap.objs.size + 1 ∨ b = s1.heap.objs.size := by simpa using hb
    have hle : s1.heap.objs.size ≤ b := by
      rcases ee with z | z
      · rw [z]; exact Nat.le_add_right _ _
      · rw [z]; exact Nat.le_refl _
    exact J1.fpOk hle (J1.hok.fresh hle)
theorem walk_enumT {K : PySem.W.Frag} {a : Addr} {xs : List V} : Walk (IteT K a) xs.length (fun H => SqT K H a xs) (YPair (fun i => some (.int (i : Nat))) (fun i => xs[i]?)) := by
  refine ⟨fun i _ hi q => ⟨xs, xs[i], q, by simp [hi]⟩, fun _ q => ⟨xs, q, rfl⟩, fun i H v H' hi q y => ?_⟩
  obtain ⟨T, x, esum, e2, e3, e4⟩ := y
  exact ⟨T, _, x, esum, e2, e3, rfl, e4 xs q⟩
end Dk

set_option Elab.async false
set_option linter.all false
set_option maxRecDepth 100000
set_option maxHeartbeats 4000000
namespace Dk
open PySem PySem.Spec PyProof.Rows L2 TL
/-! ### what the checks say of any data -/
def tyN : PyData → String
  | .none => "NoneType"
  | .bool _ => "bool"
  | .int _ => "int"
  | .str _ => "str"
  | .list _ => "list"
  | .tuple _ => "tuple"
  | .dict _ => "dict"
theorem tyx {K : PySem.W.Frag} {H : Hp} {v : V} {d : PyData} (h : Dp K H v d) : TyX K H v (.type (tyN d)) := by
  cases h with
  | non => exact .base .non
  | bl b => exact .base (.bl b)
  | int i => exact .base (.int i)
  | str x => exact .base (.str x)
  | lst hs ha =>
    rcases hs with (e | ⟨o, e⟩) | ⟨o, its, n, hk, hc, _⟩
    · exact .base (.lst e)
    · exact .base (.frz e)
    · exact .kList hk hc
  | tup hs ha =>
    rcases hs with (e | ⟨o, e⟩) | ⟨o, its, n, hk, hc, _⟩
    · exact .base (.tup e)
    · exact .fTuple e
    · exact .kTuple hk hc
def isIntD : PyData → Bool
  | .int _ => true
  | _ => false
def isIntB : PyData → Bool
  | .int _ => true
  | .bool _ => true
  | _ => false
def isBoolD : PyData → Bool
  | .bool _ => true
  | _ => false
def isStrD : PyData → Bool
  | .str _ => true
  | _ => false
def isTupD : PyData → Bool
  | .tuple _ => true
  | _ => false
def isLstD : PyData → Bool
  | .list _ => true
  | _ => false
theorem kit_int : ∀ d : PyData, kitB (tyN d) "int" = some (isIntB d)
  | .none => (by decide +kernel : kitB "NoneType" "int" = some false)
  | .bool _ => (by decide +kernel : kitB "bool" "int" = some true)
  | .int _ => (by decide +kernel : kitB "int" "int" = some true)
  | .str _ => (by decide +kernel : kitB "str" "int" = some false)
  | .list _ => (by decide +kernel : kitB "list" "int" = some false)
  | .tuple _ => (by decide +kernel : kitB "tuple" "int" = some false)
  | .dict _ => (by decide +kernel : kitB "dict" "int" = some false)
theorem kit_bool : ∀ d : PyData, kitB (tyN d) "bool" = some (isBoolD d)
  | .none => (by decide +kernel : kitB "NoneType" "bool" = some false)
  | .bool _ => (by decide +kernel : kitB "bool" "bool" = some true)
  | .int _ => (by decide +kernel : kitB "int" "bool" = some false)
  | .str _ => (by decide +kernel : kitB "str" "bool" = some false)
  | .list _ => (by decide +kernel : kitB "list" "bool" = some false)
  | .tuple _ => (by decide +kernel : kitB "tuple" "bool" = some false)
  | .dict _ => (by decide +kernel : kitB "dict" "bool" = some false)
theorem kit_str : ∀ d : PyData, kitB (tyN d) "str" = some (isStrD d)
  | .none => (by decide +kernel : kitB "NoneType" "str" = some false)
  | .bool _ => (by decide +kernel : kitB "bool" "str" = some false)
  | .int _ => (by decide +kernel : kitB "int" "str" = some false)
  | .str _ => (by decide +kernel : kitB "str" "str" = some true)
  | .list _ => (by decide +kernel : kitB "list" "str" = some false)
  | .tuple _ => (by decide +kernel : kitB "tuple" "str" = some false)
  | .dict _ => (by decide +kernel : kitB "dict" "str" = some false)
theorem kit_tup : ∀ d : PyData, kitB (tyN d) "tuple" = some (isTupD d)
  | .none => (by decide +kernel : kitB "NoneType" "tuple" = some false)
  | .bool _ => (by decide +kernel : kitB "bool" "tuple" = some false)
  | .int _ => (by decide +kernel : kitB "int" "tuple" = some false)
  | .str _ => (by decide +kernel : kitB "str" "tuple" = some false)
  | .list _ => (by decide +kernel : kitB "list" "tuple" = some false)
  | .tuple _ => (by decide +kernel : kitB "tuple" "tuple" = some true)
  | .dict _ => (by decide +kernel : kitB "dict" "tuple" = some false)
theorem kit_lst : ∀ d : PyData, kitB (tyN d) "list" = some (isLstD d)
  | .none => (by decide +kernel : kitB "NoneType" "list" = some false)
  | .bool _ => (by decide +kernel : kitB "bool" "list" = some false)
  | .int _ => (by decide +kernel : kitB "int" "list" = some false)
  | .str _ => (by decide +kernel : kitB "str" "list" = some false)
  | .list _ => (by decide +kernel : kitB "list" "list" = some true)
  | .tuple _ => (by decide +kernel : kitB "tuple" "list" = some false)
  | .dict _ => (by decide +kernel : kitB "dict" "list" = some false)
def below (d : PyData) (lim : Int) : Bool := match d with
  | .int i => decide (0 ≤ i) && decide (i < lim)
  | _ => false
def only (w cs : Str) : Bool := (tl w).all fun c => decide (c ∈ tl cs)
def tabLens : List Int := [1, 2, 3, 4, 6, 8, 12, 24]
def hoS : Str := Str.ofString "ho"
def isTabD : PyData → Bool
  | .str t => decide ((t.length : Int) ∈ tabLens) && only t hoS
  | _ => false
def isRemD (d : PyData) (per n : Int) : Bool := match d with
  | .tuple [a, b] => below a per && below b n
  | _ => false
structure TxtF (K : PySem.W.Frag) (mg : Str → Option Value) (fII fIB fHO : Addr) (fdII fdIB fdHO : FuncData) : Prop where
  isinstance : mg "isinstance" = none
  int : mg "int" = none
  bool : mg "bool" = none
  str : mg "str" = none
  tuple : mg "tuple" = none
  all : mg "all" = none
  gII : mg "is_integer" = some (.ref fII)
  FII : Fun K "is_integer" "is_integer" sIsInt fII fdII
  bII : Binds K fdII ["value"] []
  gIB : mg "is_below" = some (.ref fIB)
  FIB : Fun K "is_below" "is_below" sIsBelow fIB fdIB
  bIB : Binds K fdIB ["value", "limit"] []
  gHO : mg "has_only" = some (.ref fHO)
  FHO : Fun K "has_only" "has_only" sHasOnly fHO fdHO
  bHO : Binds K fdHO ["word", "characters"] []
  letters : ∃ t, mg "LETTERS" = some (.str hoS t)
  lengths : ∃ a, mg "TABLE_LENGTHS" = some (.ref a) ∧ SqT K (fun _ => none) a (tabLens.map V.int)
def spIsInt (K : PySem.W.Frag) : Sp := fun vs H Q _ => ∃ (v : V) (d : PyData), vs = [v] ∧ Dp K H v d ∧ Q (.bl (isIntD d)) H
def spIsBelow (K : PySem.W.Frag) : Sp := fun vs H Q _ => ∃ (v : V) (d : PyData) (lim : Int), vs = [v, .int lim] ∧ Dp K H v d ∧ Q (.bl (below d lim)) H
def spHasOnly : Sp := fun vs H Q _ => ∃ (x cs : Str), vs = [.str x, .str cs] ∧ x.length ≤ 100000 ∧ ∀ H', Same H H' → Q (.bl (only x cs)) H'
def spIsTable (K : PySem.W.Frag) : Sp := fun vs H Q _ => ∃ (v : V) (d : PyData), vs = [v] ∧ Dp K H v d ∧ (∀ t, d = .str t → t.length ≤ 100000) ∧ ∀ H', Same H H' → Q (.bl (isTabD d)) H'
def spIsRem (K : PySem.W.Frag) : Sp := fun vs H Q _ => ∃ (v : V) (d : PyData) (per n : Int), vs = [v, .int per, .int n] ∧ Dp K H v d ∧ Q (.bl (isRemD d per n)) H
section
variable {P : Program} {w : World} {K : PySem.W.Frag} {mg : Str → Option Value} {base : Heap} {fII fIB fHO : Addr} {fdII fdIB fdHO : FuncData}
theorem scIsInt : FnScope ["value"] ["value"] (defScope sIsInt) := ⟨rfl, rfl, rfl, by decide +kernel, rfl, by decide +kernel, by decide +kernel⟩
theorem ok_isint (TF : TxtF K mg fII fIB fHO fdII fdIB fdHO) : FnOk P w K mg base CX0 1 fII fdII ["value"] (spIsInt K) := by
  refine TF.FII.ok scIsInt (fun vs H Q E h => ?_) (fun cdv A outer s H vs Q E hr h => ?_)
  · obtain ⟨v, d, rfl, _⟩ := h
    rfl
  · obtain ⟨v, d, rfl, hd, k⟩ := h
    refine ⟨_, pss_one (ps_ret (pe_and (pe_callB call_isi (by rfl) TF.isinstance (by decide +kernel) (pa_cons (pv 0) (pa_cons (pe_bltn (v := .ty "int") (by rfl) TF.int (by decide +kernel) rfl) pa_nil)))
      (pe_one (pe_not (pe_callB call_isi (by rfl) TF.isinstance (by decide +kernel) (pa_cons (pv 0) (pa_cons (pe_bltn (v := .ty "bool") (by rfl) TF.bool (by decide +kernel) rfl) pa_nil))))))), ?_⟩
    refine ⟨_, rfl, _, _, _, _, _, rfl, .ty "int", tyx hd, kit_ty (kit_int d), _, rfl, ?_⟩
    cases e : isIntB d with
    | false =>
      refine iteF ?_
      have : isIntD d = false := by cases d <;> first | rfl | cases e
      rw [← this]; exact k
    | true =>
      refine iteT ⟨_, rfl, _, _, _, _, _, rfl, .ty "bool", tyx hd, kit_ty (kit_bool d), _, rfl, ?_⟩
      have : (!isBoolD d) = isIntD d := by cases d <;> first | rfl | cases e
      rw [this]; exact k
theorem scIsBelow : FnScope ["value", "limit"] ["value", "limit"] (defScope sIsBelow) := ⟨rfl, rfl, rfl, by decide +kernel, rfl, by decide +kernel, by decide +kernel⟩
theorem ok_isbelow (TF : TxtF K mg fII fIB fHO fdII fdIB fdHO) : FnOk P w K mg base CX0 2 fIB fdIB ["value", "limit"] (spIsBelow K) := by
  have GI : FnOk P w K mg base CX0 1 fII fdII ["value"] (spIsInt K) := ok_isint TF
  refine TF.FIB.ok scIsBelow (fun vs H Q E h => ?_) (fun cdv A outer s H vs Q E hr h => ?_)
  · obtain ⟨v, d, lim, rfl, _⟩ := h
    rfl
  · obtain ⟨v, d, lim, rfl, hd, k⟩ := h
    refine ⟨_, pss_one (ps_ret (pe_and (pe_call GI hr rfl TF.gII TF.FII.kp TF.bII .nil pass0 (pa_cons (pv 0) pa_nil)) (pe_one (pe_chain op_le op_lt pe_int (pv 0) (pv 1))))), ?_⟩
    refine ⟨_, rfl, v, d, rfl, hd, _, rfl, ?_⟩
    cases hd with
    | int i =>
      refine iteT ⟨_, rfl, _, _, rfl, rfl, _, rfl, ?_⟩
      by_cases c : (0 : Int) ≤ i
      · rw [decide_eq_true c]
        refine iteT ⟨_, rfl, _, _, rfl, rfl, ?_⟩
        have e : below (.int i) lim = decide (i < lim) := by show (decide ((0 : Int) ≤ i) && decide (i < lim)) = _; rw [decide_eq_true c]; rfl
        rw [e] at k; exact k
      · rw [decide_eq_false c]
        refine iteF ?_
        have e : below (.int i) lim = false := by show (decide ((0 : Int) ≤ i) && decide (i < lim)) = _; rw [decide_eq_false c]; rfl
        rw [e] at k; exact k
    | non => exact iteF k
    | bl b => exact iteF k
    | str x => exact iteF k
    | lst hs ha => exact iteF k
    | tup hs ha => exact iteF k
theorem scHasOnly : FnScope ["word", "characters", "character"] ["word", "characters"] (defScope sHasOnly) := ⟨rfl, rfl, rfl, by decide +kernel, rfl, by decide +kernel, by decide +kernel⟩
theorem ok_hasonly (TF : TxtF K mg fII fIB fHO fdII fdIB fdHO) : FnOk P w K mg base CX0 1 fHO fdHO ["word", "characters"] spHasOnly := by
  refine TF.FHO.ok scHasOnly (fun vs H Q E h => ?_) (fun cdv A outer s H vs Q E hr h => ?_)
  · obtain ⟨x, cs, rfl, _⟩ := h
    rfl
  · obtain ⟨x, cs, rfl, hlen, k⟩ := h
    refine ⟨_, pss_one (ps_ret (pe_callB (cr_all rfl) (by rfl) TF.all (by decide +kernel) (pa_cons
        (pe_lc (own := [("character", 2)]) (g := gName 2) (by rfl) scHasOnly.nd (pi_str (pv 0)) (blkOk_by (N := ["word", "characters", "character"]) (sc := defScope sHasOnly) (by decide +kernel))
          (fun _ _ _ _ _ => pg_name (i := 2) scHasOnly.nd rfl (Or.inl rfl)) (fun _ _ _ _ _ => pts_nil)
          (fun _ _ _ _ _ => pe_cmpR op_in_sign (pv 2) (pv 1) (by rfl))) pa_nil))), ?_⟩
    refine ⟨_, rfl, x, rfl, fun D hD => lc_it walk_str
      (fun i H3 => Same H H3 ∧ H3 D = some (.lst ((((tl x).take i).map fun c => decide (c ∈ tl cs)).map V.bl)))
      ⟨same_upd hD, upd_same⟩ (fun _ _ _ _ => True.intro) ?_ ?_⟩
    · rintro i y H3 H4 hi ⟨s3, eD⟩ ⟨rfl, c, hc, rfl⟩
      have hc' : (tl x)[i]? = some c := by rw [← hc]; exact Array.getElem?_toList
      refine ⟨rfl, _, rfl, _, rfl, c, cs, rfl, rfl, _, eD, ?_, fun b o eb => ?_, ?_⟩
      · have hx : i < x.length := hi
        rw [List.length_map, List.length_map, List.length_take]
        exact Nat.lt_of_le_of_lt (Nat.le_trans (Nat.min_le_left _ _) (by omega : i ≤ 100000)) (by decide)
      · rw [upd_ne (ne_of_none eb hD)]; exact s3 _ _ eb
      · rw [upd_same, take_more hc', List.map_append, List.map_append]; rfl
    · rintro H3 ⟨s3, eD⟩
      have e : (tl x).take x.cps.size = tl x := List.take_of_length_le (by simp)
      rw [e] at eD
      refine ⟨D, _, rfl, SqL.of eD, ?_⟩
      have e2 : List.all ((tl x).map fun c => decide (c ∈ tl cs)) id = only x cs := by
        unfold only
        rw [List.all_map]; rfl
      rw [e2]
      exact k _ s3
end
end Dk

set_option Elab.async false
set_option linter.all false
set_option maxRecDepth 100000
set_option maxHeartbeats 1000000
namespace Dk
open PySem PySem.Spec PyProof.Rows L2 TL
theorem sqtK {K : PySem.W.Frag} {H : Hp} {a : Addr} {xs : List V} (h : SqT K (fun _ => none) a xs) : SqT K H a xs := by
  rcases h with (h | ⟨o, h⟩) | h
  · cases h
  · cases h
  · exact .inr h
theorem any_eqI (l : List Int) (n : Int) : inV (.int n) (l.map V.int) = decide (n ∈ l) := by
  unfold inV
  induction l with
  | nil => rfl
  | cons m l ih =>
    rw [List.map_cons, List.any_cons, ih]
    show (m == n || decide (n ∈ l)) = decide (n ∈ m :: l)
    by_cases e : m = n
    · subst e; simp
    · have e' : n ≠ m := fun q => e q.symm
      simp [e, e']
theorem flat_ints (l : List Int) : (l.map V.int).all flatV = true := by
  induction l with
  | nil => rfl
  | cons m l ih => rw [List.map_cons, List.all_cons, ih]; rfl
/-- x < y, two ints or two tuples of ints -/
def Lt2 (K : PySem.W.Frag) (H : Hp) (x y : V) (b : Bool) : Prop :=
  (∃ m n : Int, x = .int m ∧ y = .int n ∧ b = decide (m < n)) ∨ (∃ (a c : Addr) (ns ms : List Int), x = .ref a ∧ y = .ref c ∧ SqT K H a (ns.map V.int) ∧ SqT K H c (ms.map V.int) ∧ b = HT.lexLt ns ms)
def rLt2 (K : PySem.W.Frag) : R2 := fun x y H Q => ∃ b, Lt2 K H x y b ∧ Q (.bl b) H
theorem op_lt2 {X : Cx} (hu : X.A.units < cLine) : OpR X (compareOp .Lt) (rLt2 X.K) := by
  intro pins s σ H x y v u Q I rx ry h
  obtain ⟨b, h | h, q⟩ := h
  · obtain ⟨m, n, rfl, rfl, rfl⟩ := h
    exact op_lt pins s σ H _ _ v u Q I rx ry ⟨m, n, rfl, rfl, q⟩
  · obtain ⟨a, c, ns, ms, rfl, rfl, h1, h2, rfl⟩ := h
    exact op_ltT hu pins s σ H _ _ v u Q I rx ry ⟨a, c, ns, ms, rfl, rfl, h1, h2, q⟩
def spAsc (K : PySem.W.Frag) : Sp := fun vs H Q _ => ∃ (a : Addr) (xs : List V) (i : Nat) (b : Bool), vs = [.ref a, .int (i : Int)] ∧ SqT K H a xs ∧ i < xs.length ∧ (i = 0 → b = true) ∧
  (∀ j, i = j + 1 → ∃ x y, xs[j]? = some x ∧ xs[j + 1]? = some y ∧ Lt2 K H x y b) ∧ Q (.bl b) H
section
variable {P : Program} {w : World} {K : PySem.W.Frag} {mg : Str → Option Value} {base : Heap} {fII fIB fHO : Addr} {fdII fdIB fdHO : FuncData}
theorem scIsTable : FnScope ["table"] ["table"] (defScope sIsTable) := ⟨rfl, rfl, rfl, by decide +kernel, rfl, by decide +kernel, by decide +kernel⟩
theorem ok_istable {f : Addr} {fd : FuncData} (F : Fun K "is_table" "is_table" sIsTable f fd) (T : TxtA mg) (TF : TxtF K mg fII fIB fHO fdII fdIB fdHO) : FnOk P w K mg base CX0 2 f fd ["table"] (spIsTable K) := by
  have GH : FnOk P w K mg base CX0 1 fHO fdHO ["word", "characters"] spHasOnly := ok_hasonly TF
  obtain ⟨tL, eL⟩ := TF.letters
  obtain ⟨aT, eT, hT⟩ := TF.lengths
  refine F.ok scIsTable (fun vs H Q E h => ?_) (fun cdv A outer s H vs Q E hr h => ?_)
  · obtain ⟨v, d, rfl, _⟩ := h
    rfl
  · obtain ⟨v, d, rfl, hd, hz, k⟩ := h
    refine ⟨_, pss_one (ps_ret (pe_and (pe_callB call_isi (by rfl) TF.isinstance (by decide +kernel) (pa_cons (pv 0) (pa_cons (pe_bltn (v := .ty "str") (by rfl) TF.str (by decide +kernel) rfl) pa_nil)))
      (pe_and (pe_cmpR op_in_seq (pe_callB call_len_str (by rfl) T.len PySem.boot_len (pa_cons (pv 0) pa_nil)) (pe_glob (v := .ref aT) rfl eT rfl) (by rfl))
      (pe_one (pe_call GH hr rfl TF.gHO TF.FHO.kp TF.bHO .nil pass0 (pa_cons (pv 0) (pa_cons (pe_glob (v := .str hoS) rfl eL ⟨_, rfl⟩) pa_nil))))))), ?_⟩
    refine ⟨_, rfl, _, _, _, _, _, rfl, .ty "str", tyx hd, kit_ty (kit_str d), _, rfl, ?_⟩
    cases hd with
    | str x =>
      have hx := hz x rfl
      refine iteT ⟨_, rfl, _, rfl, Nat.le_trans hx (by decide), aT, _, rfl, .inr (sqtK hT), rfl, flat_ints _, _, rfl, ?_⟩
      show (if inV (.int (x.length : Int)) (tabLens.map V.int) = true then _ else _)
      rw [any_eqI]
      by_cases c : (x.length : Int) ∈ tabLens
      · rw [decide_eq_true c]
        refine iteT ⟨_, rfl, x, hoS, rfl, hx, fun H' s' => ?_⟩
        have e : isTabD (.str x) = only x hoS := by show (decide _ && _) = _; rw [decide_eq_true c]; rfl
        rw [← e]; exact k _ s'
      · rw [decide_eq_false c]
        refine iteF ?_
        have e : isTabD (.str x) = false := by show (decide _ && _) = _; rw [decide_eq_false c]; rfl
        have := k H (Same.refl H)
        rw [e] at this; exact this
    | non => exact iteF (k H (Same.refl H))
    | bl b => exact iteF (k H (Same.refl H))
    | int i => exact iteF (k H (Same.refl H))
    | lst hs ha => exact iteF (k H (Same.refl H))
    | tup hs ha => exact iteF (k H (Same.refl H))
theorem scIsRem : FnScope ["reminder", "period", "persons"] ["reminder", "period", "persons"] (defScope sIsRem) := ⟨rfl, rfl, rfl, by decide +kernel, rfl, by decide +kernel, by decide +kernel⟩
theorem ok_isrem {f : Addr} {fd : FuncData} (F : Fun K "is_reminder" "is_reminder" sIsRem f fd) (T : TxtA mg) (TF : TxtF K mg fII fIB fHO fdII fdIB fdHO) : FnOk P w K mg base CX0 3 f fd ["reminder", "period", "persons"] (spIsRem K) := by
  have GB : FnOk P w K mg base CX0 2 fIB fdIB ["value", "limit"] (spIsBelow K) := ok_isbelow TF
  refine F.ok scIsRem (fun vs H Q E h => ?_) (fun cdv A outer s H vs Q E hr h => ?_)
  · obtain ⟨v, d, per, n, rfl, _⟩ := h
    rfl
  · obtain ⟨v, d, per, n, rfl, hd, k⟩ := h
    refine ⟨_, pss_cons (ps_if (PW.pt (pw_or (pt_not (pt_val (pe_callB call_isi (by rfl) TF.isinstance (by decide +kernel) (pa_cons (pv 0) (pa_cons (pe_bltn (v := .ty "tuple") (by rfl) TF.tuple (by decide +kernel) rfl) pa_nil)))))
        (pw_or1 (pt_cmpR op_ne (pe_callB call_len_seq (by rfl) T.len PySem.boot_len (pa_cons (pv 0) pa_nil)) pe_int (nomark _))))) (pss_one (ps_ret pe_bl)) pss_nil)
      (pss_one (ps_ret (pe_and (pe_call GB hr rfl TF.gIB TF.FIB.kp TF.bIB .nil pass0 (pa_cons (pe_ix ix_tup (pv 0) pe_int (fun _ _ => rfl)) (pa_cons (pv 1) pa_nil)))
        (pe_one (pe_call GB hr rfl TF.gIB TF.FIB.kp TF.bIB .nil pass0 (pa_cons (pe_ix ix_tup (pv 0) pe_int (fun _ _ => rfl)) (pa_cons (pv 2) pa_nil))))))), ?_⟩
    refine ⟨_, rfl, _, _, _, _, _, rfl, .ty "tuple", tyx hd, kit_ty (kit_tup d), _, rfl, ?_⟩
    cases hd with
    | str x => exact iteT (iteT k)
    | non => exact iteT (iteT k)
    | bl b => exact iteT (iteT k)
    | int i => exact iteT (iteT k)
    | lst hs ha => exact iteT (iteT k)
    | @tup a xs ds hs ha =>
      refine iteF ⟨_, rfl, a, xs, rfl, .inr hs, rfl, _, rfl, ?_⟩
      cases ha with
      | nil => exact iteT k
      | cons h1 ha =>
        rename_i v1 vs1 d1 ds1
        cases ha with
        | nil => exact iteT k
        | cons h2 ha =>
          rename_i v2 vs2 d2 ds2
          cases ha with
          | nil =>
            refine iteF ?_
            refine ⟨_, rfl, a, _, 0, v1, rfl, rfl, hs, at0, _, rfl, v1, d1, per, rfl, h1, _, rfl, ?_⟩
            have e : isRemD (.tuple [d1, d2]) per n = (Dk.below d1 per && Dk.below d2 n) := rfl
            rw [e] at k
            cases c : Dk.below d1 per with
            | false => rw [c] at k; exact iteF k
            | true =>
              rw [c] at k
              exact iteT ⟨_, rfl, a, _, 1, v2, rfl, rfl, hs, at1, _, rfl, v2, d2, n, rfl, h2, k⟩
          | cons h3 ha =>
            rename_i v3 vs3 d3 ds3
            have e : (!decide (V.int (((v1 :: v2 :: v3 :: vs3).length : Nat) : Int) = V.int 2)) = true := by
              have : ¬ V.int (((v1 :: v2 :: v3 :: vs3).length : Nat) : Int) = V.int 2 := fun q => by
                have := V.int.inj q
                simp only [List.length_cons] at this
                omega
              rw [decide_eq_false this]; rfl
            show (if (!decide (V.int (((v1 :: v2 :: v3 :: vs3).length : Nat) : Int) = V.int 2)) = true then _ else _)
            rw [e]
            exact iteT k
theorem scAsc : FnScope ["items", "index"] ["items", "index"] (defScope sAsc) := ⟨rfl, rfl, rfl, by decide +kernel, rfl, by decide +kernel, by decide +kernel⟩
theorem ok_asc {f : Addr} {fd : FuncData} (F : Fun K "is_ascending_at" "is_ascending_at" sAsc f fd) : FnOk P w K mg base CX0 1 f fd ["items", "index"] (spAsc K) := by
  refine F.ok scAsc (fun vs H Q E h => ?_) (fun cdv A outer s H vs Q E hr h => ?_)
  · obtain ⟨a, xs, i, b, rfl, _⟩ := h
    rfl
  · obtain ⟨a, xs, i, b, rfl, hs, hi, h0, hj, k⟩ := h
    refine ⟨_, pss_one (ps_ret (pe_or (pe_cmpR op_eq (pv 1) pe_int (nomark _)) (pe_one (pe_cmpR (op_lt2 hr.units0) (pe_ix ix_tup (pv 0) (pe_op op_sub (pv 1) pe_int) (fun _ _ => rfl)) (pe_ix ix_tup (pv 0) (pv 1) (fun _ _ => rfl)) (nomark _))))), ?_⟩
    refine ⟨_, rfl, rfl, _, rfl, ?_⟩
    cases i with
    | zero =>
      refine ite2 (fun _ => ?_) (fun c => absurd (decide_eq_true rfl) c)
      rw [← h0 rfl]; exact k
    | succ j =>
      obtain ⟨x, y, ex, ey, hl⟩ := hj j rfl
      refine ite2 (fun c => ?_) (fun _ => ?_)
      · have := of_decide_eq_true c
        cases this
      · refine ⟨_, rfl, _, rfl, _, _, rfl, rfl, a, xs, _, x, rfl, rfl, hs, ?_, _, rfl, _, rfl, a, xs, _, y, rfl, rfl, hs, atI_nat ey, b, hl, k⟩
        have e : ((j + 1 : Nat) : Int) - 1 = (j : Int) := by omega
        rw [e]; exact atI_nat ex
end
end Dk

set_option Elab.async false
set_option linter.all false
set_option maxRecDepth 100000
set_option maxHeartbeats 1000000
namespace Dk
open PySem PySem.Spec PyProof.Rows L2 TL
mutual
theorem dpSame {K : PySem.W.Frag} {H H' : Hp} (k : Same H H') : ∀ (d : PyData) (v : V), Dp K H v d → Dp K H' v d
  | .none, _, h => by cases h; exact .non
  | .bool b, _, h => by cases h; exact .bl b
  | .int i, _, h => by cases h; exact .int i
  | .str x, _, h => by cases h; exact .str x
  | .list ds, _, h => by
    cases h with
    | lst hs ha => exact .lst (k.seq hs) (dpAllSame k ds _ ha)
  | .tuple ds, _, h => by
    cases h with
    | tup hs ha => exact .tup (sSqT k hs) (dpAllSame k ds _ ha)
  | .dict _, _, h => by cases h
theorem dpAllSame {K : PySem.W.Frag} {H H' : Hp} (k : Same H H') : ∀ (ds : List PyData) (vs : List V), DpAll K H vs ds → DpAll K H' vs ds
  | [], _, h => by cases h; exact .nil
  | d :: ds, _, h => by
    cases h with
    | cons h1 h2 => exact .cons (dpSame k d _ h1) (dpAllSame k ds _ h2)
end
theorem dpAll_len {K : PySem.W.Frag} {H : Hp} : ∀ {vs : List V} {ds : List PyData}, DpAll K H vs ds → vs.length = ds.length
  | [], [], .nil => rfl
  | _ :: _, _ :: _, .cons _ h => congrArg Nat.succ (dpAll_len h)
theorem dpAll_get {K : PySem.W.Frag} {H : Hp} : ∀ {vs : List V} {ds : List PyData} {i : Nat} {x : V}, DpAll K H vs ds → vs[i]? = some x → ∃ d, ds[i]? = some d ∧ Dp K H x d
  | [], [], _, _, .nil, e => by simp at e
  | _ :: _, _ :: _, 0, _, .cons h _, e => by
    simp at e; subst e; exact ⟨_, rfl, h⟩
  | _ :: _, _ :: _, i + 1, _, .cons _ h, e => by
    obtain ⟨d, e1, e2⟩ := dpAll_get (i := i) h (by simpa using e)
    exact ⟨d, by simpa using e1, e2⟩
/-! ### errors of one's own -/
abbrev ihFields (part : Str) (i : Int) : List (Str × V) := [("index", .int i), ("part", .str part)]
def Raised (C : Addr) (E : XK) (H : Hp) (part : Str) (i : Int) : Prop := ∀ (H' : Hp) (d : Addr), Same H H' → H d = none → H' d = some (.xd (ihFields part i)) → E (.ref C) (some d) H'
theorem Raised.mono {C : Addr} {E : XK} {H H1 : Hp} {part : Str} {i : Int} (h : Raised C E H part i) (s : Same H H1) : Raised C E H1 part i := fun H' d s2 n e => h H' d (s.trans s2) (s.free n) e
abbrev sIHInit : Stmt := inClass (top 4) 0
structure TxtIH (K : PySem.W.Frag) (mg : Str → Option Value) (C fI : Addr) (fdI : FuncData) : Prop where
  gC : mg "InvalidHouse" = some (.ref C)
  O : OexC K C
  iC : PySem.W.findIn K (.ref C) "__init__" = some (some (.ref fI))
  tI : PySem.W.typeIn K (.ref fI) = some (.type "function")
  F : Fun K "__init__" "InvalidHouse.__init__" sIHInit fI fdI
  b : Binds K fdI ["self", "part", "index"] []
  nP : PySem.W.findIn K (.ref C) "part" = some none
  nI : PySem.W.findIn K (.ref C) "index" = some none
def spIHInit (C : Addr) : Sp := fun vs H Q _ => ∃ (a : Addr) (p i : V), vs = [.ref a, p, i] ∧ H a = some (exo a C none) ∧
  ∀ d, H d = none → d ≠ a → Q .non (upd (upd (upd H d (exd d [("part", p)])) a (exo a C (some d))) d (exd d [("index", i), ("part", p)]))
section
variable {P : Program} {w : World} {K : PySem.W.Frag} {mg : Str → Option Value} {base : Heap} {C fI : Addr} {fdI : FuncData}
theorem scIHInit : FnScope ["self", "part", "index"] ["self", "part", "index"] (defScope sIHInit) := ⟨rfl, rfl, rfl, by decide +kernel, rfl, by decide +kernel, by decide +kernel⟩
theorem ok_ihinit (TI : TxtIH K mg C fI fdI) : FnOk P w K mg base CX0 1 fI fdI ["self", "part", "index"] (spIHInit C) := by
  refine TI.F.ok scIHInit (fun vs H Q E h => ?_) (fun cdv A outer s H vs Q E hr h => ?_)
  · obtain ⟨a, p, i, rfl, _⟩ := h
    rfl
  · obtain ⟨a, p, i, rfl, ha, k⟩ := h
    refine ⟨_, pss_cons (ps_ost (pv 0) (pv 1)) (pss_one (ps_ost (pv 0) (pv 2))), ?_⟩
    refine ⟨_, rfl, _, rfl, a, C, rfl, TI.O, TI.nP, .inl ⟨ha, fun d hd nd => ?_⟩⟩
    refine ⟨_, rfl, _, rfl, a, C, rfl, TI.O, TI.nI, .inr ⟨d, [("part", p)], upd_same, ?_, by simp, ?_⟩⟩
    · rw [upd_ne nd]; exact upd_same
    · exact k d hd nd
/-- the reading of raise InvalidHouse(part, i), from what is wanted of it -/
theorem raise_ih {H : Hp} {E : XK} {part : Str} {i : Int} (k : Raised C E H part i) :
    ([V.str part, V.int i] : List V).length ≤ 1000 ∧ ∀ a, H a = none → spIHInit C (.ref a :: ([V.str part, V.int i] ++ [])) (upd H a (exo a C none))
      (fun v H2 => v = .non ∧ ∃ (d : Addr) (fs : List (Str × V)), H2 a = some (exo a C (some d)) ∧ H2 d = some (exd d fs) ∧ H d = none ∧ E (.ref C) (some d) (upd (del H2 a) d (.xd fs))) (fun _ _ _ => False) := by
  refine ⟨by simp, fun a hn => ⟨a, _, _, rfl, upd_same, fun d hd nd => ⟨rfl, d, _, ?_, upd_same, ?_, ?_⟩⟩⟩
  · rw [upd_ne nd.symm]; exact upd_same
  · rw [upd_ne nd] at hd; exact hd
  · rw [upd_ne nd] at hd
    refine k _ d (fun b o e => ?_) hd upd_same
    have nb : b ≠ a := ne_of_none e hn
    have nd' : b ≠ d := ne_of_none e hd
    rw [upd_ne nd', del_ne nb, upd_ne nd', upd_ne nb, upd_ne nd', upd_ne nb]
    exact e
end
/-! ### the first bad item -/
def bad1 (p : Nat → PyData → Bool) : Nat → List PyData → Option Nat
  | _, [] => none
  | i, d :: ds => if p i d then some i else bad1 p (i + 1) ds
theorem bad1_step {p : Nat → PyData → Bool} {ds : List PyData} {i : Nat} {d : PyData} (h : ds[i]? = some d) : bad1 p i (ds.drop i) = if p i d then some i else bad1 p (i + 1) (ds.drop (i + 1)) := by
  have hi : i < ds.length := (List.getElem?_eq_some_iff.mp h).1
  have e : ds.drop i = d :: ds.drop (i + 1) := by
    rw [List.drop_eq_getElem_cons hi]
    congr 1
    have := List.getElem?_eq_getElem hi
    rw [h] at this
    exact (Option.some.inj this).symm
  rw [e]; rfl
theorem bad1_end {p : Nat → PyData → Bool} {ds : List PyData} : bad1 p ds.length (ds.drop ds.length) = none := by
  rw [List.drop_length]; rfl
def chkTabs : PyData → Option Nat
  | .tuple [] => some 0
  | .tuple (d :: ds) => bad1 (fun i t => i == 6 || !isTabD t) 0 (d :: ds)
  | _ => some 0
def chkKeys (d : PyData) : Option Nat := if below d 10 then none else some 0
def intOf : PyData → Int
  | .int i => i
  | _ => 0
def prOf : PyData → Pr
  | .tuple [.int i, .int j] => (i, j)
  | _ => (0, 0)
/-- the item before, less -/
def ascI (ds : List PyData) (i : Nat) : Bool := match i with
  | 0 => true
  | j + 1 => decide (intOf (ds.getD j .none) < intOf (ds.getD (j + 1) .none))
def ascP (ds : List PyData) (i : Nat) : Bool := match i with
  | 0 => true
  | j + 1 => HT.lexLt [(prOf (ds.getD j .none)).1, (prOf (ds.getD j .none)).2] [(prOf (ds.getD (j + 1) .none)).1, (prOf (ds.getD (j + 1) .none)).2]
def chkCareful (d : PyData) (n : Int) : Option Nat := match d with
  | .tuple ds => bad1 (fun i x => !below x n || !ascI ds i) 0 ds
  | _ => some 0
def chkRem (d : PyData) (per n : Int) : Option Nat := match d with
  | .tuple ds => bad1 (fun i x => i == 10 || !isRemD x per n || !ascP ds i) 0 ds
  | _ => some 0
end Dk

set_option Elab.async false
set_option linter.all false
set_option maxRecDepth 100000
set_option maxHeartbeats 1000000
namespace Dk
open PySem PySem.Spec PyProof.Rows L2 TL
structure TxtI (K : PySem.W.Frag) (mg : Str → Option Value) (fIT fIR fAs : Addr) (fdIT fdIR fdAs : FuncData) : Prop where
  enumerate : mg "enumerate" = none
  most : ∃ t, mg "MOST_PERSONS" = some (.int 6 t)
  keys : ∃ t, mg "MOST_KEYS" = some (.int 9 t)
  rems : ∃ t, mg "MOST_REMINDERS" = some (.int 10 t)
  gIT : mg "is_table" = some (.ref fIT)
  FIT : Fun K "is_table" "is_table" sIsTable fIT fdIT
  bIT : Binds K fdIT ["table"] []
  gIR : mg "is_reminder" = some (.ref fIR)
  FIR : Fun K "is_reminder" "is_reminder" sIsRem fIR fdIR
  bIR : Binds K fdIR ["reminder", "period", "persons"] []
  gAs : mg "is_ascending_at" = some (.ref fAs)
  FAs : Fun K "is_ascending_at" "is_ascending_at" sAsc fAs fdAs
  bAs : Binds K fdAs ["items", "index"] []
def spChkKeys (K : PySem.W.Frag) (C : Addr) : Sp := fun vs H Q E => ∃ (v : V) (d : PyData), vs = [v] ∧ Dp K H v d ∧ (chkKeys d = none → Q .non H) ∧ (chkKeys d = some 0 → Raised C E H "keys" 0)
def SmallS (d : PyData) : Prop := match d with
  | .str t => t.length ≤ 100000
  | _ => True
def spChkTabs (K : PySem.W.Frag) (C : Addr) : Sp := fun vs H Q E => ∃ (v : V) (d : PyData), vs = [v] ∧ Dp K H v d ∧ (∀ ds, d = .tuple ds → ∀ x ∈ ds, SmallS x) ∧
  (chkTabs d = none → ∀ H', Same H H' → Q .non H') ∧ (∀ i, chkTabs d = some i → Raised C E H "tables" (i : Int))
section
variable {P : Program} {w : World} {K : PySem.W.Frag} {mg : Str → Option Value} {base : Heap} {C fI : Addr} {fdI : FuncData} {fII fIB fHO : Addr} {fdII fdIB fdHO : FuncData} {fIT fIR fAs : Addr} {fdIT fdIR fdAs : FuncData}
theorem scChkKeys : FnScope ["keys"] ["keys"] (defScope sChkKeys) := ⟨rfl, rfl, rfl, by decide +kernel, rfl, by decide +kernel, by decide +kernel⟩
theorem ok_chkkeys {f : Addr} {fd : FuncData} (F : Fun K "check_keys" "check_keys" sChkKeys f fd) (TF : TxtF K mg fII fIB fHO fdII fdIB fdHO) (TI : TxtI K mg fIT fIR fAs fdIT fdIR fdAs) (TH : TxtIH K mg C fI fdI) :
    FnOk P w K mg base (L2.CX P w) 3 f fd ["keys"] (spChkKeys K C) := by
  have GB : FnOk P w K mg base CX0 2 fIB fdIB ["value", "limit"] (spIsBelow K) := ok_isbelow TF
  have GI : FnOk P w K mg base CX0 1 fI fdI ["self", "part", "index"] (spIHInit C) := ok_ihinit TH
  obtain ⟨tk, ek⟩ := TI.keys
  refine F.okX scChkKeys (fun vs H Q E h => ?_) (fun cdv A outer s H vs Q E hr h => ?_)
  · obtain ⟨v, d, rfl, _⟩ := h
    rfl
  · obtain ⟨v, d, rfl, hd, k1, k2⟩ := h
    refine ⟨_, pss_one (ps_if (pt_not (pt_val (pe_call GB hr rfl TF.gIB TF.FIB.kp TF.bIB .nil pass0 (pa_cons (pv 0) (pa_cons (pe_op op_add (pe_glob (v := .int 9) rfl ek ⟨_, rfl⟩) pe_int) pa_nil)))))
      (pss_one (ps_raise rfl (takes_of rfl rfl rfl rfl) (pmk_oex TH.O TH.iC TH.tI GI hr TH.b .nil pass0 rfl TH.gC (pa_cons pe_str (pa_cons pe_int pa_nil))))) pss_nil), ?_⟩
    refine ⟨_, rfl, _, _, rfl, rfl, v, d, _, rfl, hd, _, rfl, ?_⟩
    have e : below d (9 + 1) = below d 10 := rfl
    rw [e]
    cases c : below d 10 with
    | true => exact iteF (k1 (by unfold chkKeys; rw [c]; rfl))
    | false => exact iteT (raise_ih (k2 (by unfold chkKeys; rw [c]; rfl)))
theorem scChkTabs : FnScope ["tables", "index", "table"] ["tables"] (defScope sChkTables) := ⟨rfl, rfl, rfl, by decide +kernel, rfl, by decide +kernel, by decide +kernel⟩
theorem ok_chktabs {f : Addr} {fd : FuncData} (F : Fun K "check_tables" "check_tables" sChkTables f fd) (T : TxtA mg) (TF : TxtF K mg fII fIB fHO fdII fdIB fdHO) (TI : TxtI K mg fIT fIR fAs fdIT fdIR fdAs) (TH : TxtIH K mg C fI fdI) :
    FnOk P w K mg base (L2.CX P w) 3 f fd ["tables"] (spChkTabs K C) := by
  have GT : FnOk P w K mg base CX0 2 fIT fdIT ["table"] (spIsTable K) := ok_istable TI.FIT T TF
  have GI : FnOk P w K mg base CX0 1 fI fdI ["self", "part", "index"] (spIHInit C) := ok_ihinit TH
  obtain ⟨tk, ek⟩ := TI.most
  refine F.okX scChkTabs (fun vs H Q E h => ?_) (fun cdv A outer s H vs Q E hr h => ?_)
  · obtain ⟨v, d, rfl, _⟩ := h
    rfl
  · obtain ⟨v, d, rfl, hd, hz, k1, k2⟩ := h
    refine ⟨_, pss_cons (ps_if (PW.pt (pw_or (pt_not (pt_val (pe_callB call_isi (by rfl) TF.isinstance (by decide +kernel) (pa_cons (pv 0) (pa_cons (pe_bltn (v := .ty "tuple") (by rfl) TF.tuple (by decide +kernel) rfl) pa_nil)))))
          (pw_or1 (pt_not (pt_truth (pv 0) (by intro _; rfl))))))
        (pss_one (ps_raise rfl (takes_of rfl rfl rfl rfl) (pmk_oex TH.O TH.iC TH.tI GI hr TH.b .nil pass0 rfl TH.gC (pa_cons pe_str (pa_cons pe_int pa_nil))))) pss_nil)
      (pss_one (ps_for (passes_of rfl) rfl (pi_enumT (by rfl) TI.enumerate (pa_cons (pv 0) pa_nil)) (pg_tup rfl (pgs_cons (pg_name (i := 1) scChkTabs.nd rfl (.inl rfl)) (pgs_cons (pg_name (i := 2) scChkTabs.nd rfl (.inl rfl)) pgs_nil)))
        (pss_one (ps_if (PW.pt (pw_or (pt_cmpR op_eq (pv 1) (pe_glob (v := .int 6) rfl ek ⟨_, rfl⟩) (nomark _)) (pw_or1 (pt_not (pt_val (pe_call GT hr rfl TI.gIT TI.FIT.kp TI.bIT .nil pass0 (pa_cons (pv 2) pa_nil)))))))
          (pss_one (ps_raise rfl (takes_of rfl rfl rfl rfl) (pmk_oex TH.O TH.iC TH.tI GI hr TH.b .nil pass0 rfl TH.gC (pa_cons pe_str (pa_cons (pv 1) pa_nil))))) pss_nil)))), ?_⟩
    refine ⟨_, rfl, _, _, _, _, _, rfl, .ty "tuple", tyx hd, kit_ty (kit_tup d), _, rfl, ?_⟩
    cases hd with
    | str x => exact iteT (iteT (raise_ih (k2 0 rfl)))
    | non => exact iteT (iteT (raise_ih (k2 0 rfl)))
    | bl b => exact iteT (iteT (raise_ih (k2 0 rfl)))
    | int i => exact iteT (iteT (raise_ih (k2 0 rfl)))
    | lst hs ha => exact iteT (iteT (raise_ih (k2 0 rfl)))
    | @tup a xs ds hs ha =>
      refine iteF ⟨_, rfl, !xs.isEmpty, .inr (.inl ⟨xs, hs, rfl⟩), ?_⟩
      have hl := dpAll_len ha
      have hds : ds = [] ∨ ∃ d0 r, ds = d0 :: r := by
        cases ds with
        | nil => exact .inl rfl
        | cons d0 r => exact .inr ⟨d0, r, rfl⟩
      rcases hds with rfl | ⟨d0, r, hds⟩
      · cases ha
        exact iteT (raise_ih (k2 0 rfl))
      · have hx : xs.isEmpty = false := by
          cases xs with
          | nil => rw [hds] at hl; cases hl
          | cons x xs => rfl
        rw [hx]
        have ec : chkTabs (.tuple ds) = bad1 (fun i t => i == 6 || !isTabD t) 0 ds := by rw [hds]; rfl
        rw [ec] at k1 k2
        have hz' := hz ds rfl
        refine iteF ⟨_, rfl, a, xs, rfl, hs, for_it walk_enumT
          (fun i σ H' => ∃ v1 v2 : Option V, σ = [some (.ref a), v1, v2] ∧ Same H H' ∧ bad1 (fun i t => i == 6 || !isTabD t) 0 ds = bad1 (fun i t => i == 6 || !isTabD t) i (ds.drop i))
          ⟨none, none, rfl, Same.refl H, rfl⟩ (fun i σ H' _ ⟨_, _, _, e, _⟩ => sSqT e hs) ?_ ?_⟩
        · rintro i y σ H1 H2 hi ⟨v1, v2, rfl, s1, eb⟩ ⟨Tp, y1, y2, rfl, hTp, rfl, e1, e2⟩
          cases e1
          obtain ⟨dx, edx, hdx⟩ := dpAll_get ha e2
          have s2 : Same H (upd H1 Tp (.tup [.int (i : Nat), y2])) := s1.trans (same_upd hTp)
          have hm : dx ∈ ds := List.mem_of_getElem? edx
          have st := bad1_step (p := fun i t => i == 6 || !isTabD t) edx
          refine ⟨Tp, _, rfl, SqT.of upd_same, rfl, _, _, rfl, _, _, rfl, rfl, ?_⟩
          refine ⟨_, rfl, rfl, _, rfl, ?_⟩
          by_cases c6 : i = 6
          · have c6' : decide (V.int ((i : Nat) : Int) = V.int 6) = true := decide_eq_true (by rw [c6]; rfl)
            rw [c6']
            refine iteT (iteT ⟨_, rfl, raise_ih (Raised.mono (k2 i ?_) s2)⟩)
            rw [eb, st, c6]; rfl
          · have c6' : decide (V.int ((i : Nat) : Int) = V.int 6) = false := decide_eq_false fun q => c6 (by have := V.int.inj q; omega)
            rw [c6']
            refine iteF ⟨_, rfl, y2, dx, rfl, dpSame s2 _ _ hdx, fun t et => ?_, fun H3 s3 => ⟨_, rfl, ?_⟩⟩
            · have := hz' dx hm
              rw [et] at this
              exact this
            · have c6b : (i == 6) = false := by simpa using c6
              rw [c6b, Bool.false_or] at st
              cases c : isTabD dx with
              | true =>
                rw [c] at st
                refine iteF ⟨_, _, rfl, s2.trans s3, ?_⟩
                rw [eb, st]; rfl
              | false =>
                rw [c] at st
                refine iteT ⟨_, rfl, raise_ih (Raised.mono (k2 i ?_) (s2.trans s3))⟩
                rw [eb, st]; rfl
        · rintro σ H1 ⟨v1, v2, rfl, s1, eb⟩
          refine k1 ?_ H1 s1
          rw [eb, hl]
          exact bad1_end
end
end Dk

set_option Elab.async false
set_option linter.all false
set_option maxRecDepth 100000
set_option maxHeartbeats 1000000
namespace Dk
open PySem PySem.Spec PyProof.Rows L2 TL
theorem below_int {d : PyData} {n : Int} (h : below d n = true) : ∃ i, d = .int i ∧ 0 ≤ i ∧ i < n := by
  cases d with
  | int i =>
    have h' : (decide ((0 : Int) ≤ i) && decide (i < n)) = true := h
    rw [Bool.and_eq_true] at h'
    exact ⟨i, rfl, of_decide_eq_true h'.1, of_decide_eq_true h'.2⟩
  | none => cases h
  | bool _ => cases h
  | str _ => cases h
  | list _ => cases h
  | tuple _ => cases h
  | dict _ => cases h
theorem isRem_pr {d : PyData} {per n : Int} (h : isRemD d per n = true) : ∃ i j, d = .tuple [.int i, .int j] ∧ 0 ≤ i ∧ i < per ∧ 0 ≤ j ∧ j < n := by
  unfold isRemD at h
  split at h
  · rename_i a b
    rw [Bool.and_eq_true] at h
    obtain ⟨i, rfl, h1, h2⟩ := below_int h.1
    obtain ⟨j, rfl, h3, h4⟩ := below_int h.2
    exact ⟨i, j, rfl, h1, h2, h3, h4⟩
  · cases h
def spChkCareful (K : PySem.W.Frag) (C : Addr) : Sp := fun vs H Q E => ∃ (v : V) (d : PyData) (n : Int), vs = [v, .int n] ∧ Dp K H v d ∧
  (chkCareful d n = none → ∀ H', Same H H' → Q .non H') ∧ (∀ i, chkCareful d n = some i → Raised C E H "careful" (i : Int))
def spChkRem (K : PySem.W.Frag) (C : Addr) : Sp := fun vs H Q E => ∃ (v : V) (d : PyData) (per n : Int), vs = [v, .int per, .int n] ∧ Dp K H v d ∧
  (chkRem d per n = none → ∀ H', Same H H' → Q .non H') ∧ (∀ i, chkRem d per n = some i → Raised C E H "reminders" (i : Int))
theorem getD_of {ds : List PyData} {i : Nat} {d : PyData} (h : ds[i]? = some d) : ds.getD i .none = d := by rw [List.getD_eq_getElem?_getD, h]; rfl
section
variable {P : Program} {w : World} {K : PySem.W.Frag} {mg : Str → Option Value} {base : Heap} {C fI : Addr} {fdI : FuncData} {fII fIB fHO : Addr} {fdII fdIB fdHO : FuncData} {fIT fIR fAs : Addr} {fdIT fdIR fdAs : FuncData}
theorem scChkCareful : FnScope ["careful", "persons", "index", "person"] ["careful", "persons"] (defScope sChkCareful) := ⟨rfl, rfl, rfl, by decide +kernel, rfl, by decide +kernel, by decide +kernel⟩
theorem ok_chkcareful {f : Addr} {fd : FuncData} (F : Fun K "check_careful" "check_careful" sChkCareful f fd) (T : TxtA mg) (TF : TxtF K mg fII fIB fHO fdII fdIB fdHO) (TI : TxtI K mg fIT fIR fAs fdIT fdIR fdAs) (TH : TxtIH K mg C fI fdI) :
    FnOk P w K mg base (L2.CX P w) 3 f fd ["careful", "persons"] (spChkCareful K C) := by
  have GB : FnOk P w K mg base CX0 2 fIB fdIB ["value", "limit"] (spIsBelow K) := ok_isbelow TF
  have GA : FnOk P w K mg base CX0 1 fAs fdAs ["items", "index"] (spAsc K) := ok_asc TI.FAs
  have GI : FnOk P w K mg base CX0 1 fI fdI ["self", "part", "index"] (spIHInit C) := ok_ihinit TH
  refine F.okX scChkCareful (fun vs H Q E h => ?_) (fun cdv A outer s H vs Q E hr h => ?_)
  · obtain ⟨v, d, n, rfl, _⟩ := h
    rfl
  · obtain ⟨v, d, n, rfl, hd, k1, k2⟩ := h
    have hr1 : Room 1 (A.deeper (envOfC (Str.ofString "check_careful") (defScope sChkCareful) s.heap.objs.size f cdv)) := hr.mono (by decide)
    refine ⟨_, pss_cons (ps_if (pt_not (pt_val (pe_callB call_isi (by rfl) TF.isinstance (by decide +kernel) (pa_cons (pv 0) (pa_cons (pe_bltn (v := .ty "tuple") (by rfl) TF.tuple (by decide +kernel) rfl) pa_nil)))))
        (pss_one (ps_raise rfl (takes_of rfl rfl rfl rfl) (pmk_oex TH.O TH.iC TH.tI GI hr TH.b .nil pass0 rfl TH.gC (pa_cons pe_str (pa_cons pe_int pa_nil))))) pss_nil)
      (pss_one (ps_for (passes_of rfl) rfl (pi_enumT (by rfl) TI.enumerate (pa_cons (pv 0) pa_nil)) (pg_tup rfl (pgs_cons (pg_name (i := 2) scChkCareful.nd rfl (.inl rfl)) (pgs_cons (pg_name (i := 3) scChkCareful.nd rfl (.inl rfl)) pgs_nil)))
        (pss_one (ps_if (PW.pt (pw_or (pt_not (pt_val (pe_call GB hr rfl TF.gIB TF.FIB.kp TF.bIB .nil pass0 (pa_cons (pv 3) (pa_cons (pv 1) pa_nil)))))
            (pw_or1 (pt_not (pt_val (pe_call GA hr1 rfl TI.gAs TI.FAs.kp TI.bAs .nil pass0 (pa_cons (pv 0) (pa_cons (pv 2) pa_nil))))))))
          (pss_one (ps_raise rfl (takes_of rfl rfl rfl rfl) (pmk_oex TH.O TH.iC TH.tI GI hr TH.b .nil pass0 rfl TH.gC (pa_cons pe_str (pa_cons (pv 2) pa_nil))))) pss_nil)))), ?_⟩
    refine ⟨_, rfl, _, _, _, _, _, rfl, .ty "tuple", tyx hd, kit_ty (kit_tup d), _, rfl, ?_⟩
    cases hd with
    | str x => exact iteT (raise_ih (k2 0 rfl))
    | non => exact iteT (raise_ih (k2 0 rfl))
    | bl b => exact iteT (raise_ih (k2 0 rfl))
    | int i => exact iteT (raise_ih (k2 0 rfl))
    | lst hs ha => exact iteT (raise_ih (k2 0 rfl))
    | @tup a xs ds hs ha =>
      have hl := dpAll_len ha
      have ec : chkCareful (.tuple ds) n = bad1 (fun i x => !below x n || !ascI ds i) 0 ds := rfl
      rw [ec] at k1 k2
      refine iteF ⟨_, rfl, a, xs, rfl, hs, for_it walk_enumT
        (fun i σ H' => ∃ v1 v2 : Option V, σ = [some (.ref a), some (.int n), v1, v2] ∧ Same H H' ∧ bad1 (fun i x => !below x n || !ascI ds i) 0 ds = bad1 (fun i x => !below x n || !ascI ds i) i (ds.drop i) ∧ ∀ j d, j < i → ds[j]? = some d → below d n = true)
        ⟨none, none, rfl, Same.refl H, rfl, fun j d hj => absurd hj (Nat.not_lt_zero _)⟩ (fun i σ H' _ ⟨_, _, _, e, _⟩ => sSqT e hs) ?_ ?_⟩
      · rintro i y σ H1 H2 hi ⟨v1, v2, rfl, s1, eb, hall⟩ ⟨Tp, y1, y2, rfl, hTp, rfl, e1, e2⟩
        cases e1
        obtain ⟨dx, edx, hdx⟩ := dpAll_get ha e2
        have s2 : Same H (upd H1 Tp (.tup [.int (i : Nat), y2])) := s1.trans (same_upd hTp)
        have st := bad1_step (p := fun i x => !below x n || !ascI ds i) edx
        refine ⟨Tp, _, rfl, SqT.of upd_same, rfl, _, _, rfl, _, _, rfl, rfl, ?_⟩
        refine ⟨_, rfl, _, rfl, y2, dx, n, rfl, dpSame s2 _ _ hdx, _, rfl, ?_⟩
        cases c : below dx n with
        | false =>
          rw [c] at st
          refine iteT (iteT ⟨_, rfl, raise_ih (Raised.mono (k2 i ?_) s2)⟩)
          rw [eb, st]; rfl
        | true =>
          rw [c] at st
          have st' : bad1 (fun i x => !below x n || !ascI ds i) i (ds.drop i) = if (!ascI ds i) = true then some i else bad1 (fun i x => !below x n || !ascI ds i) (i + 1) (ds.drop (i + 1)) := st
          refine iteF ⟨_, rfl, _, rfl, a, xs, i, ascI ds i, rfl, sSqT s2 hs, hi, fun e0 => by rw [e0]; rfl, fun j ej => ?_, _, rfl, ?_⟩
          · subst ej
            obtain ⟨x, ex⟩ : ∃ x, xs[j]? = some x := ⟨xs[j]'(by omega), List.getElem?_eq_getElem _⟩
            obtain ⟨dj, edj, hdj⟩ := dpAll_get ha ex
            obtain ⟨m1, rfl, _, _⟩ := below_int (hall j dj (Nat.lt_succ_self _) edj)
            obtain ⟨m2, rfl, _, _⟩ := below_int c
            cases hdj
            cases hdx
            refine ⟨_, _, ex, e2, .inl ⟨m1, m2, rfl, rfl, ?_⟩⟩
            show decide (intOf (ds.getD j .none) < intOf (ds.getD (j + 1) .none)) = decide (m1 < m2)
            rw [getD_of edj, getD_of edx]; rfl
          · cases c2 : ascI ds i with
            | true =>
              rw [c2] at st'
              refine iteF ⟨_, _, rfl, s2, ?_, fun j d hj ej => ?_⟩
              · rw [eb, st']; rfl
              · by_cases e : j = i
                · subst e; rw [edx] at ej; cases ej; exact c
                · exact hall j d (by omega) ej
            | false =>
              rw [c2] at st'
              refine iteT ⟨_, rfl, raise_ih (Raised.mono (k2 i ?_) s2)⟩
              rw [eb, st']; rfl
      · rintro σ H1 ⟨v1, v2, rfl, s1, eb, _⟩
        refine k1 ?_ H1 s1
        rw [eb, hl]
        exact bad1_end
theorem scChkRem : FnScope ["reminders", "period", "persons", "index", "reminder"] ["reminders", "period", "persons"] (defScope sChkRem) := ⟨rfl, rfl, rfl, by decide +kernel, rfl, by decide +kernel, by decide +kernel⟩
theorem ok_chkrem {f : Addr} {fd : FuncData} (F : Fun K "check_reminders" "check_reminders" sChkRem f fd) (T : TxtA mg) (TF : TxtF K mg fII fIB fHO fdII fdIB fdHO) (TI : TxtI K mg fIT fIR fAs fdIT fdIR fdAs) (TH : TxtIH K mg C fI fdI) :
    FnOk P w K mg base (L2.CX P w) 4 f fd ["reminders", "period", "persons"] (spChkRem K C) := by
  have GR : FnOk P w K mg base CX0 3 fIR fdIR ["reminder", "period", "persons"] (spIsRem K) := ok_isrem TI.FIR T TF
  have GA : FnOk P w K mg base CX0 1 fAs fdAs ["items", "index"] (spAsc K) := ok_asc TI.FAs
  have GI : FnOk P w K mg base CX0 1 fI fdI ["self", "part", "index"] (spIHInit C) := ok_ihinit TH
  obtain ⟨tk, ek⟩ := TI.rems
  refine F.okX scChkRem (fun vs H Q E h => ?_) (fun cdv A outer s H vs Q E hr h => ?_)
  · obtain ⟨v, d, per, n, rfl, _⟩ := h
    rfl
  · obtain ⟨v, d, per, n, rfl, hd, k1, k2⟩ := h
    have hr1 : Room 1 (A.deeper (envOfC (Str.ofString "check_reminders") (defScope sChkRem) s.heap.objs.size f cdv)) := hr.mono (by decide)
    have hr2 : Room 2 (A.deeper (envOfC (Str.ofString "check_reminders") (defScope sChkRem) s.heap.objs.size f cdv)) := hr.mono (by decide)
    refine ⟨_, pss_cons (ps_if (pt_not (pt_val (pe_callB call_isi (by rfl) TF.isinstance (by decide +kernel) (pa_cons (pv 0) (pa_cons (pe_bltn (v := .ty "tuple") (by rfl) TF.tuple (by decide +kernel) rfl) pa_nil)))))
        (pss_one (ps_raise rfl (takes_of rfl rfl rfl rfl) (pmk_oex TH.O TH.iC TH.tI GI hr2 TH.b .nil pass0 rfl TH.gC (pa_cons pe_str (pa_cons pe_int pa_nil))))) pss_nil)
      (pss_one (ps_for (passes_of rfl) rfl (pi_enumT (by rfl) TI.enumerate (pa_cons (pv 0) pa_nil)) (pg_tup rfl (pgs_cons (pg_name (i := 3) scChkRem.nd rfl (.inl rfl)) (pgs_cons (pg_name (i := 4) scChkRem.nd rfl (.inl rfl)) pgs_nil)))
        (pss_cons (ps_if (PW.pt (pw_or (pt_cmpR op_eq (pv 3) (pe_glob (v := .int 10) rfl ek ⟨_, rfl⟩) (nomark _)) (pw_or1 (pt_not (pt_val (pe_call GR hr rfl TI.gIR TI.FIR.kp TI.bIR .nil pass0 (pa_cons (pv 4) (pa_cons (pv 1) (pa_cons (pv 2) pa_nil)))))))))
          (pss_one (ps_raise rfl (takes_of rfl rfl rfl rfl) (pmk_oex TH.O TH.iC TH.tI GI hr2 TH.b .nil pass0 rfl TH.gC (pa_cons pe_str (pa_cons (pv 3) pa_nil))))) pss_nil)
        (pss_one (ps_if (pt_not (pt_val (pe_call GA hr1 rfl TI.gAs TI.FAs.kp TI.bAs .nil pass0 (pa_cons (pv 0) (pa_cons (pv 3) pa_nil)))))
          (pss_one (ps_raise rfl (takes_of rfl rfl rfl rfl) (pmk_oex TH.O TH.iC TH.tI GI hr2 TH.b .nil pass0 rfl TH.gC (pa_cons pe_str (pa_cons (pv 3) pa_nil))))) pss_nil))))), ?_⟩
    refine ⟨_, rfl, _, _, _, _, _, rfl, .ty "tuple", tyx hd, kit_ty (kit_tup d), _, rfl, ?_⟩
    cases hd with
    | str x => exact iteT (raise_ih (k2 0 rfl))
    | non => exact iteT (raise_ih (k2 0 rfl))
    | bl b => exact iteT (raise_ih (k2 0 rfl))
    | int i => exact iteT (raise_ih (k2 0 rfl))
    | lst hs ha => exact iteT (raise_ih (k2 0 rfl))
    | @tup a xs ds hs ha =>
      have hl := dpAll_len ha
      have ec : chkRem (.tuple ds) per n = bad1 (fun i x => i == 10 || !isRemD x per n || !ascP ds i) 0 ds := rfl
      rw [ec] at k1 k2
      refine iteF ⟨_, rfl, a, xs, rfl, hs, for_it walk_enumT
        (fun i σ H' => ∃ v1 v2 : Option V, σ = [some (.ref a), some (.int per), some (.int n), v1, v2] ∧ Same H H' ∧ bad1 (fun i x => i == 10 || !isRemD x per n || !ascP ds i) 0 ds = bad1 (fun i x => i == 10 || !isRemD x per n || !ascP ds i) i (ds.drop i) ∧ ∀ j d, j < i → ds[j]? = some d → isRemD d per n = true)
        ⟨none, none, rfl, Same.refl H, rfl, fun j d hj => absurd hj (Nat.not_lt_zero _)⟩ (fun i σ H' _ ⟨_, _, _, e, _⟩ => sSqT e hs) ?_ ?_⟩
      · rintro i y σ H1 H2 hi ⟨v1, v2, rfl, s1, eb, hall⟩ ⟨Tp, y1, y2, rfl, hTp, rfl, e1, e2⟩
        cases e1
        obtain ⟨dx, edx, hdx⟩ := dpAll_get ha e2
        have s2 : Same H (upd H1 Tp (.tup [.int (i : Nat), y2])) := s1.trans (same_upd hTp)
        have st := bad1_step (p := fun i x => i == 10 || !isRemD x per n || !ascP ds i) edx
        refine ⟨Tp, _, rfl, SqT.of upd_same, rfl, _, _, rfl, _, _, rfl, rfl, ?_⟩
        refine ⟨_, rfl, rfl, _, rfl, ?_⟩
        by_cases c6 : i = 10
        · have c6' : decide (V.int ((i : Nat) : Int) = V.int 10) = true := decide_eq_true (by rw [c6]; rfl)
          rw [c6']
          refine iteT (iteT ⟨_, rfl, raise_ih (Raised.mono (k2 i ?_) s2)⟩)
          rw [eb, st, c6]; rfl
        · have c6' : decide (V.int ((i : Nat) : Int) = V.int 10) = false := decide_eq_false fun q => c6 (by have := V.int.inj q; omega)
          rw [c6']
          have c6b : (i == 10) = false := by simpa using c6
          rw [c6b, Bool.false_or] at st
          refine iteF ⟨_, rfl, _, rfl, _, rfl, y2, dx, per, n, rfl, dpSame s2 _ _ hdx, _, rfl, ?_⟩
          cases c : isRemD dx per n with
          | false =>
            rw [c] at st
            refine iteT ⟨_, rfl, raise_ih (Raised.mono (k2 i ?_) s2)⟩
            rw [eb, st]; rfl
          | true =>
            rw [c] at st
            have st' : bad1 (fun i x => i == 10 || !isRemD x per n || !ascP ds i) i (ds.drop i) = if (!ascP ds i) = true then some i else bad1 (fun i x => i == 10 || !isRemD x per n || !ascP ds i) (i + 1) (ds.drop (i + 1)) := st
            refine iteF ⟨_, rfl, _, rfl, a, xs, i, ascP ds i, rfl, sSqT s2 hs, hi, fun e0 => by rw [e0]; rfl, fun j ej => ?_, _, rfl, ?_⟩
            · subst ej
              obtain ⟨x, ex⟩ : ∃ x, xs[j]? = some x := ⟨xs[j]'(by omega), List.getElem?_eq_getElem _⟩
              obtain ⟨dj, edj, hdj⟩ := dpAll_get ha ex
              obtain ⟨m1, m2, rfl, _⟩ := isRem_pr (hall j dj (Nat.lt_succ_self _) edj)
              obtain ⟨m3, m4, rfl, _⟩ := isRem_pr c
              cases hdj with
              | tup h1 h2 =>
                cases hdx with
                | tup h3 h4 =>
                  cases h2 with
                  | cons p1 p2 =>
                    cases p2 with
                    | cons p2 p3 =>
                      cases p3
                      cases p1
                      cases p2
                      cases h4 with
                      | cons q1 q2 =>
                        cases q2 with
                        | cons q2 q3 =>
                          cases q3
                          cases q1
                          cases q2
                          refine ⟨_, _, ex, e2, .inr ⟨_, _, [m1, m2], [m3, m4], rfl, rfl, sSqT s2 h1, sSqT s2 h3, ?_⟩⟩
                          show HT.lexLt [(prOf (ds.getD j .none)).1, (prOf (ds.getD j .none)).2] [(prOf (ds.getD (j + 1) .none)).1, (prOf (ds.getD (j + 1) .none)).2] = _
                          rw [getD_of edj, getD_of edx]; rfl
            · cases c2 : ascP ds i with
              | true =>
                rw [c2] at st'
                refine iteF ⟨_, _, rfl, s2, ?_, fun j d hj ej => ?_⟩
                · rw [eb, st']; rfl
                · by_cases e : j = i
                  · subst e; rw [edx] at ej; cases ej; exact c
                  · exact hall j d (by omega) ej
              | false =>
                rw [c2] at st'
                refine iteT ⟨_, rfl, raise_ih (Raised.mono (k2 i ?_) s2)⟩
                rw [eb, st']; rfl
      · rintro σ H1 ⟨v1, v2, rfl, s1, eb, _⟩
        refine k1 ?_ H1 s1
        rw [eb, hl]
        exact bad1_end
end
end Dk

set_option Elab.async false
set_option linter.all false
set_option maxRecDepth 100000
set_option maxHeartbeats 1000000
namespace Dk
open PySem PySem.Spec PyProof.Rows L2 TL
/-! ### the house -/
theorem isTab_of {d : PyData} (h : isTabD d = true) : ∃ t, d = .str t ∧ IsTab t := by
  cases d with
  | str t =>
    have h' : (decide ((t.length : Int) ∈ tabLens) && only t hoS) = true := h
    rw [Bool.and_eq_true] at h'
    refine ⟨t, rfl, ?_, fun c hc => ?_⟩
    · have h1 := of_decide_eq_true h'.1
      rw [len_tl t] at h1
      simp only [tabLens, List.mem_cons, List.not_mem_nil, or_false] at h1 ⊢
      omega
    · have h2 := List.all_eq_true.mp h'.2 c hc
      have h3 := of_decide_eq_true h2
      have e : tl hoS = [104, 111] := by decide +kernel
      rw [e] at h3
      simpa using h3
  | none => cases h
  | bool _ => cases h
  | int _ => cases h
  | list _ => cases h
  | tuple _ => cases h
  | dict _ => cases h
theorem isTab_is {t : Str} (h : IsTab t) : isTabD (.str t) = true := by
  show (decide ((t.length : Int) ∈ tabLens) && only t hoS) = true
  rw [Bool.and_eq_true]
  refine ⟨decide_eq_true ?_, List.all_eq_true.mpr fun c hc => decide_eq_true ?_⟩
  · have h1 := h.len
    rw [len_tl t]
    simp only [tabLens, List.mem_cons, List.not_mem_nil, or_false] at h1 ⊢
    omega
  · have e : tl hoS = [104, 111] := by decide +kernel
    rw [e]
    simpa using h.ho c hc
theorem bad1_none {p : Nat → PyData → Bool} : ∀ {ds : List PyData} {i : Nat}, bad1 p i ds = none ↔ ∀ j d, ds[j]? = some d → p (i + j) d = false
  | [], i => by simp [bad1]
  | d :: ds, i => by
    unfold bad1
    constructor
    · intro h j x hx
      split at h
      · cases h
      · rename_i c
        cases j with
        | zero => simp at hx; subst hx; simpa using c
        | succ j =>
          have := (bad1_none (ds := ds) (i := i + 1)).mp h j x (by simpa using hx)
          rw [show i + (j + 1) = i + 1 + j by omega]; exact this
    · intro h
      have h0 := h 0 d rfl
      rw [Nat.add_zero] at h0
      rw [h0]
      refine (bad1_none (ds := ds) (i := i + 1)).mpr fun j x hx => ?_
      have := h (j + 1) x (by simpa using hx)
      rw [show i + 1 + j = i + (j + 1) by omega]; exact this
theorem strs_of : ∀ {ds : List PyData}, (∀ d ∈ ds, isTabD d = true) → ∃ ts : List Str, ds = ts.map PyData.str ∧ Tabs ts
  | [], _ => ⟨[], rfl, fun t ht => by cases ht⟩
  | d :: ds, h => by
    obtain ⟨t, rfl, ht⟩ := isTab_of (h d (List.mem_cons_self ..))
    obtain ⟨ts, rfl, hts⟩ := strs_of (ds := ds) fun x hx => h x (List.mem_cons_of_mem _ hx)
    refine ⟨t :: ts, rfl, fun x hx => ?_⟩
    rcases List.mem_cons.mp hx with rfl | hx
    · exact ht
    · exact hts x hx
theorem tabs_of {d : PyData} (h : chkTabs d = none) : ∃ ts : List Str, d = .tuple (ts.map PyData.str) ∧ Tabs ts ∧ 1 ≤ ts.length ∧ ts.length ≤ 6 := by
  unfold chkTabs at h
  split at h
  · cases h
  · rename_i d0 ds
    have h' := bad1_none.mp h
    obtain ⟨ts, e, hT⟩ := strs_of (ds := d0 :: ds) fun x hx => by
      obtain ⟨j, hj⟩ := List.getElem?_of_mem hx
      have := h' j x hj
      simp only [Bool.or_eq_false_iff, Bool.not_eq_false'] at this
      exact this.2
    have hl : (d0 :: ds).length = ts.length := by rw [e, List.length_map]
    refine ⟨ts, by rw [e], hT, by rw [← hl]; simp, ?_⟩
    rw [← hl]
    rcases Nat.lt_or_ge 6 (d0 :: ds).length with c | c
    · have hx : (d0 :: ds)[6]? = some ((d0 :: ds)[6]'c) := List.getElem?_eq_getElem c
      have := h' 6 _ hx
      simp at this
    · exact c
  · cases h
theorem tabs_is {ts : List Str} (hT : Tabs ts) (h1 : 1 ≤ ts.length) (h6 : ts.length ≤ 6) : chkTabs (.tuple (ts.map PyData.str)) = none := by
  cases ts with
  | nil => simp at h1
  | cons t ts =>
    show bad1 _ 0 _ = none
    refine bad1_none.mpr fun j d hd => ?_
    have hd' : ((t :: ts).map PyData.str)[j]? = some d := hd
    rw [List.getElem?_map] at hd'
    cases e : (t :: ts)[j]? with
    | none => rw [e] at hd'; cases hd'
    | some x =>
      rw [e] at hd'
      have ed : PyData.str x = d := Option.some.inj hd'
      subst ed
      have hj : j < (t :: ts).length := (List.getElem?_eq_some_iff.mp e).1
      rw [isTab_is (hT x (List.mem_of_getElem? e))]
      have : (0 + j == 6) = false := by simp; omega
      rw [this]; rfl
def lenD : PyData → Nat
  | .tuple ds => ds.length
  | _ => 0
def strOf : PyData → Str
  | .str t => t
  | _ => Str.empty
def perD : PyData → Nat
  | .tuple ds => per (ds.map strOf)
  | _ => 1
/-- the first invalid part of a house -/
def chkHouse (dT dK dC dR : PyData) : Option (Str × Nat) :=
  match chkTabs dT with
  | some i => some ("tables", i)
  | none => match chkKeys dK with
    | some i => some ("keys", i)
    | none => match chkCareful dC (lenD dT : Int) with
      | some i => some ("careful", i)
      | none => match chkRem dR (perD dT : Int) (lenD dT : Int) with
        | some i => some ("reminders", i)
        | none => none
end Dk

set_option Elab.async false
set_option linter.all false
set_option maxRecDepth 100000
set_option maxHeartbeats 1000000
namespace Dk
open PySem PySem.Spec PyProof.Rows L2 TL
abbrev hFields (vT vK vC vR : V) : List (Str × V) := putF "reminders" vR (putF "careful" vC (putF "key_count" vK (putF "tables" vT [])))
theorem hf_len (vT vK vC vR : V) : (hFields vT vK vC vR).length = 4 := by rfl
structure TxtL (K : PySem.W.Frag) (mg : Str → Option Value) (C fP fT fK fC fR : Addr) (fdP fdT fdK fdC fdR : FuncData) : Prop where
  cl : Cls K C
  nT : NoAttr K C "tables"
  nK : NoAttr K C "key_count"
  nC : NoAttr K C "careful"
  nR : NoAttr K C "reminders"
  gP : mg "common_period" = some (.ref fP)
  FP : Fun K "common_period" "common_period" sPeriod fP fdP
  bP : Binds K fdP ["tables"] []
  gT : mg "check_tables" = some (.ref fT)
  FT : Fun K "check_tables" "check_tables" sChkTables fT fdT
  bT : Binds K fdT ["tables"] []
  gK : mg "check_keys" = some (.ref fK)
  FK : Fun K "check_keys" "check_keys" sChkKeys fK fdK
  bK : Binds K fdK ["keys"] []
  gCa : mg "check_careful" = some (.ref fC)
  FC : Fun K "check_careful" "check_careful" sChkCareful fC fdC
  bC : Binds K fdC ["careful", "persons"] []
  gR : mg "check_reminders" = some (.ref fR)
  FR : Fun K "check_reminders" "check_reminders" sChkRem fR fdR
  bR : Binds K fdR ["reminders", "period", "persons"] []
def spInit (K : PySem.W.Frag) (C CI : Addr) : Sp := fun vs H Q E => ∃ (p dx : Addr) (vT vK vC vR : V) (dT dK dC dR : PyData), vs = [.ref p, vT, vK, vC, vR] ∧ Dp K H vT dT ∧ Dp K H vK dK ∧ Dp K H vC dC ∧ Dp K H vR dR ∧
  (∀ ds, dT = .tuple ds → ∀ x ∈ ds, SmallS x) ∧ H p = some (.ins C dx []) ∧
  (chkHouse dT dK dC dR = none → ∀ H', Kp p H H' → H' p = some (.ins C dx (hFields vT vK vC vR)) → Q .non H') ∧
  (∀ part i, chkHouse dT dK dC dR = some (part, i) → Raised CI E H part (i : Int))
section
variable {P : Program} {w : World} {K : PySem.W.Frag} {mg : Str → Option Value} {base : Heap} {C fI : Addr} {fdI : FuncData} {fII fIB fHO : Addr} {fdII fdIB fdHO : FuncData} {fIT fIR fAs : Addr} {fdIT fdIR fdAs : FuncData}
  {CH fP fT fK fC fR : Addr} {fdP fdT fdK fdC fdR : FuncData}
theorem scInit : FnScope ["self", "tables", "keys", "careful", "reminders"] ["self", "tables", "keys", "careful", "reminders"] (defScope sInit) := ⟨rfl, rfl, rfl, by decide +kernel, rfl, by decide +kernel, by decide +kernel⟩
theorem strs_back {ts : List Str} : (ts.map PyData.str).map strOf = ts := by
  induction ts with
  | nil => rfl
  | cons t ts ih => rw [List.map_cons, List.map_cons, ih]; rfl
theorem dp_tabs {K : PySem.W.Frag} {H : Hp} {v : V} {ts : List Str} (h : Dp K H v (.tuple (ts.map PyData.str))) : ∃ a, v = .ref a ∧ SqT K H a (ts.map V.str) := by
  cases h with
  | @tup a xs ds hs ha =>
    refine ⟨a, rfl, ?_⟩
    have e : xs = ts.map V.str := by
      clear hs
      induction ts generalizing xs with
      | nil => cases ha; rfl
      | cons t ts ih =>
        cases ha with
        | cons h1 h2 =>
          cases h1
          rw [ih h2]; rfl
    rw [← e]; exact hs
theorem ok_init {f : Addr} {fd : FuncData} {dvs : List V} (F : FunD K "__init__" "House.__init__" (defArgs sInit) (defBody sInit) (defScope sInit) dvs [] f fd) (T : TxtA mg) (TC : TxtC mg) (TF : TxtF K mg fII fIB fHO fdII fdIB fdHO) (TI : TxtI K mg fIT fIR fAs fdIT fdIR fdAs) (TH : TxtIH K mg C fI fdI)
    (TL' : TxtL K mg CH fP fT fK fC fR fdP fdT fdK fdC fdR) :
    FnOk P w K mg base (L2.CX P w) 5 f fd ["self", "tables", "keys", "careful", "reminders"] (spInit K CH C) := by
  have GP : FnOk P w K mg base CX0 1 fP fdP ["tables"] (spPeriod K) := ok_period TL'.FP T TC
  have GT : FnOk P w K mg base (L2.CX P w) 3 fT fdT ["tables"] (spChkTabs K C) := ok_chktabs TL'.FT T TF TI TH
  have GK : FnOk P w K mg base (L2.CX P w) 3 fK fdK ["keys"] (spChkKeys K C) := ok_chkkeys TL'.FK TF TI TH
  have GC : FnOk P w K mg base (L2.CX P w) 3 fC fdC ["careful", "persons"] (spChkCareful K C) := ok_chkcareful TL'.FC T TF TI TH
  have GR : FnOk P w K mg base (L2.CX P w) 4 fR fdR ["reminders", "period", "persons"] (spChkRem K C) := ok_chkrem TL'.FR T TF TI TH
  refine F.ok scInit (fun vs H Q E h => ?_) (fun cdv A outer s H vs Q E hr h => ?_)
  · obtain ⟨p, dx, vT, vK, vC, vR, dT, dK, dC, dR, rfl, _⟩ := h
    rfl
  · obtain ⟨p, dx, vT, vK, vC, vR, dT, dK, dC, dR, rfl, hT, hK, hC, hR, hz, hp, k1, k2⟩ := h
    have hr3 : Room 3 (A.deeper (envOfC (Str.ofString "House.__init__") (defScope sInit) s.heap.objs.size f cdv)) := hr.mono (by decide)
    have hr1 : Room 1 (A.deeper (envOfC (Str.ofString "House.__init__") (defScope sInit) s.heap.objs.size f cdv)) := hr.mono (by decide)
    refine ⟨_, pss_cons (ps_expr (pe_call GT hr3 rfl TL'.gT TL'.FT.kp TL'.bT .nil (passes_call (takes_of rfl rfl rfl rfl) (fun _ _ _ _ h => h)) (pa_cons (pv 1) pa_nil)))
      (pss_cons (ps_expr (pe_call GK hr3 rfl TL'.gK TL'.FK.kp TL'.bK .nil (passes_call (takes_of rfl rfl rfl rfl) (fun _ _ _ _ h => h)) (pa_cons (pv 2) pa_nil)))
      (pss_cons (ps_expr (pe_call GC hr3 rfl TL'.gCa TL'.FC.kp TL'.bC .nil (passes_call (takes_of rfl rfl rfl rfl) (fun _ _ _ _ h => h)) (pa_cons (pv 3) (pa_cons (pe_callB call_len_seq (by rfl) T.len PySem.boot_len (pa_cons (pv 1) pa_nil)) pa_nil))))
      (pss_cons (ps_expr (pe_call GR hr rfl TL'.gR TL'.FR.kp TL'.bR .nil (passes_call (takes_of rfl rfl rfl rfl) (fun _ _ _ _ h => h)) (pa_cons (pv 4) (pa_cons (pe_call GP hr1 rfl TL'.gP TL'.FP.kp TL'.bP .nil pass0 (pa_cons (pv 1) pa_nil)) (pa_cons (pe_callB call_len_seq (by rfl) T.len PySem.boot_len (pa_cons (pv 1) pa_nil)) pa_nil)))))
      (pss_cons (ps_fld (pv 0) (pv 1) rfl) (pss_cons (ps_fld (pv 0) (pv 2) rfl) (pss_cons (ps_fld (pv 0) (pv 3) rfl) (pss_one (ps_fld (pv 0) (pv 4) rfl)))))))), ?_⟩
    refine ⟨_, rfl, vT, dT, rfl, hT, hz, fun cT H1 s1 => ?_, fun i c => k2 "tables" i (by unfold chkHouse; rw [c])⟩
    obtain ⟨ts, rfl, hTs, h1, h6⟩ := tabs_of cT
    obtain ⟨aT, rfl, hsT⟩ := dp_tabs hT
    refine ⟨_, rfl, vK, dK, rfl, dpSame s1 _ _ hK, fun cK => ?_, fun c => Raised.mono (k2 "keys" 0 (by unfold chkHouse; rw [cT]; dsimp only; rw [c])) s1⟩
    refine ⟨_, rfl, _, rfl, aT, _, rfl, .inr (sSqT s1 hsT), vC, dC, _, rfl, dpSame s1 _ _ hC, ?_⟩
    rw [show (((ts.map V.str).length : Nat) : Int) = (lenD (.tuple (ts.map PyData.str)) : Int) by show _ = (((ts.map PyData.str).length : Nat) : Int); rw [List.length_map, List.length_map]]
    refine ⟨fun cC H2 s2 => ?_, fun i c => Raised.mono (k2 "careful" i (by unfold chkHouse; rw [cT]; dsimp only; rw [cK]; dsimp only; rw [c])) s1⟩
    have s12 := s1.trans s2
    refine ⟨_, rfl, _, rfl, aT, ts, rfl, sSqT s12 hsT, hTs, _, rfl, aT, _, rfl, .inr (sSqT s12 hsT), vR, dR, _, _, rfl, dpSame s12 _ _ hR, ?_⟩
    rw [show (((ts.map V.str).length : Nat) : Int) = (lenD (.tuple (ts.map PyData.str)) : Int) by show _ = (((ts.map PyData.str).length : Nat) : Int); rw [List.length_map, List.length_map],
      show ((per ts : Nat) : Int) = (perD (.tuple (ts.map PyData.str)) : Int) by show _ = ((per ((ts.map PyData.str).map strOf) : Nat) : Int); rw [strs_back]]
    refine ⟨fun cR H3 s3 => ?_, fun i c => Raised.mono (k2 "reminders" i (by unfold chkHouse; rw [cT]; dsimp only; rw [cK]; dsimp only; rw [cC]; dsimp only; rw [c])) s12⟩
    have s123 := s12.trans s3
    have hp3 := s123 _ _ hp
    refine ⟨_, rfl, _, rfl, p, CH, dx, _, rfl, hp3, TL'.cl, TL'.nT, (by show 0 < 1000; decide), ?_⟩
    refine ⟨_, rfl, _, rfl, p, CH, dx, _, rfl, upd_same, TL'.cl, TL'.nK, (by show 1 < 1000; decide), ?_⟩
    refine ⟨_, rfl, _, rfl, p, CH, dx, _, rfl, upd_same, TL'.cl, TL'.nC, (by show 2 < 1000; decide), ?_⟩
    refine ⟨_, rfl, _, rfl, p, CH, dx, _, rfl, upd_same, TL'.cl, TL'.nR, (by show 3 < 1000; decide), ?_⟩
    refine k1 ?_ _ (fun b o nb eb => ?_) upd_same
    · unfold chkHouse; rw [cT]; dsimp only; rw [cK]; dsimp only; rw [cC]; dsimp only; rw [cR]
    · rw [upd_ne nb, upd_ne nb, upd_ne nb, upd_ne nb]; exact s123 _ _ eb
end
end Dk

set_option Elab.async false
set_option linter.all false
set_option maxRecDepth 100000
set_option maxHeartbeats 1000000
namespace Dk
open PySem PySem.Spec PyProof.Rows L2 TL
def dStrs (ts : List Str) : PyData := .tuple (ts.map PyData.str)
def dInts (ns : List Int) : PyData := .tuple (ns.map PyData.int)
def dPrs (rs : List Pr) : PyData := .tuple (rs.map prR)
structure HouseAt (K : PySem.W.Frag) (C : Addr) (H : Hp) (p : Addr) (ts : List Str) (k : Int) (cs : List Int) (rs : List Pr) : Prop where
  ex : ∃ dx aT aC aR xs, H p = some (.ins C dx (hFields (.ref aT) (.int k) (.ref aC) (.ref aR))) ∧ SqT K H aT (ts.map V.str) ∧ SqT K H aC (cs.map V.int) ∧ SqT K H aR xs ∧ Prs H xs rs
theorem hf_tables (a b c d : V) : (hFields a b c d).lookup ("tables" : Str) = some a := by
  unfold hFields
  rw [lookup_putF, if_neg (by decide +kernel), lookup_putF, if_neg (by decide +kernel), lookup_putF, if_neg (by decide +kernel), lookup_putF, if_pos rfl]
theorem hf_keys (a b c d : V) : (hFields a b c d).lookup ("key_count" : Str) = some b := by
  unfold hFields
  rw [lookup_putF, if_neg (by decide +kernel), lookup_putF, if_neg (by decide +kernel), lookup_putF, if_pos rfl]
theorem hf_careful (a b c d : V) : (hFields a b c d).lookup ("careful" : Str) = some c := by
  unfold hFields
  rw [lookup_putF, if_neg (by decide +kernel), lookup_putF, if_pos rfl]
theorem hf_rem (a b c d : V) : (hFields a b c d).lookup ("reminders" : Str) = some d := by
  unfold hFields
  rw [lookup_putF, if_pos rfl]
theorem dpAll_ints {K : PySem.W.Frag} {H : Hp} : ∀ ns : List Int, DpAll K H (ns.map V.int) (ns.map PyData.int)
  | [] => .nil
  | n :: ns => .cons (.int n) (dpAll_ints ns)
end Dk

set_option Elab.async false
set_option linter.all false
set_option maxRecDepth 100000
set_option maxHeartbeats 1000000
namespace Dk
open PySem PySem.Spec PyProof.Rows L2 TL
/-! ### valid parts are accepted -/
theorem getD_map {α : Type} (f : α → PyData) {l : List α} {i : Nat} {x : α} (h : l[i]? = some x) : (l.map f).getD i .none = f x := getD_of (by rw [List.getElem?_map, h]; rfl)
theorem pair_lt {α : Type} {R : α → α → Prop} : ∀ {l : List α} {j : Nat} {x y : α}, l.Pairwise R → l[j]? = some x → l[j + 1]? = some y → R x y
  | [], _, _, _, _, h, _ => by simp at h
  | a :: l, 0, x, y, hp, h1, h2 => by
    simp at h1; subst h1
    have h2' : l[0]? = some y := by simpa using h2
    exact (List.pairwise_cons.mp hp).1 y (List.mem_of_getElem? h2')
  | a :: l, j + 1, x, y, hp, h1, h2 => pair_lt (j := j) (List.pairwise_cons.mp hp).2 (by simpa using h1) (by simpa using h2)
theorem below_is {i n : Int} (h0 : 0 ≤ i) (h1 : i < n) : below (.int i) n = true := by
  show (decide ((0 : Int) ≤ i) && decide (i < n)) = true
  rw [decide_eq_true h0, decide_eq_true h1]; rfl
theorem careful_is {cs : List Int} {n : Int} (hp : cs.Pairwise (· < ·)) (hm : ∀ c ∈ cs, (0 : Int) ≤ c ∧ c < n) : chkCareful (dInts cs) n = none := by
  show bad1 _ 0 _ = none
  refine bad1_none.mpr fun j d hd => ?_
  rw [List.getElem?_map] at hd
  cases e : cs[j]? with
  | none => rw [e] at hd; cases hd
  | some c =>
    rw [e] at hd
    have ed : PyData.int c = d := Option.some.inj hd
    subst ed
    have hc := hm c (List.mem_of_getElem? e)
    rw [below_is hc.1 hc.2, Nat.zero_add]
    have : ascI (cs.map PyData.int) j = true := by
      cases j with
      | zero => rfl
      | succ i =>
        have hi : i < cs.length := by have := (List.getElem?_eq_some_iff.mp e).1; omega
        have e0 : cs[i]? = some cs[i] := List.getElem?_eq_getElem hi
        show decide (intOf _ < intOf _) = true
        rw [getD_map _ e0, getD_map _ e]
        exact decide_eq_true (pair_lt hp e0 e)
    rw [this]; rfl
theorem rem_is {rs : List Pr} {per n : Int} (hp : rs.Pairwise plt) (hm : ∀ r ∈ rs, (0 : Int) ≤ r.1 ∧ r.1 < per ∧ (0 : Int) ≤ r.2 ∧ r.2 < n) (h10 : rs.length ≤ 10) : chkRem (dPrs rs) per n = none := by
  show bad1 _ 0 _ = none
  refine bad1_none.mpr fun j d hd => ?_
  rw [List.getElem?_map] at hd
  cases e : rs[j]? with
  | none => rw [e] at hd; cases hd
  | some r =>
    rw [e] at hd
    have ed : prR r = d := Option.some.inj hd
    subst ed
    have hr := hm r (List.mem_of_getElem? e)
    have hj : j < rs.length := (List.getElem?_eq_some_iff.mp e).1
    have h1 : isRemD (prR r) per n = true := by
      show (below (.int r.1) per && below (.int r.2) n) = true
      rw [below_is hr.1 hr.2.1, below_is hr.2.2.1 hr.2.2.2]; rfl
    have h2 : (j == 10) = false := by simp; omega
    rw [h1, Nat.zero_add, h2]
    have : ascP (rs.map prR) j = true := by
      cases j with
      | zero => rfl
      | succ i =>
        have hi : i < rs.length := by omega
        have e0 : rs[i]? = some rs[i] := List.getElem?_eq_getElem hi
        have hlt := pair_lt hp e0 e
        show HT.lexLt _ _ = true
        rw [getD_map _ e0, getD_map _ e]
        generalize rs[i] = q at hlt
        obtain ⟨q1, q2⟩ := q
        obtain ⟨r1, r2⟩ := r
        show (if q1 = r1 then (if q2 = r2 then false else decide (q2 < r2)) else decide (q1 < r1)) = true
        rcases hlt with h | ⟨h, h'⟩
        · have h : q1 < r1 := h
          rw [if_neg (by omega)]; exact decide_eq_true h
        · have h : q1 = r1 := h
          have h' : q2 < r2 := h'
          rw [if_pos h, if_neg (by omega)]; exact decide_eq_true h'
    rw [this]; rfl
theorem parts_is {ts : List Str} {k : Int} {cs : List Int} {rs : List Pr} (h : Parts ts k cs rs) : chkHouse (dStrs ts) (.int k) (dInts cs) (dPrs rs) = none := by
  have h1 : chkTabs (dStrs ts) = none := tabs_is h.tabs h.n1 h.n6
  have h2 : chkKeys (.int k) = none := by unfold chkKeys; rw [if_pos (below_is h.k0 (by have := h.k9; omega))]
  have hl : (lenD (dStrs ts) : Int) = (ts.length : Int) := by show (((ts.map PyData.str).length : Nat) : Int) = _; rw [List.length_map]
  have hp : (perD (dStrs ts) : Int) = (per ts : Int) := by show (per ((ts.map PyData.str).map strOf) : Int) = _; rw [strs_back]
  have h3 : chkCareful (dInts cs) (lenD (dStrs ts) : Int) = none := by rw [hl]; exact careful_is h.cp h.cm
  have h4 : chkRem (dPrs rs) (perD (dStrs ts) : Int) (lenD (dStrs ts) : Int) = none := by rw [hl, hp]; exact rem_is h.rp h.rm h.r10
  unfold chkHouse
  rw [h1]; dsimp only
  rw [h2]; dsimp only
  rw [h3]; dsimp only
  rw [h4]
def spHouseF (K : PySem.W.Frag) (CH : Addr) : Sp := fun vs H Q _ => ∃ (a : Addr) (ts : List Str) (keys : Int) (cs : List Int) (rs : List Pr), vs = [.ref a] ∧ PartsAt H a ts keys cs rs ∧ Parts ts keys cs rs ∧
  ∀ (H' : Hp) (p : Addr), Same H H' → H p = none → HouseAt K CH H' p ts keys cs rs → Q (.ref p) H'
section
variable {P : Program} {w : World} {K : PySem.W.Frag} {mg : Str → Option Value} {base : Heap} {C fI : Addr} {fdI : FuncData} {fII fIB fHO : Addr} {fdII fdIB fdHO : FuncData} {fIT fIR fAs : Addr} {fdIT fdIR fdAs : FuncData}
  {CH fP fT fK fC fR : Addr} {fdP fdT fdK fdC fdR : FuncData} {fH : Addr} {fdH : FuncData} {dvs : List V}
theorem scHouseF : FnScope ["_law_parts_here"] ["_law_parts_here"] (defScope sHouseF) := ⟨rfl, rfl, rfl, by decide +kernel, rfl, by decide +kernel, by decide +kernel⟩
theorem ok_housef {f : Addr} {fd : FuncData} (F : Fun K "_law_house" "_law_house" sHouseF f fd) (T : TxtA mg) (TC : TxtC mg) (TF : TxtF K mg fII fIB fHO fdII fdIB fdHO) (TI : TxtI K mg fIT fIR fAs fdIT fdIR fdAs) (TH : TxtIH K mg C fI fdI)
    (TL' : TxtL K mg CH fP fT fK fC fR fdP fdT fdK fdC fdR)
    (FH : FunD K "__init__" "House.__init__" (defArgs sInit) (defBody sInit) (defScope sInit) dvs [] fH fdH) (bH : Binds K fdH ["self", "tables", "keys", "careful", "reminders"] []) (M : Mk K CH fH) (gH : mg "House" = some (.ref CH)) :
    FnOk P w K mg base CX0 7 f fd ["_law_parts_here"] (spHouseF K CH) := by
  have GH : FnOk P w K mg base (L2.CX P w) 5 fH fdH ["self", "tables", "keys", "careful", "reminders"] (spInit K CH C) := ok_init FH T TC TF TI TH TL'
  refine F.ok scHouseF (fun vs H Q E h => ?_) (fun cdv A outer s H vs Q E hr h => ?_)
  · obtain ⟨a, ts, kk, cs, rs, rfl, _⟩ := h
    rfl
  · obtain ⟨a, ts, kk, cs, rs, rfl, ⟨aT, aC, aR, xs, e1, e2, e3, e4, e5⟩, hp, k⟩ := h
    refine ⟨_, pss_one (ps_ret (pe_make M GH hr rfl gH bH .nil passL (pa_cons (pe_ix ix_tup (pv 0) pe_int (fun _ _ => rfl)) (pa_cons (pe_ix ix_tup (pv 0) pe_int (fun _ _ => rfl)) (pa_cons (pe_ix ix_tup (pv 0) pe_int (fun _ _ => rfl)) (pa_cons (pe_ix ix_tup (pv 0) pe_int (fun _ _ => rfl)) pa_nil)))))), ?_⟩
    refine ⟨_, rfl, a, _, 0, _, rfl, rfl, SqT.of e1, at0, _, rfl, a, _, 1, _, rfl, rfl, SqT.of e1, at1, _, rfl, a, _, 2, _, rfl, rfl, SqT.of e1, at2, _, rfl, a, _, 3, _, rfl, rfl, SqT.of e1, at3, ?_⟩
    intro p dx hpn hdx npd
    have sN : Same H (upd (upd H dx (.own p)) p (.ins CH dx [])) := fun b o e => by
      rw [upd_ne (ne_of_none e hpn), upd_ne (ne_of_none e hdx)]; exact e
    refine ⟨p, dx, .ref aT, .int kk, .ref aC, .ref aR, dStrs ts, .int kk, dInts cs, dPrs rs, rfl,
      dpSame sN _ _ (.tup (SqT.of e2) (dpAll_strs ts)), .int _, dpSame sN _ _ (.tup (SqT.of e3) (dpAll_ints _)), dpSame sN _ _ (.tup (SqT.of e4) (dpAll_prs e5)), ?_, upd_same, fun hc H7 k7 e7 => ⟨rfl, ?_⟩, fun part i hc => ?_⟩
    · intro ds hds y hy
      cases hds
      obtain ⟨t, ht, rfl⟩ := List.mem_map.mp hy
      show t.length ≤ 100000
      have := (hp.tabs t ht).pos.2
      rw [len_tl t]; omega
    · have s7 : Same H H7 := fun b o e => k7 b o (ne_of_none e hpn) (sN _ _ e)
      exact k H7 p s7 hpn ⟨⟨dx, aT, aC, aR, xs, e7, SqT.of (s7 _ _ e2), SqT.of (s7 _ _ e3), SqT.of (s7 _ _ e4), e5.mono fun t ys h => s7 _ _ h⟩⟩
    · rw [parts_is hp] at hc; cases hc
end
end Dk

set_option Elab.async false
set_option linter.all false
set_option maxRecDepth 100000
set_option maxHeartbeats 1000000
namespace Dk
open PySem PySem.Spec PyProof.Rows L2 TL
/-! ### equal data are found equal -/
def Flat : Nat → PyData → Prop
  | _, .none => True
  | _, .bool _ => True
  | _, .int _ => True
  | _, .str _ => True
  | 0, .list _ => False
  | 0, .tuple _ => False
  | n + 1, .list ds => ds.length ≤ 1000 ∧ ∀ d ∈ ds, Flat n d
  | n + 1, .tuple ds => ds.length ≤ 1000 ∧ ∀ d ∈ ds, Flat n d
  | _, .dict _ => False
def spE (K : PySem.W.Frag) : Nat → Sp
  | 0 => fun _ _ _ _ => False
  | n + 1 => fun vs H Q _ => ∃ (a b : V) (d : PyData), vs = [a, b] ∧ Dp K H a d ∧ Dp K H b d ∧ Flat n d ∧ ∀ H', Same H H' → Q (.bl true) H'
abbrev nEq : List Str := ["_law_actual", "_law_expected", "_law_k"]
theorem all_true {n : Nat} : ((List.replicate n true).map V.bl) = List.replicate n (V.bl true) := List.map_replicate ..
section
variable {P : Program} {w : World} {K : PySem.W.Frag} {mg : Str → Option Value} {base : Heap} {fII fIB fHO : Addr} {fdII fdIB fdHO : FuncData}
theorem scEqual : FnScope nEq ["_law_actual", "_law_expected"] (defScope sEqual) := ⟨rfl, rfl, rfl, by decide +kernel, rfl, by decide +kernel, by decide +kernel⟩
theorem ok_equal {f : Addr} {fd : FuncData} (F : Fun K "_law_equal" "_law_equal" sEqual f fd) (b : Binds K fd ["_law_actual", "_law_expected"] []) (g : mg "_law_equal" = some (.ref f)) (T : TxtA mg) (TF : TxtF K mg fII fIB fHO fdII fdIB fdHO) (gl : mg "list" = none) :
    ∀ n, FnOk P w K mg base CX0 (n + 1) f fd ["_law_actual", "_law_expected"] (spE K n)
  | 0 => F.ok scEqual (fun vs H Q E h => h.elim) (fun cdv A outer s H vs Q E hr h => h.elim)
  | n + 1 => by
    have G : FnOk P w K mg base CX0 (n + 1) f fd ["_law_actual", "_law_expected"] (spE K n) := ok_equal F b g T TF gl n
    refine F.ok scEqual (fun vs H Q E h => ?_) (fun cdv A outer s H vs Q E hr h => ?_)
    · obtain ⟨x, y, d, rfl, _⟩ := h
      rfl
    · obtain ⟨x, y, d, rfl, hx, hy, hf, k⟩ := h
      refine ⟨_, pss_cons (ps_if (pt_cmp (pc_isN (pv 1))) (pss_one (ps_ret (pe_cmp (pc_isN (pv 0)) rfl))) pss_nil)
        (pss_cons (ps_if (pt_val (pe_callB call_isi (by rfl) TF.isinstance (by decide +kernel) (pa_cons (pv 1) (pa_cons (pe_bltn (v := .ty "bool") (by rfl) TF.bool (by decide +kernel) rfl) pa_nil))))
          (pss_one (ps_ret (pe_and (pe_callB call_isi (by rfl) TF.isinstance (by decide +kernel) (pa_cons (pv 0) (pa_cons (pe_bltn (v := .ty "bool") (by rfl) TF.bool (by decide +kernel) rfl) pa_nil))) (pe_one (pe_cmpR op_eq (pv 0) (pv 1) (nomark _)))))) pss_nil)
        (pss_cons (ps_if (pt_val (pe_callB call_isi (by rfl) TF.isinstance (by decide +kernel) (pa_cons (pv 1) (pa_cons (pe_bltn (v := .ty "int") (by rfl) TF.int (by decide +kernel) rfl) pa_nil))))
          (pss_one (ps_ret (pe_and (pe_callB call_isi (by rfl) TF.isinstance (by decide +kernel) (pa_cons (pv 0) (pa_cons (pe_bltn (v := .ty "int") (by rfl) TF.int (by decide +kernel) rfl) pa_nil)))
            (pe_and (pe_not (pe_callB call_isi (by rfl) TF.isinstance (by decide +kernel) (pa_cons (pv 0) (pa_cons (pe_bltn (v := .ty "bool") (by rfl) TF.bool (by decide +kernel) rfl) pa_nil)))) (pe_one (pe_cmpR op_eq (pv 0) (pv 1) (nomark _))))))) pss_nil)
        (pss_cons (ps_if (pt_val (pe_callB call_isi (by rfl) TF.isinstance (by decide +kernel) (pa_cons (pv 1) (pa_cons (pe_bltn (v := .ty "str") (by rfl) TF.str (by decide +kernel) rfl) pa_nil))))
          (pss_one (ps_ret (pe_and (pe_callB call_isi (by rfl) TF.isinstance (by decide +kernel) (pa_cons (pv 0) (pa_cons (pe_bltn (v := .ty "str") (by rfl) TF.str (by decide +kernel) rfl) pa_nil))) (pe_one (pe_cmpR op_eq (pv 0) (pv 1) (nomark _)))))) pss_nil)
        (pss_cons (ps_if (pt_cmpR op_ne (pe_callB call_isi (by rfl) TF.isinstance (by decide +kernel) (pa_cons (pv 1) (pa_cons (pe_bltn (v := .ty "tuple") (by rfl) TF.tuple (by decide +kernel) rfl) pa_nil))) (pe_callB call_isi (by rfl) TF.isinstance (by decide +kernel) (pa_cons (pv 0) (pa_cons (pe_bltn (v := .ty "tuple") (by rfl) TF.tuple (by decide +kernel) rfl) pa_nil))) (nomark _)) (pss_one (ps_ret pe_bl)) pss_nil)
        (pss_cons (ps_if (pt_cmpR op_ne (pe_callB call_isi (by rfl) TF.isinstance (by decide +kernel) (pa_cons (pv 1) (pa_cons (pe_bltn (v := .ty "list") (by rfl) gl (by decide +kernel) rfl) pa_nil))) (pe_callB call_isi (by rfl) TF.isinstance (by decide +kernel) (pa_cons (pv 0) (pa_cons (pe_bltn (v := .ty "list") (by rfl) gl (by decide +kernel) rfl) pa_nil))) (nomark _)) (pss_one (ps_ret pe_bl)) pss_nil)
        (pss_cons (ps_if (pt_cmpR op_ne (pe_callB call_len_seq (by rfl) T.len PySem.boot_len (pa_cons (pv 0) pa_nil)) (pe_callB call_len_seq (by rfl) T.len PySem.boot_len (pa_cons (pv 1) pa_nil)) (nomark _)) (pss_one (ps_ret pe_bl)) pss_nil)
        (pss_one (ps_ret (pe_callB (cr_all rfl) (by rfl) TF.all (by decide +kernel) (pa_cons (pe_lc (own := [("_law_k", 2)]) (g := gName 2) (te := tCall (spE K n) [] E0 (tCons (tOp (rIx K) (tVar 0) (tVar 2)) (tCons (tOp (rIx K) (tVar 1) (tVar 2)) tNil))) (by rfl) scEqual.nd
            (pi_range1 rfl T.range (pa_cons (pe_callB call_len_seq (by rfl) T.len PySem.boot_len (pa_cons (pv 1) pa_nil)) pa_nil)) (blkOk_by (N := nEq) (sc := defScope sEqual) (by decide +kernel))
            (fun _ _ _ _ _ => pg_name (i := 2) scEqual.nd rfl (Or.inl rfl)) (fun _ _ _ _ _ => pts_nil)
            (fun _ _ _ _ _ => by exact pe_call G hr rfl g F.kp b .nil pass0 (pa_cons (pe_ix ix_seq (pv 0) (pv 2) (fun _ _ => rfl)) (pa_cons (pe_ix ix_seq (pv 1) (pv 2) (fun _ _ => rfl)) pa_nil)))) pa_nil)))))))))), ?_⟩
      have sc : ∀ {A B : Prop}, A → (if true = true then A else B) := fun h => by rw [if_pos rfl]; exact h
      cases hy with
      | non =>
        cases hx
        refine ⟨_, rfl, _, rfl, iteT ⟨_, rfl, ?_⟩⟩
        exact k H (Same.refl H)
      | bl c =>
        cases hx
        refine ⟨_, rfl, _, rfl, iteF ?_⟩
        refine ⟨_, rfl, _, _, _, _, _, rfl, .ty "bool", .base (.bl c), kit_ty (kit_bool (.bool c)), _, rfl, iteT ?_⟩
        refine ⟨_, rfl, _, _, _, _, _, rfl, .ty "bool", .base (.bl c), kit_ty (kit_bool (.bool c)), _, rfl, iteT ⟨_, rfl, _, rfl, rfl, ?_⟩⟩
        have e : decide (V.bl c = V.bl c) = true := decide_eq_true rfl
        have := k H (Same.refl H)
        rw [← e] at this; exact this
      | int i =>
        cases hx
        refine ⟨_, rfl, _, rfl, iteF ?_⟩
        refine ⟨_, rfl, _, _, _, _, _, rfl, .ty "bool", .base (.int i), kit_ty (kit_bool (.int i)), _, rfl, iteF ?_⟩
        refine ⟨_, rfl, _, _, _, _, _, rfl, .ty "int", .base (.int i), kit_ty (kit_int (.int i)), _, rfl, iteT ?_⟩
        refine ⟨_, rfl, _, _, _, _, _, rfl, .ty "int", .base (.int i), kit_ty (kit_int (.int i)), _, rfl, iteT ?_⟩
        refine ⟨_, rfl, _, _, _, _, _, rfl, .ty "bool", .base (.int i), kit_ty (kit_bool (.int i)), _, rfl, _, rfl, iteT ⟨_, rfl, _, rfl, rfl, ?_⟩⟩
        have e : decide (V.int i = V.int i) = true := decide_eq_true rfl
        have := k H (Same.refl H)
        rw [← e] at this; exact this
      | str t =>
        cases hx
        refine ⟨_, rfl, _, rfl, iteF ?_⟩
        refine ⟨_, rfl, _, _, _, _, _, rfl, .ty "bool", .base (.str t), kit_ty (kit_bool (.str t)), _, rfl, iteF ?_⟩
        refine ⟨_, rfl, _, _, _, _, _, rfl, .ty "int", .base (.str t), kit_ty (kit_int (.str t)), _, rfl, iteF ?_⟩
        refine ⟨_, rfl, _, _, _, _, _, rfl, .ty "str", .base (.str t), kit_ty (kit_str (.str t)), _, rfl, iteT ?_⟩
        refine ⟨_, rfl, _, _, _, _, _, rfl, .ty "str", .base (.str t), kit_ty (kit_str (.str t)), _, rfl, iteT ⟨_, rfl, _, rfl, rfl, ?_⟩⟩
        have e : decide (V.str t = V.str t) = true := decide_eq_true rfl
        have := k H (Same.refl H)
        rw [← e] at this; exact this
      | @lst a ys ds hs ha =>
        cases hx with
        | @lst a2 xs _ hs2 ha2 =>
          cases n with
          | zero => exact hf.elim
          | succ n =>
            have l1 := dpAll_len ha
            have l2 := dpAll_len ha2
            have hz : ds.length ≤ 1000 := hf.1
            refine ⟨_, rfl, _, rfl, iteF ?_⟩
            refine ⟨_, rfl, _, _, _, _, _, rfl, .ty "bool", tyx (.lst hs ha), kit_ty (kit_bool (.list ds)), _, rfl, iteF ?_⟩
            refine ⟨_, rfl, _, _, _, _, _, rfl, .ty "int", tyx (.lst hs ha), kit_ty (kit_int (.list ds)), _, rfl, iteF ?_⟩
            refine ⟨_, rfl, _, _, _, _, _, rfl, .ty "str", tyx (.lst hs ha), kit_ty (kit_str (.list ds)), _, rfl, iteF ?_⟩
            refine ⟨_, rfl, _, _, _, _, _, rfl, .ty "tuple", tyx (.lst hs ha), kit_ty (kit_tup (.list ds)), _, rfl, _, _, _, _, _, rfl, .ty "tuple", tyx (.lst hs2 ha2), kit_ty (kit_tup (.list ds)), rfl, _, rfl, ?_⟩
            refine ⟨_, rfl, _, _, _, _, _, rfl, .ty "list", tyx (.lst hs ha), kit_ty (kit_lst (.list ds)), _, rfl, _, _, _, _, _, rfl, .ty "list", tyx (.lst hs2 ha2), kit_ty (kit_lst (.list ds)), rfl, _, rfl, ?_⟩
            refine ⟨_, rfl, a2, xs, rfl, .inl hs2, _, rfl, a, ys, rfl, .inl hs, rfl, _, rfl, ?_⟩
            rw [l1, l2]
            have e : (!decide (V.int ((ds.length : Nat) : Int) = V.int ((ds.length : Nat) : Int))) = false := by rw [decide_eq_true rfl]; rfl
            rw [e]
            refine iteF ⟨_, rfl, a, ys, rfl, .inl hs, _, rfl, by omega, by omega, fun D hD => lc_range (lo := 0) (n := ((ys.length : Nat) : Int).toNat)
              (fun i H3 => Same H H3 ∧ H3 D = some (.lst ((List.replicate i true).map V.bl))) ⟨same_upd hD, upd_same⟩ ?_ ?_⟩
            · rintro i H3 hi ⟨s3, eD⟩
              have hi' : i < ds.length := by omega
              obtain ⟨y, hy⟩ : ∃ y, ys[i]? = some y := ⟨_, List.getElem?_eq_getElem (by omega)⟩
              obtain ⟨x, hx⟩ : ∃ x, xs[i]? = some x := ⟨_, List.getElem?_eq_getElem (by omega)⟩
              obtain ⟨d1, ed1, hd1⟩ := dpAll_get ha hy
              obtain ⟨d2, ed2, hd2⟩ := dpAll_get ha2 hx
              rw [ed1] at ed2
              cases ed2
              refine ⟨rfl, _, rfl, _, rfl, .inl ⟨a2, xs, _, x, rfl, rfl, s3.seq hs2, (by rw [Int.zero_add]; exact atI_nat hx), ?_⟩⟩
              refine ⟨_, rfl, _, rfl, .inl ⟨a, ys, _, y, rfl, rfl, s3.seq hs, (by rw [Int.zero_add]; exact atI_nat hy), ?_⟩⟩
              refine ⟨x, y, d1, rfl, dpSame s3 _ _ hd2, dpSame s3 _ _ hd1, hf.2 d1 (List.mem_of_getElem? ed1), fun H4 s4 => ⟨_, s4 _ _ eD, ?_, fun b o eb => ?_, ?_⟩⟩
              · rw [List.length_map, List.length_replicate]; exact Nat.lt_of_le_of_lt (by omega : i ≤ 1000) (by decide)
              · rw [upd_ne (ne_of_none eb hD)]; exact s4 _ _ (s3 _ _ eb)
              · rw [upd_same, List.replicate_succ', List.map_append]; rfl
            · rintro H3 ⟨s3, eD⟩
              refine ⟨D, _, rfl, SqL.of eD, ?_⟩
              have e2 : (List.replicate ((ys.length : Nat) : Int).toNat true).all id = true := List.all_eq_true.mpr fun z hz => by rw [List.eq_of_mem_replicate hz]; rfl
              rw [e2]
              exact k _ s3
      | @tup a ys ds hs ha =>
        cases hx with
        | @tup a2 xs _ hs2 ha2 =>
          cases n with
          | zero => exact hf.elim
          | succ n =>
            have l1 := dpAll_len ha
            have l2 := dpAll_len ha2
            have hz : ds.length ≤ 1000 := hf.1
            refine ⟨_, rfl, _, rfl, iteF ?_⟩
            refine ⟨_, rfl, _, _, _, _, _, rfl, .ty "bool", tyx (.tup hs ha), kit_ty (kit_bool (.tuple ds)), _, rfl, iteF ?_⟩
            refine ⟨_, rfl, _, _, _, _, _, rfl, .ty "int", tyx (.tup hs ha), kit_ty (kit_int (.tuple ds)), _, rfl, iteF ?_⟩
            refine ⟨_, rfl, _, _, _, _, _, rfl, .ty "str", tyx (.tup hs ha), kit_ty (kit_str (.tuple ds)), _, rfl, iteF ?_⟩
            refine ⟨_, rfl, _, _, _, _, _, rfl, .ty "tuple", tyx (.tup hs ha), kit_ty (kit_tup (.tuple ds)), _, rfl, _, _, _, _, _, rfl, .ty "tuple", tyx (.tup hs2 ha2), kit_ty (kit_tup (.tuple ds)), rfl, _, rfl, ?_⟩
            refine ⟨_, rfl, _, _, _, _, _, rfl, .ty "list", tyx (.tup hs ha), kit_ty (kit_lst (.tuple ds)), _, rfl, _, _, _, _, _, rfl, .ty "list", tyx (.tup hs2 ha2), kit_ty (kit_lst (.tuple ds)), rfl, _, rfl, ?_⟩
            refine ⟨_, rfl, a2, xs, rfl, .inr hs2, _, rfl, a, ys, rfl, .inr hs, rfl, _, rfl, ?_⟩
            rw [l1, l2]
            have e : (!decide (V.int ((ds.length : Nat) : Int) = V.int ((ds.length : Nat) : Int))) = false := by rw [decide_eq_true rfl]; rfl
            rw [e]
            refine iteF ⟨_, rfl, a, ys, rfl, .inr hs, _, rfl, by omega, by omega, fun D hD => lc_range (lo := 0) (n := ((ys.length : Nat) : Int).toNat)
              (fun i H3 => Same H H3 ∧ H3 D = some (.lst ((List.replicate i true).map V.bl))) ⟨same_upd hD, upd_same⟩ ?_ ?_⟩
            · rintro i H3 hi ⟨s3, eD⟩
              have hi' : i < ds.length := by omega
              obtain ⟨y, hy⟩ : ∃ y, ys[i]? = some y := ⟨_, List.getElem?_eq_getElem (by omega)⟩
              obtain ⟨x, hx⟩ : ∃ x, xs[i]? = some x := ⟨_, List.getElem?_eq_getElem (by omega)⟩
              obtain ⟨d1, ed1, hd1⟩ := dpAll_get ha hy
              obtain ⟨d2, ed2, hd2⟩ := dpAll_get ha2 hx
              rw [ed1] at ed2
              cases ed2
              refine ⟨rfl, _, rfl, _, rfl, .inr (.inl ⟨a2, xs, _, x, rfl, rfl, sSqT s3 hs2, (by rw [Int.zero_add]; exact atI_nat hx), ?_⟩)⟩
              refine ⟨_, rfl, _, rfl, .inr (.inl ⟨a, ys, _, y, rfl, rfl, sSqT s3 hs, (by rw [Int.zero_add]; exact atI_nat hy), ?_⟩)⟩
              refine ⟨x, y, d1, rfl, dpSame s3 _ _ hd2, dpSame s3 _ _ hd1, hf.2 d1 (List.mem_of_getElem? ed1), fun H4 s4 => ⟨_, s4 _ _ eD, ?_, fun b o eb => ?_, ?_⟩⟩
              · rw [List.length_map, List.length_replicate]; exact Nat.lt_of_le_of_lt (by omega : i ≤ 1000) (by decide)
              · rw [upd_ne (ne_of_none eb hD)]; exact s4 _ _ (s3 _ _ eb)
              · rw [upd_same, List.replicate_succ', List.map_append]; rfl
            · rintro H3 ⟨s3, eD⟩
              refine ⟨D, _, rfl, SqL.of eD, ?_⟩
              have e2 : (List.replicate ((ys.length : Nat) : Int).toNat true).all id = true := List.all_eq_true.mpr fun z hz => by rw [List.eq_of_mem_replicate hz]; rfl
              rw [e2]
              exact k _ s3
end
end Dk

set_option Elab.async false
set_option linter.all false
set_option maxRecDepth 100000
set_option maxHeartbeats 1000000
/-! dicts whose keys are tuples of ints, truth values and tuples of ints -/
namespace Dn
open PySem PyProof.Rows L2
abbrev NXs := List (NestedKey × Addr × Value)
def DnO (P : Program) (w : World) (a : Addr) (xs : NXs) : HO := .ext fun h => (a == sysModules) = false ∧ xs.length ≤ sizeLine ∧ ∃ o es ep, h.get? a = some o ∧ o.ExactDict ∧ o.data = .dict es ep ∧ es.toList = xs.map (entryOfKey (nestedKind P w)) ∧ (xs.map (·.1)).Nodup
/-- a part of a key -/
inductive KAt0 (H : Hp) : NestedKey → V → Prop
  | int (i : Int) : KAt0 H (.num i) (.int i)
  | bl (b : Bool) : KAt0 H (.num (if b = true then 1 else 0)) (.bl b)
  | tup {a : Addr} {ns : List Int} : H a = some (.tup (ns.map V.int)) → KAt0 H (.tup (ns.map .num)) (.ref a)
def KAt (H : Hp) (k : NestedKey) (a : Addr) : Prop := ∃ ks vs, k = .tup ks ∧ H a = some (.tup vs) ∧ Paired (KAt0 H) ks vs
theorem KAt0.mono {H H' : Hp} {k : NestedKey} {v : V} (h : KAt0 H k v) (s : ∀ t ys, H t = some (.tup ys) → H' t = some (.tup ys)) : KAt0 H' k v := by
  cases h with
  | int i => exact .int i
  | bl b => exact .bl b
  | tup e => exact .tup (s _ _ e)
theorem KAt.mono {H H' : Hp} {k : NestedKey} {a : Addr} (h : KAt H k a) (s : ∀ t ys, H t = some (.tup ys) → H' t = some (.tup ys)) : KAt H' k a := by
  obtain ⟨ks, vs, e1, e2, e3⟩ := h
  exact ⟨ks, vs, e1, s _ _ e2, Paired.mapP e3 fun _ _ z => z.mono s⟩
section
variable {P : Program} {w : World} {H : Hp} {h : Heap}
theorem nums_is : ∀ {ns : List Int} {its : List Value}, Vals (ns.map V.int) its → NestedAll h (ns.map .num) its
  | [], [], .nil => .nil
  | n :: ns, _ :: _, .cons r t => by
    obtain ⟨tk, e⟩ := (show ∃ t, _ = Value.int n t from r)
    subst e
    exact .cons (.int n tk) (nums_is t)
theorem nums_depth : ∀ ns : List Int, NestedKey.depthAll (ns.map .num) = 0
  | [] => rfl
  | n :: ns => by show max 0 (NestedKey.depthAll (ns.map .num)) = 0; rw [nums_depth ns]; rfl
theorem kat0_is (ok : HOk P w H h) {k : NestedKey} {v : V} {u : Value} (r : KAt0 H k v) (rv : RelV v u) : NestedIs h k u ∧ k.depth ≤ 1 := by
  cases r with
  | int i =>
    obtain ⟨t, e⟩ := (show ∃ t, u = Value.int i t from rv)
    subst e
    exact ⟨.int i t, by show 0 ≤ 1; decide⟩
  | bl b =>
    obtain rfl : u = Value.bool b := rv
    exact ⟨.bool rfl, by show 0 ≤ 1; decide⟩
  | @tup a ns e =>
    obtain rfl : u = Value.ref a := rv
    obtain ⟨_, its, r, o, h1, h2, n, h3⟩ := (show ObjOk P w H h a (.tup (ns.map V.int)) from ok a _ e)
    exact ⟨.tup h1 h2 h3 (by simpa using nums_is r), by show NestedKey.depthAll _ + 1 ≤ 1; rw [nums_depth]; decide⟩
theorem kats_is (ok : HOk P w H h) : ∀ {ks : List NestedKey} {vs : List V} {us : List Value}, Paired (KAt0 H) ks vs → Vals vs us → NestedAll h ks us ∧ NestedKey.depthAll ks ≤ 1
  | [], [], [], .nil, .nil => ⟨.nil, by show 0 ≤ 1; decide⟩
  | k :: ks, _ :: _, _ :: _, .cons r t, .cons rv tv => by
    obtain ⟨i1, i2⟩ := kats_is ok t tv
    obtain ⟨j1, j2⟩ := kat0_is ok r rv
    exact ⟨.cons j1 i1, by show max k.depth (NestedKey.depthAll ks) ≤ 1; omega⟩
theorem kat_is (ok : HOk P w H h) {k : NestedKey} {a : Addr} (r : KAt H k a) : (nestedKind P w).is h k a := by
  obtain ⟨ks, vs, rfl, e, hp⟩ := r
  obtain ⟨_, its, rv, o, h1, h2, n, h3⟩ := (show ObjOk P w H h a (.tup vs) from ok a _ e)
  obtain ⟨i1, i2⟩ := kats_is ok hp rv
  exact ⟨.tup h1 h2 h3 (by simpa using i1), by show NestedKey.depthAll ks + 1 ≤ 8; omega⟩
end
theorem dn_empty {P : Program} {w : World} {H : Hp} (h : Heap) (hb : sysModules < h.objs.size) : ObjOk P w H (h.push { cls := .type "dict", data := .dict #[] }) h.objs.size (DnO P w h.objs.size []) := by
  refine ⟨⟨beq_eq_false_iff_ne.mpr (Ne.symm (Nat.ne_of_lt hb)), Nat.zero_le _, _, #[], 0, Heap.get?_push_size _ rfl, ⟨rfl, rfl, rfl⟩, rfl, rfl, List.nodup_nil⟩, ⟨_, Heap.get?_push_size _ rfl⟩, ?_⟩
  rintro h1 h2 ⟨e1, e2, o, es, ep, g1, g2⟩ k
  exact ⟨e1, e2, o, es, ep, k _ g1, g2⟩
section
variable {X : Cx} {pins : List (Addr × Obj)} {σ : L2.St} {H : Hp} {s : Shared} {a b : Addr} {xs : NXs} {k : NestedKey} {r : Value} {A : Around} {E : Value → Shared → Prop}
theorem dn_of (I : Inv X pins σ H s) (e : H a = some (DnO X.prog X.w a xs)) (hx : ∀ p ∈ xs, KAt H p.1 p.2.1) : (a == sysModules) = false ∧ xs.length ≤ sizeLine ∧ s.heap.DictOfH (nestedKind X.prog X.w) a xs := by
  obtain ⟨⟨e1, e2, o, es, ep, g1, g2, g3, g4, g5⟩, _⟩ := (show ObjOk X.prog X.w H s.heap a (DnO X.prog X.w a xs) from I.hok a _ e)
  exact ⟨e1, e2, o, es, ep, g1, g2, g3, g4, fun x hxm => kat_is I.hok (hx x hxm), g5⟩
theorem dn_room (hu : A.units + 16 < cLine) : (nestedKind X.prog X.w).room A.in1 := by
  show A.in1.units + 8 < cLine
  rw [Around.in1_units]; omega
theorem dn_notIn {Q : Value → Shared → Prop} (hu : A.units + 16 < cLine) (I : Inv X pins σ H s) (e : H a = some (DnO X.prog X.w a xs)) (hx : ∀ p ∈ xs, KAt H p.1 p.2.1) (hk : KAt H k b)
    (h : ∀ s', Inv X pins σ H s' → Q (.bool (!(atKey xs k).isSome)) s') : wpAny (model X.prog X.w) A (compareOp .NotIn (.ref b) (.ref a)) Q E s := by
  obtain ⟨e1, e2, dd⟩ := dn_of I e hx
  exact wpAny_notIn_heap (dn_room hu) (kat_is I.hok hk) e1 dd (h _ (I.tok _))
theorem dn_set {Q : Unit → Shared → Prop} (hu : A.units + 16 < cLine) (I : Inv X pins σ H s) (e : H a = some (DnO X.prog X.w a xs)) (hx : ∀ p ∈ xs, KAt H p.1 p.2.1) (hk : KAt H k b) (hn : atKey xs k = none) (hl : xs.length < sizeLine)
    (h : ∀ s', Inv X pins σ (upd H a (DnO X.prog X.w a (xs ++ [(k, b, r)]))) s' → Q () s') : wpAny (model X.prog X.w) A (setItem (.ref a) (.ref b) r) Q E s := by
  obtain ⟨e1, e2, dd⟩ := dn_of I e hx
  refine wpAny_setItem_heap (hsz := e2) (dn_room hu) (kat_is I.hok hk) dd fun h' dd' hs => h _ ?_
  rw [storedH_new hn] at dd'
  obtain ⟨q, es, ep, hq, h2, h3, h4, _, h5⟩ := dd'
  refine d_write I (by rw [e]; exact True.intro) hs ⟨q, hq⟩ ⟨⟨e1, ?_, q, es, ep, hq, h2, h3, h4, h5⟩, ⟨q, hq⟩, ?_⟩
  · rw [List.length_append]; exact hl
  · rintro h1 h2 ⟨e1, e2, o, es, ep, g1, g2⟩ k
    exact ⟨e1, e2, o, es, ep, k _ g1, g2⟩
end
/-- {} for such keys -/
def tNew (P : Program) (w : World) : TE := fun _ H Q => ∀ p, H p = none → Q (.ref p) (upd H p (DnO P w p []))
/-- y not in d -/
def tNotIn (P : Program) (w : World) (ty td : TE) : TE := fun σ H Q => ty σ H fun y H1 => td σ H1 fun x H2 => ∃ a b xs k, x = .ref a ∧ y = .ref b ∧ H2 a = some (DnO P w a xs) ∧ (∀ p ∈ xs, KAt H2 p.1 p.2.1) ∧ KAt H2 k b ∧ Q (.bl (!(atKey xs k).isSome)) H2
/-- d[y] = True, not there before -/
def sPut (P : Program) (w : World) (td ty : TE) : TS := fun D σ H => td σ H fun x H2 => ty σ H2 fun y H3 => ∃ a b xs k, x = .ref a ∧ y = .ref b ∧ H3 a = some (DnO P w a xs) ∧ (∀ p ∈ xs, KAt H3 p.1 p.2.1) ∧ KAt H3 k b ∧ atKey xs k = none ∧ xs.length < sizeLine ∧ D.nx σ (upd H3 a (DnO P w a (xs ++ [(k, b, .bool true)])))
section
variable {X : Cx} {o i e value : Expr} {pos pos' p2 : Pos} {td ty tv : TE} {j : Nat}
theorem pe_new : PE X (.Dict [] [] pos) (tNew X.prog X.w) := ⟨fun pins s σ H Q I h =>
  wpAny_Dict_empty ⟨.ref s.heap.objs.size, _, I.laid (a := s.heap.objs.size) (o := DnO X.prog X.w s.heap.objs.size []) (t' := s.toks) (fun _ _ q => Heap.get?_push_of_some _ q) (Nat.le_refl _) (dn_empty s.heap I.big), rfl, h _ (I.hok.fresh (Nat.le_refl _))⟩⟩
theorem pc_notIn (hu : X.A.units + 16 < cLine) (hi : PE X i ty) (ho : PE X o td) : PC X .NotIn i o (tNotIn X.prog X.w ty td) := by
  refine ⟨fun pins s σ H Q I h => ?_⟩
  refine thn (hi.run pins s σ H _ I h) fun iv s1 ⟨y, H1, I1, ry, q1⟩ => thn (ho.run pins s1 σ H1 _ I1 q1) fun u s2 ⟨x, H2, I2, rx, a, b, xs, k, ex, ey, g, hx, hk, q2⟩ => ?_
  subst ex ey
  obtain rfl : u = Value.ref a := rx
  obtain rfl : iv = Value.ref b := ry
  exact dn_notIn hu I2 g hx hk fun s3 I3 => ⟨.bl (!(atKey xs k).isSome), H2, I3, rfl, q2⟩
theorem ps_put (hu : X.A.units + 16 < cLine) (ho : PE X o td) (hi : PE X i ty) (hs : swapsWith (.Constant (.bool true) j p2) (some (.Subscript o i pos')) pos.line X.env = pure false := by rfl) :
    PS X (.Assign [.Subscript o i pos'] (.Constant (.bool true) j p2) pos) (sPut X.prog X.w td ty) := by
  refine ⟨fun pins s σ H D I h => ?_⟩
  refine wpAny_Assign_Subscript (thn ((pe_bl (b := true) (X := X) (pos := p2) (j := j)).run pins s σ H (fun v H1 => v = .bl true ∧ H1 = H) I ⟨rfl, rfl⟩) fun r s1 ⟨v, H1, I1, rv, ev, eH⟩ => ?_) hs
  subst ev eH
  obtain rfl : r = Value.bool true := rv
  refine thn (ho.run pins s1 σ H1 _ I1 h) fun u s2 ⟨x, H2, I2, rx, q2⟩ => thn (hi.run pins s2 σ H2 _ I2 q2) fun iv s3 ⟨y, H3, I3, ry, a, b, xs, k, ex, ey, g, hx, hk, hn, hl, q3⟩ => ?_
  subst ex ey
  obtain rfl : u = Value.ref a := rx
  obtain rfl : iv = Value.ref b := ry
  exact dn_set hu I3 g hx hk hn hl fun s4 I4 => ⟨σ, _, I4, q3⟩
end
end Dn

set_option Elab.async false
set_option linter.all false
set_option maxRecDepth 100000
set_option maxHeartbeats 1000000
namespace Dk
open PySem PySem.Spec PyProof.Rows L2 TL
/-! ### numbers in order -/
def rg (n : Nat) : List Int := (List.range n).map fun k : Nat => (k : Int)
theorem rg_succ (n : Nat) : rg (n + 1) = rg n ++ [(n : Int)] := by unfold rg; rw [List.range_succ, List.map_append]; rfl
theorem rg_len (n : Nat) : (rg n).length = n := by unfold rg; rw [List.length_map, List.length_range]
theorem rg_mem {n : Nat} {p : Int} : p ∈ rg n ↔ 0 ≤ p ∧ p < (n : Int) := by
  unfold rg
  rw [List.mem_map]
  constructor
  · rintro ⟨k, hk, rfl⟩
    have := List.mem_range.mp hk
    omega
  · rintro ⟨h0, h1⟩
    obtain ⟨k, rfl⟩ := Int.eq_ofNat_of_zero_le h0
    exact ⟨k, List.mem_range.mpr (by omega), rfl⟩
def insI (a : Int) : List Int → List Int
  | [] => [a]
  | b :: l => if a ≤ b then a :: b :: l else b :: insI a l
def srt : List Int → List Int
  | [] => []
  | a :: l => insI a (srt l)
theorem insI_perm (a : Int) : ∀ l : List Int, (insI a l).Perm (a :: l)
  | [] => List.Perm.refl _
  | b :: l => by
    unfold insI
    split
    · exact List.Perm.refl _
    · exact ((insI_perm a l).cons b).trans (List.Perm.swap a b l)
theorem srt_perm : ∀ l : List Int, (srt l).Perm l
  | [] => List.Perm.refl _
  | a :: l => (insI_perm a (srt l)).trans ((srt_perm l).cons a)
theorem insI_sorted (a : Int) : ∀ l : List Int, l.Pairwise (· ≤ ·) → (insI a l).Pairwise (· ≤ ·)
  | [], _ => List.pairwise_singleton _ _
  | b :: l, h => by
    unfold insI
    split
    · rename_i hab
      refine List.pairwise_cons.mpr ⟨fun x hx => ?_, h⟩
      rcases List.mem_cons.mp hx with rfl | hx
      · exact hab
      · exact Int.le_trans hab ((List.pairwise_cons.mp h).1 x hx)
    · rename_i hab
      refine List.pairwise_cons.mpr ⟨fun x hx => ?_, insI_sorted a l (List.pairwise_cons.mp h).2⟩
      rcases List.mem_cons.mp ((insI_perm a l).mem_iff.mp hx) with rfl | hx
      · omega
      · exact (List.pairwise_cons.mp h).1 x hx
theorem srt_sorted : ∀ l : List Int, (srt l).Pairwise (· ≤ ·)
  | [] => .nil
  | a :: l => insI_sorted a _ (srt_sorted l)
theorem srt_uniq {l ys : List Int} (p : ys.Perm l) (s : ys.Pairwise (· ≤ ·)) : ys = srt l :=
  List.Perm.eq_of_pairwise (fun a b _ _ h1 h2 => Int.le_antisymm h1 h2) s (srt_sorted l) (p.trans (srt_perm l).symm)
theorem srt_len (l : List Int) : (srt l).length = l.length := (srt_perm l).length_eq
/-! ### what happens in a tick -/
structure Cs where
  home : List Int
  wait : List Int
  carr : List Int
  opn : Bool
abbrev Ev := Str × V
structure Hd where
  ts : List Str
  ks : Int
  cs : List Int
  rs : List Pr
def homeL (x : Str) (t : Int) : Bool := decide ((tl x)[(t % ((tl x).length : Int)).toNat]? = some 104)
def wishes (ts : List Str) (t : Int) : List Bool := ts.map fun x => homeL x t
def wants (ws : List Bool) (p : Int) : Bool := ws.getD p.toNat false
def comersOf (ws : List Bool) (home : List Int) : List Int := (rg ws.length).filter fun p => wants ws p && !decide (p ∈ home)
def canEnter (c : Cs) (cm : List Int) : Bool := if (!c.home.isEmpty || c.opn) = true then true else cm.any fun p => decide (p ∈ c.carr)
def wEnter : Str := Str.ofString "enter"
def wWait : Str := Str.ofString "wait"
def wLeave : Str := Str.ofString "leave"
def wTake : Str := Str.ofString "take"
def wOpen : Str := Str.ofString "open"
def arrive (ws : List Bool) (c : Cs) : Cs × List Ev :=
  let cm := comersOf ws c.home
  if cm.isEmpty = true then ({ c with wait := [] }, [])
  else if canEnter c cm = true then (⟨srt (c.home ++ cm), [], c.carr.filter fun p => !decide (p ∈ cm), false⟩, cm.map fun p => (wEnter, .int p))
  else ({ c with wait := cm }, cm.map fun p => (wWait, .int p))
def takeKey (ks : Int) (c : Cs) (p : Int) : Cs × Bool := if (c.carr.length : Int) = ks then (c, false) else ({ c with carr := srt (c.carr ++ [p]) }, true)
def thinks (h : Hd) (t p : Int) : Bool := decide (p ∈ h.cs) || decide ((t % ((per h.ts : Nat) : Int), p) ∈ h.rs)
def leaveStep (h : Hd) (t : Int) (a : Cs × Bool × List Ev) (p : Int) : Cs × Bool × List Ev :=
  if thinks h t p = true then
    (if (takeKey h.ks a.1 p).2 = true then ((takeKey h.ks a.1 p).1, true, a.2.2 ++ [(wLeave, .int p)] ++ [(wTake, .int p)]) else ((takeKey h.ks a.1 p).1, a.2.1, a.2.2 ++ [(wLeave, .int p)]))
  else (a.1, a.2.1, a.2.2 ++ [(wLeave, .int p)])
def closeC (ks : Int) (c : Cs) (p : Int) : Cs × Ev := if (takeKey ks c p).2 = true then ((takeKey ks c p).1, (wTake, .int p)) else ({ c with opn := true }, (wOpen, .non))
def leaversOf (ws : List Bool) (c : Cs) : List Int := c.home.filter fun p => !wants ws p
def stay (ws : List Bool) (c : Cs) : Cs := { c with home := c.home.filter fun p => wants ws p }
def leaveAll (h : Hd) (t : Int) (ws : List Bool) (c : Cs) : Cs × Bool × List Ev := (leaversOf ws c).foldl (leaveStep h t) (stay ws c, false, [])
def depart (h : Hd) (t : Int) (ws : List Bool) (c : Cs) : Cs × List Ev :=
  match (leaversOf ws c).getLast? with
  | some q => if ((stay ws c).home.isEmpty && !(leaveAll h t ws c).2.1) = true then ((closeC h.ks (leaveAll h t ws c).1 q).1, (leaveAll h t ws c).2.2 ++ [(closeC h.ks (leaveAll h t ws c).1 q).2]) else ((leaveAll h t ws c).1, (leaveAll h t ws c).2.2)
  | none => ((leaveAll h t ws c).1, (leaveAll h t ws c).2.2)
def adv (h : Hd) (t : Int) (c : Cs) : Cs × List Ev :=
  ((depart h t (wishes h.ts t) (arrive (wishes h.ts t) c).1).1, (arrive (wishes h.ts t) c).2 ++ (depart h t (wishes h.ts t) (arrive (wishes h.ts t) c).1).2)
/-! ### in the heap -/
def cFields (vh vs vt vm vw vc vu : V) : List (Str × V) := [("house", vh), ("span", vs), ("tick", vt), ("home", vm), ("waiters", vw), ("carriers", vc), ("unlocked", vu)]
/-- the course at p -/
structure CoAt (CC : Addr) (H : Hp) (p hp : Addr) (sp t : Int) (c : Cs) : Prop where
  ex : ∃ dx aH aW aC, H p = some (.ins CC dx (cFields (.ref hp) (.int sp) (.int t) (.ref aH) (.ref aW) (.ref aC) (.bl c.opn))) ∧ H aH = some (.lst (c.home.map V.int)) ∧ H aW = some (.lst (c.wait.map V.int)) ∧ H aC = some (.lst (c.carr.map V.int))
theorem CoAt.mono {CC : Addr} {H H' : Hp} {p hp : Addr} {sp t : Int} {c : Cs} (h : CoAt CC H p hp sp t c) (s : Same H H') : CoAt CC H' p hp sp t c := by
  obtain ⟨dx, aH, aW, aC, e1, e2, e3, e4⟩ := h
  exact ⟨dx, aH, aW, aC, s _ _ e1, s _ _ e2, s _ _ e3, s _ _ e4⟩
/-- where the list of those at home stands -/
def HomeAt (H : Hp) (p a : Addr) : Prop := ∃ C dx fs, H p = some (.ins C dx fs) ∧ fs.lookup ("home" : Str) = some (.ref a)
theorem HomeAt.mono {H H' : Hp} {p a : Addr} (h : HomeAt H p a) (s : Same H H') : HomeAt H' p a := by
  obtain ⟨C, dx, fs, e1, e2⟩ := h
  exact ⟨C, dx, fs, s _ _ e1, e2⟩
theorem HomeAt.kpl {H H' : Hp} {p a ev : Addr} {xs : List V} (h : HomeAt H p a) (k : Kp ev H H') (e : H ev = some (.lst xs)) : HomeAt H' p a := by
  obtain ⟨C, dx, fs, e1, e2⟩ := h
  exact ⟨C, dx, fs, k _ _ (fun z => by rw [z, e] at e1; cases e1) e1, e2⟩
theorem HomeAt.put {H G : Hp} {p a C dx : Addr} {fs gs : List (Str × V)} {C' dx' : Addr} (h : HomeAt H p a) (e : H p = some (.ins C dx fs)) (g : G p = some (.ins C' dx' gs)) (q : gs.lookup ("home" : Str) = fs.lookup ("home" : Str)) : HomeAt G p a := by
  obtain ⟨C2, dx2, fs2, e1, e2⟩ := h
  have := Option.some.inj (e.symm.trans e1)
  injection this with _ _ e3
  subst e3
  exact ⟨C', dx', gs, g, q.trans e2⟩
/-- a list of events of the tick t -/
def Evs (H : Hp) (t : Int) (xs : List V) (evs : List Ev) : Prop := Paired (fun v (e : Ev) => ∃ a, v = .ref a ∧ H a = some (.tup [.int t, .str e.1, e.2])) xs evs
theorem Evs.mono {H H' : Hp} {t : Int} : ∀ {xs : List V} {evs : List Ev}, Evs H t xs evs → (∀ a ys, H a = some (.tup ys) → H' a = some (.tup ys)) → Evs H' t xs evs
  | [], [], .nil, _ => .nil
  | _ :: _, _ :: _, .cons ⟨a, e, h⟩ q, s => .cons ⟨a, e, s _ _ h⟩ (Evs.mono q s)
theorem Evs.app {H : Hp} {t : Int} : ∀ {xs : List V} {evs : List Ev} {ys : List V} {fs : List Ev}, Evs H t xs evs → Evs H t ys fs → Evs H t (xs ++ ys) (evs ++ fs)
  | [], [], _, _, .nil, h => h
  | _ :: _, _ :: _, _, _, .cons a q, h => .cons a (Evs.app q h)
theorem Evs.len {H : Hp} {t : Int} {xs : List V} {evs : List Ev} (h : Evs H t xs evs) : xs.length = evs.length := Paired.length h
def EvAt (H : Hp) (a : Addr) (t : Int) (evs : List Ev) : Prop := ∃ xs, H a = some (.lst xs) ∧ Evs H t xs evs
/-- the house at hp, seen by the course -/
structure HoAt (K : PySem.W.Frag) (CH : Addr) (H : Hp) (hp : Addr) (h : Hd) : Prop where
  ex : HouseAt K CH H hp h.ts h.ks h.cs h.rs
theorem kp_tup2 {p : Addr} {H H' : Hp} {C dx : Addr} {fs : List (Str × V)} (k : Kp p H H') (e : H p = some (.ins C dx fs)) : ∀ a ys, H a = some (.tup ys) → H' a = some (.tup ys) := fun a ys h => k _ _ (fun q => by rw [q, e] at h; cases h) h
theorem kp_sqt {K : PySem.W.Frag} {p : Addr} {H H' : Hp} {C dx : Addr} {fs : List (Str × V)} {a : Addr} {xs : List V} (k : Kp p H H') (e : H p = some (.ins C dx fs)) (h : SqT K H a xs) : SqT K H' a xs := by
  rcases h with (h | ⟨o, h⟩) | h
  · exact .inl (.inl (k _ _ (fun q => by rw [q, e] at h; cases h) h))
  · exact .inl (.inr ⟨o, k _ _ (fun q => by rw [q, e] at h; cases h) h⟩)
  · exact .inr h
theorem HoAt.kp {K : PySem.W.Frag} {CH CC : Addr} {p hp dx : Addr} {H H' : Hp} {fs : List (Str × V)} {h : Hd} (x : HoAt K CH H hp h) (k : Kp p H H') (e : H p = some (.ins CC dx fs)) (n : hp ≠ p) : HoAt K CH H' hp h := by
  obtain ⟨⟨d, aT, aC, aR, xs, e1, e2, e3, e4, e5⟩⟩ := x
  exact ⟨⟨d, aT, aC, aR, xs, k _ _ n e1, kp_sqt k e e2, kp_sqt k e e3, kp_sqt k e e4, e5.mono fun t ys h => kp_tup2 k e _ _ h⟩⟩
theorem HoAt.mono {K : PySem.W.Frag} {CH : Addr} {hp : Addr} {H H' : Hp} {h : Hd} (x : HoAt K CH H hp h) (s : Same H H') : HoAt K CH H' hp h := by
  obtain ⟨⟨d, aT, aC, aR, xs, e1, e2, e3, e4, e5⟩⟩ := x
  exact ⟨⟨d, aT, aC, aR, xs, s _ _ e1, sSqT s e2, sSqT s e3, sSqT s e4, e5.mono fun t ys h => s _ _ h⟩⟩
theorem any_mem (p : Int) (l : List Int) : inV (V.int p) (l.map V.int) = decide (p ∈ l) := any_eqI l p
end Dk

set_option Elab.async false
set_option linter.all false
set_option maxRecDepth 100000
set_option maxHeartbeats 1000000
namespace Dk
open PySem PySem.Spec PyProof.Rows L2 TL
def rInDT (K : PySem.W.Frag) : R2 := fun x y H Q => ∃ d ds, Dp K H x d ∧ Dp K H y (.tuple ds) ∧ SeqAt.shaped d = true ∧ SeqAt.shaped (.list ds) = true ∧ Q (.bl (ds.any fun z => PyData.eqv z d)) H
theorem op_inDT {X : Cx} (hu : X.A.units + 65 < cLine) : OpR X (compareOp .In) (rInDT X.K) := by
  intro pins s σ H x y v u Q I rx ry h
  obtain ⟨d, ds, hd, he, sd, se, q⟩ := h
  obtain ⟨as, r1⟩ := Dp.reads I d x v hd rx
  obtain ⟨bs, r2⟩ := Dp.reads I (.tuple ds) y u he ry
  exact SeqAt.in_tuple_reads r2 r1 (SeqAt.canLay_of_shaped se) (SeqAt.canLay_of_shaped sd) (room_in_shaped sd hu) ⟨.bl _, H, I, rfl, q⟩
structure TxtCo (K : PySem.W.Frag) (mg : Str → Option Value) (CC CH fHL : Addr) (fdHL : FuncData) : Prop where
  cl : Cls K CC
  nHo : NoAttr K CC "house"
  nSp : NoAttr K CC "span"
  nTk : NoAttr K CC "tick"
  nHm : NoAttr K CC "home"
  nWt : NoAttr K CC "waiters"
  nCr : NoAttr K CC "carriers"
  nUn : NoAttr K CC "unlocked"
  clH : Cls K CH
  nT : NoAttr K CH "tables"
  nK : NoAttr K CH "key_count"
  nC : NoAttr K CH "careful"
  nR : NoAttr K CH "reminders"
  gHL : mg "is_home_letter" = some (.ref fHL)
  FHL : Fun K "is_home_letter" "is_home_letter" sHomeL fHL fdHL
  bHL : Binds K fdHL ["table", "tick"] []
  any : mg "any" = none
  sorted : mg "sorted" = none
  enumerate : mg "enumerate" = none
  list : mg "list" = none
  tuple : mg "tuple" = none
def spHome : Sp := fun vs H Q _ => ∃ (x : Str) (t : Int), vs = [.str x, .int t] ∧ IsTab x ∧ ∀ H', Same H H' → Q (.bl (homeL x t)) H'
theorem homeL_eq {x : Str} {t : Int} {c : Nat} (h : x.cps[(t % (x.length : Int)).toNat]? = some c) : decide (V.str (⟨#[c]⟩ : Str) = V.str (Str.ofString "h")) = homeL x t := by
  have e1 : (tl x)[(t % ((tl x).length : Int)).toNat]? = some c := by rw [← len_tl, ← h]; exact Array.getElem?_toList
  have e2 : tl (Str.ofString "h") = [104] := by decide +kernel
  unfold homeL
  rw [e1]
  by_cases q : c = 104
  · subst q
    rw [decide_eq_true (congrArg V.str (ext_tl (by rw [e2])))]
    simp
  · rw [decide_eq_false fun e => q ?_, decide_eq_false fun e => q (Option.some.inj e)]
    have h1 : tl (⟨#[c]⟩ : Str) = tl (Str.ofString "h") := congrArg tl (V.str.inj e)
    rw [e2] at h1
    exact (List.cons.inj h1).1
section
variable {P : Program} {w : World} {K : PySem.W.Frag} {mg : Str → Option Value} {base : Heap} {CC CH fHL : Addr} {fdHL : FuncData}
theorem scHome : FnScope ["table", "tick"] ["table", "tick"] (defScope sHomeL) := ⟨rfl, rfl, rfl, by decide +kernel, rfl, by decide +kernel, by decide +kernel⟩
theorem ok_home (C' : TxtCo K mg CC CH fHL fdHL) (T : TxtA mg) : FnOk P w K mg base CX0 1 fHL fdHL ["table", "tick"] spHome := by
  refine C'.FHL.ok scHome (fun vs H Q E h => ?_) (fun cdv A outer s H vs Q E hr h => ?_)
  · obtain ⟨x, t, rfl, _⟩ := h
    rfl
  · obtain ⟨x, t, rfl, hx, k⟩ := h
    refine ⟨_, pss_one (ps_ret (pe_cmpR op_eq (pe_item_str (pv 0) (pe_op op_mod (pv 1) (pe_callB call_len_str (by rfl) T.len PySem.boot_len (pa_cons (pv 0) pa_nil))) (fun _ _ => rfl)) pe_str (nomark _))), ?_⟩
    have hp := hx.pos
    rw [← len_tl] at hp
    have h0 : 0 ≤ t % (x.length : Int) := Int.emod_nonneg _ (by omega)
    have h1 : t % (x.length : Int) < (x.length : Int) := Int.emod_lt_of_pos _ (by omega)
    have hj : (t % (x.length : Int)).toNat < x.cps.size := by
      show _ < x.length
      omega
    refine ⟨_, rfl, _, rfl, _, rfl, _, rfl, hx.size, _, _, rfl, rfl, by show (0 : Int) < _; omega, x, _, x.cps[(t % (x.length : Int)).toNat], rfl, rfl, h0, by omega, h1, Array.getElem?_eq_getElem hj, rfl, ?_⟩
    rw [homeL_eq (Array.getElem?_eq_getElem hj)]
    exact k H (Same.refl H)
/-- [f(p) for p in l], l a list of numbers -/
theorem comp_ints {l : Addr} {ns : List Int} {H1 : Hp} {D : Addr} {g : Int → V} {σ : L2.St} {i : Nat} {vs : List Nat} {te : TE} {Qd : Hp → Prop} (hD : H1 D = none) (hl : SqL K H1 l (ns.map V.int)) (hz : ns.length ≤ 1000)
    (hte : ∀ (p : Int) (H2 : Hp) (Q : VK), p ∈ ns → Same H1 H2 → (∀ H3, Same H2 H3 → Q (g p) H3) → te ((wipe σ vs).set i (some (.int p))) H2 Q) (hw : ∀ x : V, wipe ((wipe σ vs).set i (some x)) vs = wipe σ vs)
    (hd : ∀ H2, Same H1 H2 → H2 D = some (.lst (ns.map g)) → Qd H2) :
    ∃ W : Nat → Nat → Hp → Prop, (∃ m, W 0 m (upd H1 D (.lst []))) ∧ ∀ i' m H, W i' m H →
      ((Itl K l).stop i' H ∧ Qd H) ∨ ((Itl K l).go i' H ∧ ∃ Nx : Hp → Prop, (∀ H', Nx H' → ∃ m', m' < m ∧ W (i' + 1) m' H') ∧ ∀ x H', (Itl K l).yld i' H x H' → gName i x (wipe σ vs) H' fun σ2 H2 => wipe σ2 vs = wipe σ vs ∧ tYes σ2 H2 fun b H3 =>
        if b = true then te σ2 H3 fun y H4 => ∃ acc, H4 D = some (.lst acc) ∧ acc.length < sizeLine ∧ Nx (upd H4 D (.lst (acc ++ [y]))) else Nx H3) := by
  refine lc_list (K := K) (a := l) (xs := ns.map V.int) (g := gName i) (tt := tYes) (te := te) (vs := vs) (σ := σ) (Qd := Qd)
    (fun i H3 => Same H1 H3 ∧ H3 D = some (.lst ((ns.take i).map g)))
    ⟨same_upd hD, upd_same⟩ (fun i H3 _ ⟨e, _⟩ => e.seq hl) ?_ ?_
  · rintro j y H3 hi ⟨s3, eD⟩
    obtain ⟨t, ht, rfl⟩ := map_at hi
    have hj : j < ns.length := (List.getElem?_eq_some_iff.mp ht).1
    refine ⟨hw _, hte t H3 _ (List.mem_of_getElem? ht) s3 fun H4 s4 => ⟨_, s4 _ _ eD, ?_, fun b o eb => ?_, ?_⟩⟩
    · rw [List.length_map, List.length_take]
      exact Nat.lt_of_le_of_lt (Nat.le_trans (Nat.min_le_left _ _) (by omega : j ≤ 1000)) (by decide)
    · rw [upd_ne (ne_of_none eb hD)]; exact s4 _ _ (s3 _ _ eb)
    · rw [upd_same, take_more ht, List.map_append]; rfl
  · rintro H3 ⟨s3, eD⟩
    rw [List.length_map, List.take_length] at eD
    exact hd H3 s3 eD
/-- [p for p in l if ..], l a list of numbers -/
theorem comp_filt {l : Addr} {ns : List Int} {H1 : Hp} {D : Addr} {g : Int → Bool} {σ : L2.St} {i : Nat} {vs : List Nat} {tt : TT} {Qd : Hp → Prop} (hD : H1 D = none) (hl : SqL K H1 l (ns.map V.int)) (hz : ns.length ≤ 1000)
    (htt : ∀ (p : Int) (H2 : Hp) (Qb : Bool → Hp → Prop), p ∈ ns → Same H1 H2 → (∀ H3, Same H2 H3 → Qb (g p) H3) → tt ((wipe σ vs).set i (some (.int p))) H2 Qb)
    (hv : ∀ x : V, ((wipe σ vs).set i (some x))[i]? = some (some x)) (hw : ∀ x : V, wipe ((wipe σ vs).set i (some x)) vs = wipe σ vs)
    (hd : ∀ H2, Same H1 H2 → H2 D = some (.lst ((ns.filter g).map V.int)) → Qd H2) :
    ∃ W : Nat → Nat → Hp → Prop, (∃ m, W 0 m (upd H1 D (.lst []))) ∧ ∀ i' m H, W i' m H →
      ((Itl K l).stop i' H ∧ Qd H) ∨ ((Itl K l).go i' H ∧ ∃ Nx : Hp → Prop, (∀ H', Nx H' → ∃ m', m' < m ∧ W (i' + 1) m' H') ∧ ∀ x H', (Itl K l).yld i' H x H' → gName i x (wipe σ vs) H' fun σ2 H2 => wipe σ2 vs = wipe σ vs ∧ tt σ2 H2 fun b H3 =>
        if b = true then tVar i σ2 H3 fun y H4 => ∃ acc, H4 D = some (.lst acc) ∧ acc.length < sizeLine ∧ Nx (upd H4 D (.lst (acc ++ [y]))) else Nx H3) := by
  refine lc_list (K := K) (a := l) (xs := ns.map V.int) (g := gName i) (tt := tt) (te := tVar i) (vs := vs) (σ := σ) (Qd := Qd)
    (fun i H3 => Same H1 H3 ∧ H3 D = some (.lst (((ns.take i).filter g).map V.int)))
    ⟨same_upd hD, upd_same⟩ (fun i H3 _ ⟨e, _⟩ => e.seq hl) ?_ ?_
  · rintro j y H3 hi ⟨s3, eD⟩
    obtain ⟨t, ht, rfl⟩ := map_at hi
    have hj : j < ns.length := (List.getElem?_eq_some_iff.mp ht).1
    refine ⟨hw _, htt t H3 _ (List.mem_of_getElem? ht) s3 fun H4 s4 => ?_⟩
    cases q : g t with
    | false =>
      refine iteF ⟨s3.trans s4, ?_⟩
      rw [take_more ht, List.filter_append, filt0 q, List.append_nil]; exact s4 _ _ eD
    | true =>
      refine iteT ⟨_, hv _, _, s4 _ _ eD, ?_, fun b o eb => ?_, ?_⟩
      · rw [List.length_map]
        have := List.length_filter_le g (ns.take j)
        rw [List.length_take] at this
        exact Nat.lt_of_le_of_lt (by omega : _ ≤ 1000) (by decide)
      · rw [upd_ne (ne_of_none eb hD)]; exact s4 _ _ (s3 _ _ eb)
      · rw [upd_same, take_more ht, List.filter_append, filt1 q, List.map_append]; rfl
  · rintro H3 ⟨s3, eD⟩
    rw [List.length_map, List.take_length] at eD
    exact hd H3 s3 eD
/-! ### _can_enter -/
def spCanE (CC : Addr) : Sp := fun vs H Q _ => ∃ (p hp l : Addr) (sp t : Int) (c : Cs) (cm : List Int), vs = [.ref p, .ref l] ∧ CoAt CC H p hp sp t c ∧ H l = some (.lst (cm.map V.int)) ∧ cm.length ≤ 1000 ∧ ∀ H', Same H H' → Q (.bl (canEnter c cm)) H'
theorem any_map (ns : List Int) (g : Int → Bool) : (ns.map g).any id = ns.any g := by rw [List.any_map]; rfl
theorem empty_map (ns : List Int) : (ns.map V.int).isEmpty = ns.isEmpty := by cases ns <;> rfl
theorem scCanE : FnScope ["self", "comers", "person"] ["self", "comers"] (defScope sCanE) := ⟨rfl, rfl, rfl, by decide +kernel, rfl, by decide +kernel, by decide +kernel⟩
theorem ok_cane {f : Addr} {fd : FuncData} (F : Fun K "_can_enter" "Course._can_enter" sCanE f fd) (C' : TxtCo K mg CC CH fHL fdHL) : FnOk P w K mg base CX0 1 f fd ["self", "comers"] (spCanE CC) := by
  refine F.ok scCanE (fun vs H Q E h => ?_) (fun cdv A outer s H vs Q E hr h => ?_)
  · obtain ⟨p, hp, l, sp, t, c, cm, rfl, _⟩ := h
    rfl
  · obtain ⟨p, hp, l, sp, t, c, cm, rfl, ⟨dx, aH, aW, aC, e1, e2, e3, e4⟩, el, hz, k⟩ := h
    refine ⟨_, pss_cons (ps_if (PW.pt (pw_or (pt_truth (pe_fld (pv 0) rfl) (by intro _; rfl)) (pw_or1 (pt_val (pe_fld (pv 0) rfl))))) (pss_one (ps_ret pe_bl)) pss_nil)
      (pss_one (ps_ret (pe_callB (cr_any rfl) (by rfl) C'.any (by decide +kernel) (pa_cons (pe_lc (own := [("person", 2)]) (g := gName 2) (te := tOp (rIn K false) (tVar 2) (tFld K (tVar 0) "carriers")) (by rfl) scCanE.nd (pi_list (pv 1)) (blkOk_by (N := ["self", "comers", "person"]) (sc := defScope sCanE) (by decide +kernel))
        (fun _ _ _ _ _ => pg_name (i := 2) scCanE.nd rfl (Or.inl rfl)) (fun _ _ _ _ _ => pts_nil)
        (fun _ _ _ _ _ => by exact pe_cmpR op_in_seq (pv 2) (pe_fld (pv 0) rfl) (by rfl))) pa_nil)))), ?_⟩
    have lk : ∀ x, ((cFields (.ref hp) (.int sp) (.int t) (.ref aH) (.ref aW) (.ref aC) (.bl c.opn)).lookup x) = ((cFields (.ref hp) (.int sp) (.int t) (.ref aH) (.ref aW) (.ref aC) (.bl c.opn)).lookup x) := fun _ => rfl
    refine ⟨_, rfl, p, CC, dx, _, .ref aH, rfl, e1, C'.cl, C'.nHm, by rfl, _, .inl ⟨_, SqL.of e2, rfl⟩, ?_⟩
    rw [empty_map]
    cases q1 : c.home.isEmpty with
    | false =>
      have := k H (Same.refl H)
      have e : canEnter c cm = true := by unfold canEnter; rw [q1]; rfl
      rw [e] at this
      exact iteT (iteT this)
    | true =>
      refine iteF ⟨_, rfl, p, CC, dx, _, .bl c.opn, rfl, e1, C'.cl, C'.nUn, by rfl, _, rfl, ?_⟩
      cases q2 : c.opn with
      | true =>
        have := k H (Same.refl H)
        have e : canEnter c cm = true := by unfold canEnter; rw [q1, q2]; rfl
        rw [e] at this
        exact iteT this
      | false =>
        have e : canEnter c cm = cm.any fun p => decide (p ∈ c.carr) := by unfold canEnter; rw [q1, q2]; rfl
        rw [e] at k
        refine iteF ⟨_, rfl, l, rfl, ⟨_, SqL.of el⟩, fun D hD => ?_⟩
        refine comp_ints (i := 2) (vs := [2]) (g := fun p => V.bl (decide (p ∈ c.carr))) hD (SqL.of el) hz (fun y H2 Q2 hm s2 hq => ?_) (fun _ => rfl) (fun H2 s2 eD => ?_)
        · refine ⟨_, rfl, _, rfl, p, CC, dx, _, .ref aC, rfl, s2 _ _ e1, C'.cl, C'.nCr, by rfl, aC, _, rfl, .inl (SqL.of (s2 _ _ e4)), rfl, by simp [flatV], ?_⟩
          rw [any_mem]
          exact hq H2 (Same.refl H2)
        · refine ⟨D, cm.map fun p => decide (p ∈ c.carr), rfl, ?_, ?_⟩
          · rw [List.map_map]; exact SqL.of eD
          · rw [any_map]; exact k _ s2
end
end Dk

set_option Elab.async false
set_option linter.all false
set_option maxRecDepth 100000
set_option maxHeartbeats 1000000
namespace Dk
open PySem PySem.Spec PyProof.Rows L2 TL
theorem putF_carr (vh vs vt vm vw vc vu x : V) : putF "carriers" x (cFields vh vs vt vm vw vc vu) = cFields vh vs vt vm vw x vu := by rfl
theorem putF_home (vh vs vt vm vw vc vu x : V) : putF "home" x (cFields vh vs vt vm vw vc vu) = cFields vh vs vt x vw vc vu := by rfl
theorem putF_wait (vh vs vt vm vw vc vu x : V) : putF "waiters" x (cFields vh vs vt vm vw vc vu) = cFields vh vs vt vm x vc vu := by rfl
theorem putF_opn (vh vs vt vm vw vc vu x : V) : putF "unlocked" x (cFields vh vs vt vm vw vc vu) = cFields vh vs vt vm vw vc x := by rfl
theorem putF_tick (vh vs vt vm vw vc vu x : V) : putF "tick" x (cFields vh vs vt vm vw vc vu) = cFields vh vs x vm vw vc vu := by rfl
def spTake (K : PySem.W.Frag) (CC CH : Addr) : Sp := fun vs H Q _ => ∃ (p hp : Addr) (sp t : Int) (c : Cs) (h : Hd) (q : Int), vs = [.ref p, .int q] ∧ CoAt CC H p hp sp t c ∧ HoAt K CH H hp h ∧ hp ≠ p ∧ c.carr.length ≤ 1000 ∧
  ∀ H', Kp p H H' → CoAt CC H' p hp sp t (takeKey h.ks c q).1 → (∀ a, HomeAt H p a → HomeAt H' p a) → Q (.bl (takeKey h.ks c q).2) H'
def spThink (K : PySem.W.Frag) (CC CH : Addr) : Sp := fun vs H Q _ => ∃ (p hp : Addr) (t : Int) (c : Cs) (h : Hd) (q : Int), vs = [.ref p, .int q] ∧ CoAt CC H p hp ((per h.ts : Nat) : Int) t c ∧ HoAt K CH H hp h ∧ 1 ≤ per h.ts ∧ ∀ H', Same H H' → Q (.bl (thinks h t q)) H'
def spClose (K : PySem.W.Frag) (CC CH : Addr) : Sp := fun vs H Q _ => ∃ (p hp : Addr) (sp t : Int) (c : Cs) (h : Hd) (q : Int), vs = [.ref p, .int q] ∧ CoAt CC H p hp sp t c ∧ HoAt K CH H hp h ∧ hp ≠ p ∧ c.carr.length ≤ 1000 ∧
  ∀ (H' : Hp) (e : Addr), Kp p H H' → CoAt CC H' p hp sp t (closeC h.ks c q).1 → (∀ a, HomeAt H p a → HomeAt H' p a) → H' e = some (.tup [.int t, .str (closeC h.ks c q).2.1, (closeC h.ks c q).2.2]) → Q (.ref e) H'
structure TxtTk (K : PySem.W.Frag) (CC fTk : Addr) (fdTk : FuncData) : Prop where
  m : Meth K CC "_take_key" fTk
  F : Fun K "_take_key" "Course._take_key" sTake fTk fdTk
  b : Binds K fdTk ["self", "person"] []
section
variable {P : Program} {w : World} {K : PySem.W.Frag} {mg : Str → Option Value} {base : Heap} {CC CH fHL : Addr} {fdHL : FuncData} {fTk : Addr} {fdTk : FuncData}
theorem scTake : FnScope ["self", "person"] ["self", "person"] (defScope sTake) := ⟨rfl, rfl, rfl, by decide +kernel, rfl, by decide +kernel, by decide +kernel⟩
theorem ok_take {f : Addr} {fd : FuncData} (F : Fun K "_take_key" "Course._take_key" sTake f fd) (C' : TxtCo K mg CC CH fHL fdHL) (T : TxtA mg) : FnOk P w K mg base CX0 1 f fd ["self", "person"] (spTake K CC CH) := by
  refine F.ok scTake (fun vs H Q E h => ?_) (fun cdv A outer s H vs Q E hr h => ?_)
  · obtain ⟨p, hp, sp, t, c, h, q, rfl, _⟩ := h
    rfl
  · obtain ⟨p, hp, sp, t, c, h, q, rfl, ⟨dx, aH, aW, aC, e1, e2, e3, e4⟩, ⟨⟨d, bT, bC, bR, xs, g1, g2, g3, g4, g5⟩⟩, npq, hz, k⟩ := h
    refine ⟨_, pss_cons (ps_if (pt_cmpR op_eq (pe_callB call_len_seq (by rfl) T.len PySem.boot_len (pa_cons (pe_fld (pv 0) rfl) pa_nil)) (pe_fld (pe_fld (pv 0) rfl) rfl) (nomark _)) (pss_one (ps_ret pe_bl)) pss_nil)
      (pss_cons (ps_fld (pv 0) (pe_callB cr_sortedI (by rfl) C'.sorted (by decide +kernel) (pa_cons (pe_lst (StX.pa_star (pe_fld (pv 0) rfl) (pa_cons (pv 1) pa_nil))) pa_nil)) rfl) (pss_one (ps_ret pe_bl))), ?_⟩
    refine ⟨_, rfl, p, CC, dx, _, .ref aC, rfl, e1, C'.cl, C'.nCr, by rfl, aC, _, rfl, .inl (SqL.of e4), _, rfl, p, CC, dx, _, .ref hp, rfl, e1, C'.cl, C'.nHo, by rfl, hp, CH, d, _, .int h.ks, rfl, g1, C'.clH, C'.nK, hf_keys _ _ _ _, rfl, _, rfl, ?_⟩
    rw [List.length_map]
    by_cases cc : (c.carr.length : Int) = h.ks
    · rw [show decide (V.int ((c.carr.length : Nat) : Int) = V.int h.ks) = true from decide_eq_true (by rw [cc])]
      have e : takeKey h.ks c q = (c, false) := by unfold takeKey; rw [if_pos cc]
      have := k H Kp.refl (by rw [e]; exact ⟨dx, aH, aW, aC, e1, e2, e3, e4⟩) (fun _ z => z)
      rw [e] at this
      exact iteT this
    · rw [show decide (V.int ((c.carr.length : Nat) : Int) = V.int h.ks) = false from decide_eq_false fun z => cc (V.int.inj z)]
      have e : takeKey h.ks c q = ({ c with carr := srt (c.carr ++ [q]) }, true) := by unfold takeKey; rw [if_neg cc]
      refine iteF ⟨_, rfl, p, CC, dx, _, .ref aC, rfl, e1, C'.cl, C'.nCr, by rfl, aC, _, rfl, .inr (SqL.of e4), _, rfl, ?_, fun l hl => ?_⟩
      · show (c.carr.map V.int ++ [V.int q]).length ≤ sizeLine
        rw [List.length_append, List.length_map]; exact Nat.le_trans (by show _ + 1 ≤ 1001; omega) (by decide)
      have s1 := same_upd (o := .lst (c.carr.map V.int ++ [V.int q])) hl
      refine ⟨l, c.carr ++ [q], rfl, SqL.of (by rw [upd_same, List.map_append]; rfl), fun ns' m hp' hs' hm => ?_⟩
      rw [srt_uniq hp' hs']
      have s2 := same_upd (o := .lst ((srt (c.carr ++ [q])).map V.int)) hm
      have s12 := s1.trans s2
      have em : (upd (upd H l (.lst (c.carr.map V.int ++ [V.int q]))) m (.lst ((srt (c.carr ++ [q])).map V.int))) m = some (.lst ((srt (c.carr ++ [q])).map V.int)) := upd_same
      change (upd H l (.lst (c.carr.map V.int ++ [V.int q]))) m = none at hm
      generalize upd (upd H l (.lst (c.carr.map V.int ++ [V.int q]))) m (.lst ((srt (c.carr ++ [q])).map V.int)) = H2 at s12 em s2
      refine ⟨_, rfl, p, CC, dx, _, rfl, s12 _ _ e1, C'.cl, C'.nCr, by show 7 < 1000; decide, ?_⟩
      rw [putF_carr]
      have kk : Kp p H (upd H2 p (.ins CC dx (cFields (.ref hp) (.int sp) (.int t) (.ref aH) (.ref aW) (.ref m) (.bl c.opn)))) := (sKp s12).trans kp_upd
      have np : ∀ a xs, H a = some (.lst xs) → a ≠ p := fun a xs ha z => by rw [z, e1] at ha; cases ha
      have nm : m ≠ p := fun z => by
        have := s12 _ _ e1
        rw [z] at em
        rw [em] at this; cases this
      have := k _ kk (by
        rw [e]
        exact ⟨dx, aH, aW, m, upd_same, kk _ _ (np _ _ e2) e2, kk _ _ (np _ _ e3) e3, by rw [upd_ne nm]; exact em⟩) (fun a z => z.put e1 upd_same (by rfl))
      rw [e] at this
      exact this
theorem scThink : FnScope ["self", "person"] ["self", "person"] (defScope sThinks) := ⟨rfl, rfl, rfl, by decide +kernel, rfl, by decide +kernel, by decide +kernel⟩
theorem ok_think {f : Addr} {fd : FuncData} (F : Fun K "_thinks_of_key" "Course._thinks_of_key" sThinks f fd) (C' : TxtCo K mg CC CH fHL fdHL) : FnOk P w K mg base CX0 1 f fd ["self", "person"] (spThink K CC CH) := by
  refine F.ok scThink (fun vs H Q E h => ?_) (fun cdv A outer s H vs Q E hr h => ?_)
  · obtain ⟨p, hp, t, c, h, q, rfl, _⟩ := h
    rfl
  · obtain ⟨p, hp, t, c, h, q, rfl, ⟨dx, aH, aW, aC, e1, e2, e3, e4⟩, ⟨⟨d, bT, bC, bR, xs, g1, g2, g3, g4, g5⟩⟩, h1, k⟩ := h
    have hu : (A.deeper (envOfC (Str.ofString "Course._thinks_of_key") (defScope sThinks) s.heap.objs.size f cdv)).units + 65 < cLine := by have := hr.un; omega
    refine ⟨_, pss_cons (ps_if (pt_cmpR op_in_seq (pv 1) (pe_fld (pe_fld (pv 0) rfl) rfl) (by rfl)) (pss_one (ps_ret pe_bl)) pss_nil)
      (pss_one (ps_ret (pe_cmpR (op_inDT hu) (pe_tup (pa_cons (pe_op op_mod (pe_fld (pv 0) rfl) (pe_fld (pv 0) rfl)) (pa_cons (pv 1) pa_nil))) (pe_fld (pe_fld (pv 0) rfl) rfl) (by rfl)))), ?_⟩
    refine ⟨_, rfl, _, rfl, p, CC, dx, _, .ref hp, rfl, e1, C'.cl, C'.nHo, by rfl, hp, CH, d, _, .ref bC, rfl, g1, C'.clH, C'.nC, hf_careful _ _ _ _, bC, _, rfl, .inr g3, rfl, by simp [flatV], _, rfl, ?_⟩
    show (if inV (V.int q) (h.cs.map V.int) = true then _ else _)
    rw [any_mem]
    by_cases cc : q ∈ h.cs
    · rw [decide_eq_true cc]
      have := k H (Same.refl H)
      have e : thinks h t q = true := by unfold thinks; rw [decide_eq_true cc]; rfl
      rw [e] at this
      exact iteT this
    · rw [decide_eq_false cc]
      have e : thinks h t q = decide ((t % ((per h.ts : Nat) : Int), q) ∈ h.rs) := by unfold thinks; rw [decide_eq_false cc]; rfl
      rw [e] at k
      refine iteF ⟨_, rfl, p, CC, dx, _, .int t, rfl, e1, C'.cl, C'.nTk, by rfl, _, rfl, p, CC, dx, _, .int ((per h.ts : Nat) : Int), rfl, e1, C'.cl, C'.nSp, by rfl, _, _, rfl, rfl, by show (0 : Int) < _; omega, _, rfl, by show 2 ≤ sizeLine; decide, fun u hu' => ?_⟩
      have s1 := same_upd (o := .tup [.int (t % ((per h.ts : Nat) : Int)), .int q]) hu'
      refine ⟨_, rfl, p, CC, dx, _, .ref hp, rfl, s1 _ _ e1, C'.cl, C'.nHo, by rfl, hp, CH, d, _, .ref bR, rfl, s1 _ _ g1, C'.clH, C'.nR, hf_rem _ _ _ _, ?_⟩
      refine ⟨prR (t % ((per h.ts : Nat) : Int), q), h.rs.map prR, .tup (SqT.of upd_same) (.cons (.int _) (.cons (.int _) .nil)), .tup (sSqT s1 g4) (dpAll_prs (g5.mono fun t' ys z => s1 _ _ z)), prR_shaped _, prRs_shaped _, ?_⟩
      rw [any_eqv]
      exact k _ s1
theorem scClose : FnScope ["self", "person"] ["self", "person"] (defScope sClose) := ⟨rfl, rfl, rfl, by decide +kernel, rfl, by decide +kernel, by decide +kernel⟩
theorem ok_close {f : Addr} {fd : FuncData} (F : Fun K "_close" "Course._close" sClose f fd) (C' : TxtCo K mg CC CH fHL fdHL) (T : TxtA mg) (TK : TxtTk K CC fTk fdTk) : FnOk P w K mg base CX0 2 f fd ["self", "person"] (spClose K CC CH) := by
  have GT : FnOk P w K mg base CX0 1 fTk fdTk ["self", "person"] (spTake K CC CH) := ok_take TK.F C' T
  refine F.ok scClose (fun vs H Q E h => ?_) (fun cdv A outer s H vs Q E hr h => ?_)
  · obtain ⟨p, hp, sp, t, c, h, q, rfl, _⟩ := h
    rfl
  · obtain ⟨p, hp, sp, t, c, h, q, rfl, hc, hh, npq, hz, k⟩ := h
    refine ⟨_, pss_cons (ps_if (pt_val (pe_meth (pv 0) C'.cl TK.m GT hr TK.b .nil pass0 (pa_cons (pv 1) pa_nil))) (pss_one (ps_ret (pe_tup (pa_cons (pe_fld (pv 0) rfl) (pa_cons pe_str (pa_cons (pv 1) pa_nil)))))) pss_nil)
      (pss_cons (ps_fld (pv 0) pe_bl rfl) (pss_one (ps_ret (pe_tup (pa_cons (pe_fld (pv 0) rfl) (pa_cons pe_str (pa_cons pe_non pa_nil))))))), ?_⟩
    obtain ⟨dx, aH, aW, aC, e1, e2, e3, e4⟩ := id hc
    refine ⟨_, rfl, p, dx, _, rfl, e1, by rfl, _, rfl, p, hp, sp, t, c, h, q, rfl, hc, hh, npq, hz, fun H2 k2 c2 m2 => ⟨_, rfl, ?_⟩⟩
    obtain ⟨dx2, bH, bW, bC, f1, f2, f3, f4⟩ := id c2
    cases hb : (takeKey h.ks c q).2 with
    | true =>
      have e : closeC h.ks c q = ((takeKey h.ks c q).1, (wTake, .int q)) := by unfold closeC; rw [if_pos hb]
      refine iteT ⟨_, rfl, p, CC, dx2, _, .int t, rfl, f1, C'.cl, C'.nTk, by rfl, _, rfl, by show 3 ≤ sizeLine; decide, fun u hu => ?_⟩
      have s3 := same_upd (o := .tup [.int t, .str (Str.ofString "take"), .int q]) hu
      exact k _ u (k2.trans (sKp s3)) (by rw [e]; exact c2.mono s3) (fun a z => (m2 a z).mono s3) (by rw [e]; exact upd_same)
    | false =>
      have e : closeC h.ks c q = ({ c with opn := true }, (wOpen, .non)) := by unfold closeC; rw [if_neg (by rw [hb]; decide)]
      have e0 : (takeKey h.ks c q).1 = c := by
        unfold takeKey at hb ⊢
        by_cases cc : (c.carr.length : Int) = h.ks
        · rw [if_pos cc]
        · rw [if_neg cc] at hb; cases hb
      rw [e0] at f1 f2 f3 f4
      refine iteF ⟨_, rfl, p, CC, dx2, _, rfl, f1, C'.cl, C'.nUn, by show 7 < 1000; decide, ?_⟩
      rw [putF_opn]
      have kk : Kp p H2 (upd H2 p (.ins CC dx2 (cFields (.ref hp) (.int sp) (.int t) (.ref bH) (.ref bW) (.ref bC) (.bl true)))) := kp_upd
      have np : ∀ a xs, H2 a = some (.lst xs) → a ≠ p := fun a xs ha z => by rw [z, f1] at ha; cases ha
      refine ⟨_, rfl, p, CC, dx2, _, .int t, rfl, upd_same, C'.cl, C'.nTk, by rfl, by show 3 ≤ sizeLine; decide, fun u hu => ?_⟩
      have c3 : CoAt CC (upd H2 p (.ins CC dx2 (cFields (.ref hp) (.int sp) (.int t) (.ref bH) (.ref bW) (.ref bC) (.bl true)))) p hp sp t { c with opn := true } :=
        ⟨dx2, bH, bW, bC, upd_same, kk _ _ (np _ _ f2) f2, kk _ _ (np _ _ f3) f3, kk _ _ (np _ _ f4) f4⟩
      have s3 := same_upd (o := .tup [.int t, .str (Str.ofString "open"), .non]) hu
      exact k _ u ((k2.trans kk).trans (sKp s3)) (by rw [e]; exact c3.mono s3) (fun a z => ((m2 a z).put f1 upd_same (by rfl)).mono s3) (by rw [e]; exact upd_same)
end
end Dk

set_option Elab.async false
set_option linter.all false
set_option maxRecDepth 100000
set_option maxHeartbeats 2000000
namespace Dk
open PySem PySem.Spec PyProof.Rows L2 TL
section
variable {X : Cx} {K : PySem.W.Frag}
theorem pe_fldK {e : Expr} {f : Str} {pos : Pos} {ta : TE} (h : X.K = K) (he : PE X e ta) (hb : attributeBase e f X.env (eval e X.env) = eval e X.env) : PE X (.Attribute e f pos) (tFld K ta f) := by
  subst h; exact pe_fld he hb
theorem op_in_seqK (h : X.K = K) : OpR X (compareOp .In) (rIn K false) := by subst h; exact op_in_seq
theorem op_notIn_seqK (h : X.K = K) : OpR X (compareOp .NotIn) (rIn K true) := by subst h; exact op_notIn_seq
end
/-- [(t, word, ..) for p in l] -/
theorem comp_evs {K : PySem.W.Frag} {l : Addr} {ns : List Int} {H1 : Hp} {D : Addr} {t : Int} {g : Int → Ev} {σ : L2.St} {i : Nat} {vs : List Nat} {te : TE} {Qd : Hp → Prop} (hD : H1 D = none) (hl : SqL K H1 l (ns.map V.int)) (hz : ns.length ≤ 1000)
    (hte : ∀ (p : Int) (H2 : Hp) (Q : VK), p ∈ ns → Same H1 H2 → (∀ H3 a, Same H2 H3 → H3 a = some (.tup [.int t, .str (g p).1, (g p).2]) → Q (.ref a) H3) → te ((wipe σ vs).set i (some (.int p))) H2 Q) (hw : ∀ x : V, wipe ((wipe σ vs).set i (some x)) vs = wipe σ vs)
    (hd : ∀ H2, Same H1 H2 → EvAt H2 D t (ns.map g) → Qd H2) :
    ∃ W : Nat → Nat → Hp → Prop, (∃ m, W 0 m (upd H1 D (.lst []))) ∧ ∀ i' m H, W i' m H →
      ((Itl K l).stop i' H ∧ Qd H) ∨ ((Itl K l).go i' H ∧ ∃ Nx : Hp → Prop, (∀ H', Nx H' → ∃ m', m' < m ∧ W (i' + 1) m' H') ∧ ∀ x H', (Itl K l).yld i' H x H' → gName i x (wipe σ vs) H' fun σ2 H2 => wipe σ2 vs = wipe σ vs ∧ tYes σ2 H2 fun b H3 =>
        if b = true then te σ2 H3 fun y H4 => ∃ acc, H4 D = some (.lst acc) ∧ acc.length < sizeLine ∧ Nx (upd H4 D (.lst (acc ++ [y]))) else Nx H3) := by
  refine lc_list (K := K) (a := l) (xs := ns.map V.int) (g := gName i) (tt := tYes) (te := te) (vs := vs) (σ := σ) (Qd := Qd)
    (fun i H3 => Same H1 H3 ∧ ∃ xs, H3 D = some (.lst xs) ∧ Evs H3 t xs ((ns.take i).map g))
    ⟨same_upd hD, [], upd_same, .nil⟩ (fun i H3 _ ⟨e, _⟩ => e.seq hl) ?_ ?_
  · rintro j y H3 hi ⟨s3, xs, eD, hE⟩
    obtain ⟨q, ht, rfl⟩ := map_at hi
    have hj : j < ns.length := (List.getElem?_eq_some_iff.mp ht).1
    refine ⟨hw _, hte q H3 _ (List.mem_of_getElem? ht) s3 fun H4 a s4 ea => ⟨_, s4 _ _ eD, ?_, fun b o eb => ?_, xs ++ [.ref a], upd_same, ?_⟩⟩
    · rw [hE.len, List.length_map, List.length_take]
      exact Nat.lt_of_le_of_lt (Nat.le_trans (Nat.min_le_left _ _) (by omega : j ≤ 1000)) (by decide)
    · rw [upd_ne (ne_of_none eb hD)]; exact s4 _ _ (s3 _ _ eb)
    · have tK : ∀ t' ys, H4 t' = some (.tup ys) → (upd H4 D (.lst (xs ++ [V.ref a]))) t' = some (.tup ys) := fun t' ys h => by
        rw [upd_ne (fun e => by rw [e, s4 _ _ eD] at h; cases h)]; exact h
      rw [take_more ht, List.map_append]
      exact (hE.mono fun t' ys h => tK _ _ (s4 _ _ h)).app (.cons ⟨a, rfl, tK _ _ ea⟩ .nil)
  · rintro H3 ⟨s3, xs, eD, hE⟩
    rw [List.length_map, List.take_length] at hE
    exact hd H3 s3 ⟨xs, eD, hE⟩
theorem wants_at {ws : List Bool} {i : Nat} {b : Bool} (h : ws[i]? = some b) : wants ws (i : Int) = b := by
  unfold wants
  rw [Int.toNat_natCast, List.getD_eq_getElem?_getD, h]; rfl
def spArrive (CC : Addr) : Sp := fun vs H Q _ => ∃ (p hp l : Addr) (sp t : Int) (c : Cs) (ws : List Bool), vs = [.ref p, .ref l] ∧ CoAt CC H p hp sp t c ∧ H l = some (.lst (ws.map V.bl)) ∧ ws.length ≤ 100 ∧ c.home.length ≤ 100 ∧ c.carr.length ≤ 100 ∧
  ∀ (H' : Hp) (e : Addr), Kp p H H' → CoAt CC H' p hp sp t (arrive ws c).1 → EvAt H' e t (arrive ws c).2 → Q (.ref e) H'
structure TxtCE (K : PySem.W.Frag) (CC fCE : Addr) (fdCE : FuncData) : Prop where
  m : Meth K CC "_can_enter" fCE
  F : Fun K "_can_enter" "Course._can_enter" sCanE fCE fdCE
  b : Binds K fdCE ["self", "comers"] []
abbrev nArr : List Str := ["self", "wishes", "comers", "person", "wish"]
section
variable {P : Program} {w : World} {K : PySem.W.Frag} {mg : Str → Option Value} {base : Heap} {CC CH fHL : Addr} {fdHL : FuncData} {fCE : Addr} {fdCE : FuncData}
theorem scArr : FnScope nArr ["self", "wishes"] (defScope sArrive) := ⟨rfl, rfl, rfl, by decide +kernel, rfl, by decide +kernel, by decide +kernel⟩
theorem ok_arrive {f : Addr} {fd : FuncData} (F : Fun K "_arrive" "Course._arrive" sArrive f fd) (C' : TxtCo K mg CC CH fHL fdHL) (CE' : TxtCE K CC fCE fdCE) : FnOk P w K mg base CX0 2 f fd ["self", "wishes"] (spArrive CC) := by
  have GC : FnOk P w K mg base CX0 1 fCE fdCE ["self", "comers"] (spCanE CC) := ok_cane CE'.F C'
  refine F.ok scArr (fun vs H Q E h => ?_) (fun cdv A outer s H vs Q E hr h => ?_)
  · obtain ⟨p, hp, l, sp, t, c, ws, rfl, _⟩ := h
    rfl
  · obtain ⟨p, hp, l, sp, t, c, ws, rfl, ⟨dx, aH, aW, aC, e1, e2, e3, e4⟩, el, hzw, hzh, hzc, k⟩ := h
    refine ⟨_, pss_cons (ps_set (i := 2) scArr.nd rfl (.inr rfl) (pe_lc (own := [("person", 3), ("wish", 4)]) (g := gTup K 2 (gCons (gName 3) (gCons (gName 4) gNil))) (by rfl) scArr.nd (pi_enum (by rfl) C'.enumerate (pa_cons (pv 1) pa_nil)) (blkOk_by (N := nArr) (sc := defScope sArrive) (by decide +kernel))
        (fun _ _ _ _ _ => by exact pg_tup rfl (pgs_cons (pg_name (i := 3) scArr.nd rfl (Or.inl rfl)) (pgs_cons (pg_name (i := 4) scArr.nd rfl (Or.inl rfl)) pgs_nil)))
        (fun _ _ _ _ _ => pts_one (PW.pt (pw_and (pt_val (pv 4)) (pw_and1 (pt_cmpR (op_notIn_seqK (K := K) rfl) (pv 3) (pe_fldK (K := K) rfl (pv 0) rfl) (by rfl)))))) (fun _ _ _ _ _ => pv 3)))
      (pss_cons (ps_fld (pv 0) (pe_lst pa_nil) rfl)
      (pss_cons (ps_if (pt_not (pt_truth (pv 2) (by intro _; rfl))) (pss_one (ps_ret (pe_lst pa_nil))) pss_nil)
      (pss_cons (ps_if (pt_not (pt_val (pe_meth (pv 0) C'.cl CE'.m GC hr CE'.b .nil pass0 (pa_cons (pv 2) pa_nil))))
        (pss_cons (ps_fld (pv 0) (pv 2) rfl) (pss_one (ps_ret (pe_lc (own := [("person", 3)]) (g := gName 3) (by rfl) scArr.nd (pi_list (pv 2)) (blkOk_by (N := nArr) (sc := defScope sArrive) (by decide +kernel))
          (fun _ _ _ _ _ => pg_name (i := 3) scArr.nd rfl (Or.inl rfl)) (fun _ _ _ _ _ => pts_nil) (fun _ _ _ _ _ => pe_tup (pa_cons (pe_fldK (K := K) rfl (pv 0) rfl) (pa_cons pe_str (pa_cons (pv 3) pa_nil)))))))) pss_nil)
      (pss_cons (ps_fld (pv 0) (pe_callB cr_sortedI (by rfl) C'.sorted (by decide +kernel) (pa_cons (pe_op op_cat (pe_fld (pv 0) rfl) (pv 2)) pa_nil)) rfl)
      (pss_cons (ps_fld (pv 0) (pe_lc (own := [("person", 3)]) (g := gName 3) (by rfl) scArr.nd (pi_list (pe_fld (pv 0) rfl)) (blkOk_by (N := nArr) (sc := defScope sArrive) (by decide +kernel))
          (fun _ _ _ _ _ => pg_name (i := 3) scArr.nd rfl (Or.inl rfl)) (fun _ _ _ _ _ => pts_one (pt_cmpR (op_notIn_seqK (K := K) rfl) (pv 3) (pv 2) (by rfl))) (fun _ _ _ _ _ => pv 3)) rfl)
      (pss_cons (ps_fld (pv 0) pe_bl rfl)
      (pss_one (ps_ret (pe_lc (own := [("person", 3)]) (g := gName 3) (by rfl) scArr.nd (pi_list (pv 2)) (blkOk_by (N := nArr) (sc := defScope sArrive) (by decide +kernel))
          (fun _ _ _ _ _ => pg_name (i := 3) scArr.nd rfl (Or.inl rfl)) (fun _ _ _ _ _ => pts_nil) (fun _ _ _ _ _ => pe_tup (pa_cons (pe_fldK (K := K) rfl (pv 0) rfl) (pa_cons pe_str (pa_cons (pv 3) pa_nil))))))))))))), ?_⟩
    -- who comes
    refine ⟨_, rfl, l, _, rfl, SqL.of el, fun D hD => lc_it walk_enum
      (fun i H3 => Same H H3 ∧ H3 D = some (.lst (((rg i).filter fun q => wants ws q && !decide (q ∈ c.home)).map V.int)))
      ⟨same_upd hD, upd_same⟩ (fun i H3 _ ⟨e, _⟩ => e.seq (SqL.of el)) ?_ ?_⟩
    · rintro i y H3 H4 hi ⟨s3, eD⟩ ⟨Tp, y1, y2, rfl, hTp, rfl, q1, q2⟩
      cases q1
      obtain ⟨b, eb, rfl⟩ := map_at q2
      rw [List.length_map] at hi
      have sT := same_upd (o := .tup [.int (i : Nat), .bl b]) hTp
      refine ⟨Tp, _, rfl, SqT.of upd_same, rfl, _, _, rfl, _, _, rfl, rfl, rfl, ?_⟩
      have s4 := s3.trans sT
      have eD2 := sT _ _ eD
      generalize upd H3 Tp (.tup [.int (i : Nat), .bl b]) = H4 at s4 eD2
      have hw := wants_at eb
      have no : (wants ws (i : Int) && !decide ((i : Int) ∈ c.home)) = false → Same H H4 ∧ H4 D = some (.lst (((rg (i + 1)).filter fun q => wants ws q && !decide (q ∈ c.home)).map V.int)) := fun hn => by
        rw [rg_succ, List.filter_append, filt0 (p := fun q => wants ws q && !decide (q ∈ c.home)) hn, List.append_nil]
        exact ⟨s4, eD2⟩
      refine ⟨_, rfl, _, rfl, ?_⟩
      cases hb : b with
      | false => exact iteF (iteF (no (by rw [hw, hb]; rfl)))
      | true =>
        refine iteT ⟨_, rfl, _, rfl, p, CC, dx, _, .ref aH, rfl, s4 _ _ e1, C'.cl, C'.nHm, by rfl, aH, _, rfl, .inl (SqL.of (s4 _ _ e2)), rfl, by simp [flatV], _, rfl, ?_⟩
        show (if (!inV (V.int (i : Nat)) (c.home.map V.int)) = true then _ else _)
        rw [any_mem]
        by_cases hm : (i : Int) ∈ c.home
        · rw [decide_eq_true hm]
          exact iteF (no (by rw [hw, hb, decide_eq_true hm]; rfl))
        · rw [decide_eq_false hm]
          refine iteT ⟨_, rfl, _, eD2, ?_, fun b' o eb' => ?_, ?_⟩
          · rw [List.length_map]
            have := List.length_filter_le (fun q => wants ws q && !decide (q ∈ c.home)) (rg i)
            rw [rg_len] at this
            exact Nat.lt_of_le_of_lt (by omega : _ ≤ 100) (by decide)
          · rw [upd_ne (ne_of_none eb' hD)]; exact s4 _ _ eb'
          · rw [upd_same, rg_succ, List.filter_append, filt1 (p := fun q => wants ws q && !decide (q ∈ c.home)) (by show (wants ws (i : Int) && !decide ((i : Int) ∈ c.home)) = true; rw [hw, hb, decide_eq_false hm]; rfl), List.map_append]; rfl
    rintro H1 ⟨s1, eD⟩
    rw [List.length_map] at eD
    have ecm : (rg ws.length).filter (fun q => wants ws q && !decide (q ∈ c.home)) = comersOf ws c.home := rfl
    rw [ecm] at eD
    have hcz : (comersOf ws c.home).length ≤ 100 := by
      have := List.length_filter_le (fun q => wants ws q && !decide (q ∈ c.home)) (rg ws.length)
      rw [rg_len, ecm] at this
      omega
    have nDp : D ≠ p := (ne_of_none e1 hD).symm
    have earr : arrive ws c = (if (comersOf ws c.home).isEmpty = true then ({ c with wait := [] }, []) else if canEnter c (comersOf ws c.home) = true then (⟨srt (c.home ++ comersOf ws c.home), [], c.carr.filter fun p => !decide (p ∈ comersOf ws c.home), false⟩, (comersOf ws c.home).map fun p => (wEnter, .int p)) else ({ c with wait := comersOf ws c.home }, (comersOf ws c.home).map fun p => (wWait, .int p))) := rfl
    generalize comersOf ws c.home = cm at eD hcz earr
    -- nobody waits yet
    refine ⟨Nat.zero_le _, fun l0 hl0 => ⟨_, rfl, p, CC, dx, _, rfl, same_upd hl0 _ _ (s1 _ _ e1), C'.cl, C'.nWt, by show 7 < 1000; decide, ?_⟩⟩
    rw [putF_wait]
    have s2 := s1.trans (same_upd (o := .lst []) hl0)
    have np : ∀ a xs, H a = some (.lst xs) → a ≠ p := fun a xs ha z => by rw [z, e1] at ha; cases ha
    have nl0 : l0 ≠ p := (ne_of_none (s1 _ _ e1) hl0).symm
    have k2 : Kp p H (upd (upd H1 l0 (.lst [])) p (.ins CC dx (cFields (.ref hp) (.int sp) (.int t) (.ref aH) (.ref l0) (.ref aC) (.bl c.opn)))) := (sKp s2).trans kp_upd
    have f1 : (upd (upd H1 l0 (.lst [])) p (.ins CC dx (cFields (.ref hp) (.int sp) (.int t) (.ref aH) (.ref l0) (.ref aC) (.bl c.opn)))) p = some (.ins CC dx (cFields (.ref hp) (.int sp) (.int t) (.ref aH) (.ref l0) (.ref aC) (.bl c.opn))) := upd_same
    have f2 := k2 _ _ (np _ _ e2) e2
    have f4 := k2 _ _ (np _ _ e4) e4
    have f3 : (upd (upd H1 l0 (.lst [])) p (.ins CC dx (cFields (.ref hp) (.int sp) (.int t) (.ref aH) (.ref l0) (.ref aC) (.bl c.opn)))) l0 = some (.lst []) := by rw [upd_ne nl0]; exact upd_same
    have fD : (upd (upd H1 l0 (.lst [])) p (.ins CC dx (cFields (.ref hp) (.int sp) (.int t) (.ref aH) (.ref l0) (.ref aC) (.bl c.opn)))) D = some (.lst (cm.map V.int)) := by rw [upd_ne nDp]; exact same_upd hl0 _ _ eD
    generalize upd (upd H1 l0 (.lst [])) p (.ins CC dx (cFields (.ref hp) (.int sp) (.int t) (.ref aH) (.ref l0) (.ref aC) (.bl c.opn))) = H2 at k2 f1 f2 f3 f4 fD
    have co2 : CoAt CC H2 p hp sp t { c with wait := [] } := ⟨dx, aH, l0, aC, f1, f2, f3, f4⟩
    clear hl0 hD eD s1 s2
    refine ⟨_, rfl, _, .inl ⟨_, SqL.of fD, rfl⟩, ?_⟩
    rw [empty_map]
    cases hem : cm.isEmpty with
    | true =>
      rw [if_pos hem] at earr
      refine iteT ⟨Nat.zero_le _, fun e he => ?_⟩
      have s3 := same_upd (o := .lst []) he
      exact k _ e (k2.trans (sKp s3)) (by rw [earr]; exact co2.mono s3) (by rw [earr]; exact ⟨[], upd_same, .nil⟩)
    | false =>
      rw [if_neg (by rw [hem]; decide)] at earr
      refine iteF ⟨_, rfl, p, dx, _, rfl, f1, by rfl, _, rfl, p, hp, D, sp, t, { c with wait := [] }, cm, rfl, co2, fD, by omega, fun H3 s3 => ⟨_, rfl, ?_⟩⟩
      have ece : canEnter { c with wait := [] } cm = canEnter c cm := rfl
      rw [ece]
      have k3 := k2.trans (sKp s3)
      have g1 := s3 _ _ f1
      have g2 := s3 _ _ f2
      have g3 := s3 _ _ f3
      have g4 := s3 _ _ f4
      have gD := s3 _ _ fD
      clear s3 co2 f1 f2 f3 f4 fD k2
      have npl : ∀ a xs, H3 a = some (.lst xs) → a ≠ p := fun a xs ha z => by rw [z, g1] at ha; cases ha
      cases hce : canEnter c cm with
      | false =>
        rw [if_neg (by rw [hce]; decide)] at earr
        refine iteT ⟨_, rfl, _, rfl, p, CC, dx, _, rfl, g1, C'.cl, C'.nWt, by show 7 < 1000; decide, ?_⟩
        rw [putF_wait]
        have kk : Kp p H3 (upd H3 p (.ins CC dx (cFields (.ref hp) (.int sp) (.int t) (.ref aH) (.ref D) (.ref aC) (.bl c.opn)))) := kp_upd
        have h1 : (upd H3 p (.ins CC dx (cFields (.ref hp) (.int sp) (.int t) (.ref aH) (.ref D) (.ref aC) (.bl c.opn)))) p = some (.ins CC dx (cFields (.ref hp) (.int sp) (.int t) (.ref aH) (.ref D) (.ref aC) (.bl c.opn))) := upd_same
        have hD := kk _ _ (npl _ _ gD) gD
        have co4 : CoAt CC (upd H3 p (.ins CC dx (cFields (.ref hp) (.int sp) (.int t) (.ref aH) (.ref D) (.ref aC) (.bl c.opn)))) p hp sp t { c with wait := cm } := ⟨dx, aH, D, aC, upd_same, kk _ _ (npl _ _ g2) g2, hD, kk _ _ (npl _ _ g4) g4⟩
        have k4 := k3.trans kk
        generalize upd H3 p (.ins CC dx (cFields (.ref hp) (.int sp) (.int t) (.ref aH) (.ref D) (.ref aC) (.bl c.opn))) = H4 at k4 h1 hD co4
        refine ⟨_, rfl, D, rfl, ⟨_, SqL.of hD⟩, fun B hB => ?_⟩
        refine comp_evs (i := 3) (vs := [3]) (t := t) (g := fun q => (wWait, .int q)) hB (SqL.of hD) (by omega) (fun q H5 Q5 hm s5 hq => ?_) (fun _ => rfl) (fun H5 s5 hE => ?_)
        · refine ⟨_, rfl, p, CC, dx, _, .int t, rfl, s5 _ _ h1, C'.cl, C'.nTk, by rfl, _, rfl, by show 3 ≤ sizeLine; decide, fun u hu => ?_⟩
          exact hq _ u (same_upd hu) upd_same
        · exact k _ B (k4.trans (sKp s5)) (by rw [earr]; exact co4.mono s5) (by rw [earr]; exact hE)
      | true =>
        rw [if_pos hce] at earr
        refine iteF ⟨_, rfl, p, CC, dx, _, .ref aH, rfl, g1, C'.cl, C'.nHm, by rfl, _, rfl, aH, D, _, _, rfl, rfl, g2, gD, ?_, fun m hm => ?_⟩
        · rw [List.length_map, List.length_map]; exact Nat.le_trans (by omega : _ ≤ 200) (by decide)
        have s4 := same_upd (o := .lst (c.home.map V.int ++ cm.map V.int)) hm
        refine ⟨m, c.home ++ cm, rfl, SqL.of (by rw [upd_same, List.map_append]), fun ns' m2 hp' hs' hm2 => ?_⟩
        rw [srt_uniq hp' hs']
        have s5 := s4.trans (same_upd (o := .lst ((srt (c.home ++ cm)).map V.int)) hm2)
        have em2 : (upd (upd H3 m (.lst (c.home.map V.int ++ cm.map V.int))) m2 (.lst ((srt (c.home ++ cm)).map V.int))) m2 = some (.lst ((srt (c.home ++ cm)).map V.int)) := upd_same
        have nm2 : m2 ≠ p := (ne_of_none (s4 _ _ g1) hm2).symm
        generalize upd (upd H3 m (.lst (c.home.map V.int ++ cm.map V.int))) m2 (.lst ((srt (c.home ++ cm)).map V.int)) = H4 at s5 em2
        refine ⟨_, rfl, p, CC, dx, _, rfl, s5 _ _ g1, C'.cl, C'.nHm, by show 7 < 1000; decide, ?_⟩
        rw [putF_home]
        have k5 : Kp p H (upd H4 p (.ins CC dx (cFields (.ref hp) (.int sp) (.int t) (.ref m2) (.ref l0) (.ref aC) (.bl c.opn)))) := (k3.trans (sKp s5)).trans kp_upd
        have h1 : (upd H4 p (.ins CC dx (cFields (.ref hp) (.int sp) (.int t) (.ref m2) (.ref l0) (.ref aC) (.bl c.opn)))) p = some (.ins CC dx (cFields (.ref hp) (.int sp) (.int t) (.ref m2) (.ref l0) (.ref aC) (.bl c.opn))) := upd_same
        have h2 : (upd H4 p (.ins CC dx (cFields (.ref hp) (.int sp) (.int t) (.ref m2) (.ref l0) (.ref aC) (.bl c.opn)))) m2 = some (.lst ((srt (c.home ++ cm)).map V.int)) := by rw [upd_ne nm2]; exact em2
        have h3 : (upd H4 p (.ins CC dx (cFields (.ref hp) (.int sp) (.int t) (.ref m2) (.ref l0) (.ref aC) (.bl c.opn)))) l0 = some (.lst []) := by rw [upd_ne (npl _ _ g3)]; exact s5 _ _ g3
        have h4 : (upd H4 p (.ins CC dx (cFields (.ref hp) (.int sp) (.int t) (.ref m2) (.ref l0) (.ref aC) (.bl c.opn)))) aC = some (.lst (c.carr.map V.int)) := by rw [upd_ne (npl _ _ g4)]; exact s5 _ _ g4
        have hD : (upd H4 p (.ins CC dx (cFields (.ref hp) (.int sp) (.int t) (.ref m2) (.ref l0) (.ref aC) (.bl c.opn)))) D = some (.lst (cm.map V.int)) := by rw [upd_ne nDp]; exact s5 _ _ gD
        generalize upd H4 p (.ins CC dx (cFields (.ref hp) (.int sp) (.int t) (.ref m2) (.ref l0) (.ref aC) (.bl c.opn))) = H5 at k5 h1 h2 h3 h4 hD
        clear s4 s5 em2 hm hm2 npl g1 g2 g3 g4 gD k3
        -- the keys of the comers are hung up
        refine ⟨_, rfl, p, CC, dx, _, .ref aC, rfl, h1, C'.cl, C'.nCr, by rfl, aC, rfl, ⟨_, SqL.of h4⟩, fun B hB => ?_⟩
        refine comp_filt (i := 3) (vs := [3]) (g := fun q => !decide (q ∈ cm)) hB (SqL.of h4) (by omega) (fun q H6 Qb hm s6 hq => ?_) (fun _ => rfl) (fun _ => rfl) (fun H6 s6 eB => ?_)
        · refine ⟨_, rfl, _, rfl, D, _, rfl, .inl (SqL.of (s6 _ _ hD)), rfl, by simp [flatV], _, rfl, ?_⟩
          show Qb (!inV (V.int q) (cm.map V.int)) H6
          rw [any_mem]
          exact hq H6 (Same.refl H6)
        have nB : B ≠ p := (ne_of_none h1 hB).symm
        refine ⟨_, rfl, p, CC, dx, _, rfl, s6 _ _ h1, C'.cl, C'.nCr, by show 7 < 1000; decide, ?_⟩
        rw [putF_carr]
        refine ⟨_, rfl, p, CC, dx, _, rfl, upd_same, C'.cl, C'.nUn, by show 7 < 1000; decide, ?_⟩
        rw [putF_opn, upd_upd]
        have npl : ∀ a xs, H6 a = some (.lst xs) → a ≠ p := fun a xs ha z => by rw [z, s6 _ _ h1] at ha; cases ha
        have k7 : Kp p H (upd H6 p (.ins CC dx (cFields (.ref hp) (.int sp) (.int t) (.ref m2) (.ref l0) (.ref B) (.bl false)))) := (k5.trans (sKp s6)).trans kp_upd
        have co7 : CoAt CC (upd H6 p (.ins CC dx (cFields (.ref hp) (.int sp) (.int t) (.ref m2) (.ref l0) (.ref B) (.bl false)))) p hp sp t ⟨srt (c.home ++ cm), [], c.carr.filter fun p => !decide (p ∈ cm), false⟩ :=
          ⟨dx, m2, l0, B, upd_same, by rw [upd_ne (npl _ _ (s6 _ _ h2))]; exact s6 _ _ h2, by rw [upd_ne (npl _ _ (s6 _ _ h3))]; exact s6 _ _ h3, by rw [upd_ne nB]; exact eB⟩
        have i1 : (upd H6 p (.ins CC dx (cFields (.ref hp) (.int sp) (.int t) (.ref m2) (.ref l0) (.ref B) (.bl false)))) p = some (.ins CC dx (cFields (.ref hp) (.int sp) (.int t) (.ref m2) (.ref l0) (.ref B) (.bl false))) := upd_same
        have iD : (upd H6 p (.ins CC dx (cFields (.ref hp) (.int sp) (.int t) (.ref m2) (.ref l0) (.ref B) (.bl false)))) D = some (.lst (cm.map V.int)) := by rw [upd_ne nDp]; exact s6 _ _ hD
        generalize upd H6 p (.ins CC dx (cFields (.ref hp) (.int sp) (.int t) (.ref m2) (.ref l0) (.ref B) (.bl false))) = H7 at k7 co7 i1 iD
        refine ⟨_, rfl, D, rfl, ⟨_, SqL.of iD⟩, fun B2 hB2 => ?_⟩
        refine comp_evs (i := 3) (vs := [3]) (t := t) (g := fun q => (wEnter, .int q)) hB2 (SqL.of iD) (by omega) (fun q H8 Q8 hm s8 hq => ?_) (fun _ => rfl) (fun H8 s8 hE => ?_)
        · refine ⟨_, rfl, p, CC, dx, _, .int t, rfl, s8 _ _ i1, C'.cl, C'.nTk, by rfl, _, rfl, by show 3 ≤ sizeLine; decide, fun u hu => ?_⟩
          exact hq _ u (same_upd hu) upd_same
        · exact k _ B2 (k7.trans (sKp s8)) (by rw [earr]; exact co7.mono s8) (by rw [earr]; exact hE)
end
end Dk

set_option Elab.async false
set_option linter.all false
set_option maxRecDepth 100000
set_option maxHeartbeats 2000000
namespace Dk
open PySem PySem.Spec PyProof.Rows L2 TL
theorem ix_listK {X : Cx} {K : PySem.W.Frag} (h : X.K = K) : IxR X (rIxL K) := by
  subst h; exact ix_list
/-- the course at p, its lists apart from ev -/
structure CoAp (CC : Addr) (H : Hp) (p hp : Addr) (sp t : Int) (c : Cs) (ev : Addr) : Prop where
  ex : ∃ dx aH aW aC, H p = some (.ins CC dx (cFields (.ref hp) (.int sp) (.int t) (.ref aH) (.ref aW) (.ref aC) (.bl c.opn))) ∧ H aH = some (.lst (c.home.map V.int)) ∧ H aW = some (.lst (c.wait.map V.int)) ∧ H aC = some (.lst (c.carr.map V.int)) ∧ aH ≠ ev ∧ aW ≠ ev ∧ aC ≠ ev
theorem CoAp.at {CC : Addr} {H : Hp} {p hp : Addr} {sp t : Int} {c : Cs} {ev : Addr} (h : CoAp CC H p hp sp t c ev) : CoAt CC H p hp sp t c := by
  obtain ⟨dx, aH, aW, aC, e1, e2, e3, e4, _⟩ := h
  exact ⟨dx, aH, aW, aC, e1, e2, e3, e4⟩
theorem lst_apart {H : Hp} {a ev x : Addr} {ns : List Int} {xs : List V} (h : H a = some (.lst (ns.map V.int))) (he : H ev = some (.lst (.ref x :: xs))) : a ≠ ev := fun e => by
  rw [e, he] at h
  cases ns with
  | nil => cases h
  | cons n ns => cases h
theorem CoAt.ap {CC : Addr} {H : Hp} {p hp : Addr} {sp t : Int} {c : Cs} {ev x : Addr} {xs : List V} (h : CoAt CC H p hp sp t c) (he : H ev = some (.lst (.ref x :: xs))) : CoAp CC H p hp sp t c ev := by
  obtain ⟨dx, aH, aW, aC, e1, e2, e3, e4⟩ := h
  exact ⟨dx, aH, aW, aC, e1, e2, e3, e4, lst_apart e2 he, lst_apart e3 he, lst_apart e4 he⟩
theorem CoAp.kp {CC : Addr} {H H' : Hp} {p hp : Addr} {sp t : Int} {c : Cs} {ev : Addr} {xs : List V} (h : CoAp CC H p hp sp t c ev) (k : Kp ev H H') (he : H ev = some (.lst xs)) : CoAp CC H' p hp sp t c ev := by
  obtain ⟨dx, aH, aW, aC, e1, e2, e3, e4, n1, n2, n3⟩ := h
  exact ⟨dx, aH, aW, aC, k _ _ (fun z => by rw [z, he] at e1; cases e1) e1, k _ _ n1 e2, k _ _ n2 e3, k _ _ n3 e4, n1, n2, n3⟩
theorem CoAp.mono {CC : Addr} {H H' : Hp} {p hp : Addr} {sp t : Int} {c : Cs} {ev : Addr} (h : CoAp CC H p hp sp t c ev) (k : Same H H') : CoAp CC H' p hp sp t c ev := by
  obtain ⟨dx, aH, aW, aC, e1, e2, e3, e4, n1, n2, n3⟩ := h
  exact ⟨dx, aH, aW, aC, k _ _ e1, k _ _ e2, k _ _ e3, k _ _ e4, n1, n2, n3⟩
theorem HoAt.kpl {K : PySem.W.Frag} {CH : Addr} {ev hp : Addr} {H H' : Hp} {xs : List V} {h : Hd} (x : HoAt K CH H hp h) (k : Kp ev H H') (e : H ev = some (.lst xs)) : HoAt K CH H' hp h := by
  obtain ⟨⟨d, aT, aC, aR, ys, e1, e2, e3, e4, e5⟩⟩ := x
  exact ⟨⟨d, aT, aC, aR, ys, k _ _ (fun z => by rw [z, e] at e1; cases e1) e1, k.sqT e e2, k.sqT e e3, k.sqT e e4, e5.mono fun t ys h => k _ _ (fun z => by rw [z, e] at h; cases h) h⟩⟩
def Kp2 (p ev : Addr) (H H' : Hp) : Prop := ∀ b o, b ≠ p → b ≠ ev → H b = some o → H' b = some o
theorem Kp2.trans {p ev : Addr} {H H1 H2 : Hp} (a : Kp2 p ev H H1) (b : Kp2 p ev H1 H2) : Kp2 p ev H H2 := fun x o n1 n2 e => b x o n1 n2 (a x o n1 n2 e)
theorem Kp2.same {p ev : Addr} {H H' : Hp} (s : Same H H') : Kp2 p ev H H' := fun x o _ _ e => s x o e
theorem Kp2.p {p ev : Addr} {H H' : Hp} (k : Kp p H H') : Kp2 p ev H H' := fun x o n _ e => k x o n e
theorem Kp2.e {p ev : Addr} {H H' : Hp} (k : Kp ev H H') : Kp2 p ev H H' := fun x o _ n e => k x o n e
theorem Evs.snoc {H : Hp} {t : Int} {xs : List V} {evs : List Ev} {a : Addr} {e : Ev} (h : Evs H t xs evs) (ha : H a = some (.tup [.int t, .str e.1, e.2])) : Evs H t (xs ++ [.ref a]) (evs ++ [e]) := h.app (.cons ⟨a, rfl, ha⟩ .nil)
theorem at_last {l : List Int} {q : Int} (h : l.getLast? = some q) : atI (l.map V.int) (-1) = some (.int q) := by
  have hn : l ≠ [] := fun e => by rw [e] at h; cases h
  have hl : 0 < l.length := List.length_pos_iff.mpr hn
  have e1 : ixN (l.map V.int).length (-1) = some (l.length - 1) := by
    unfold ixN
    rw [List.length_map, if_neg (by decide), if_pos (by omega)]
    congr 1
    omega
  unfold atI
  rw [e1]
  show (l.map V.int)[l.length - 1]? = _
  rw [List.getElem?_map, ← List.getLast?_eq_getElem?, h]; rfl
def lvAcc (h : Hd) (t : Int) (ws : List Bool) (c : Cs) (i : Nat) : Cs × Bool × List Ev := ((leaversOf ws c).take i).foldl (leaveStep h t) (stay ws c, false, [])
theorem lvAcc_succ {h : Hd} {t : Int} {ws : List Bool} {c : Cs} {i : Nat} {q : Int} (e : (leaversOf ws c)[i]? = some q) : lvAcc h t ws c (i + 1) = leaveStep h t (lvAcc h t ws c i) q := by
  unfold lvAcc
  rw [take_more e, List.foldl_append]; rfl
theorem take_len (ks : Int) (c : Cs) (q : Int) : (takeKey ks c q).1.carr.length ≤ c.carr.length + 1 := by
  unfold takeKey
  split
  · exact Nat.le_succ _
  · show (srt (c.carr ++ [q])).length ≤ _
    rw [srt_len, List.length_append]; exact Nat.le_refl _
theorem step_len (h : Hd) (t : Int) (a : Cs × Bool × List Ev) (q : Int) : (leaveStep h t a q).1.carr.length ≤ a.1.carr.length + 1 ∧ (leaveStep h t a q).2.2.length ≤ a.2.2.length + 2 := by
  have := take_len h.ks a.1 q
  unfold leaveStep
  split
  · split
    · refine ⟨this, ?_⟩; show (a.2.2 ++ [_] ++ [_]).length ≤ _; rw [List.length_append, List.length_append]; exact Nat.le_refl _
    · refine ⟨this, ?_⟩; show (a.2.2 ++ [_]).length ≤ _; rw [List.length_append]; exact Nat.le_succ _
  · refine ⟨Nat.le_succ _, ?_⟩; show (a.2.2 ++ [_]).length ≤ _; rw [List.length_append]; exact Nat.le_succ _
end Dk

set_option Elab.async false
set_option linter.all false
set_option maxRecDepth 100000
set_option maxHeartbeats 4000000
namespace Dk
open PySem PySem.Spec PyProof.Rows L2 TL
structure TxtDp (K : PySem.W.Frag) (CC fTh fTk fCl : Addr) (fdTh fdTk fdCl : FuncData) : Prop where
  mTh : Meth K CC "_thinks_of_key" fTh
  FTh : Fun K "_thinks_of_key" "Course._thinks_of_key" sThinks fTh fdTh
  bTh : Binds K fdTh ["self", "person"] []
  tk : TxtTk K CC fTk fdTk
  mCl : Meth K CC "_close" fCl
  FCl : Fun K "_close" "Course._close" sClose fCl fdCl
  bCl : Binds K fdCl ["self", "person"] []
def spDepart (K : PySem.W.Frag) (CC CH : Addr) : Sp := fun vs H Q _ => ∃ (p hp l : Addr) (t : Int) (c : Cs) (h : Hd) (ws : List Bool), vs = [.ref p, .ref l] ∧ CoAt CC H p hp ((per h.ts : Nat) : Int) t c ∧ HoAt K CH H hp h ∧ hp ≠ p ∧ 1 ≤ per h.ts ∧ H l = some (.lst (ws.map V.bl)) ∧
  (∀ q ∈ c.home, 0 ≤ q ∧ q < (ws.length : Int)) ∧ c.home.length ≤ 100 ∧ c.carr.length ≤ 100 ∧
  ∀ (H' : Hp) (e : Addr), Kp p H H' → CoAt CC H' p hp ((per h.ts : Nat) : Int) t (depart h t ws c).1 → EvAt H' e t (depart h t ws c).2 → (depart h t ws c).2.length ≤ 201 → (∃ a, HomeAt H' p a ∧ H a = none) → Q (.ref e) H'
abbrev nDep : List Str := ["self", "wishes", "leavers", "events", "taken", "person"]
theorem Evs.head {H : Hp} {t : Int} {xs : List V} {evs : List Ev} (h : Evs H t xs evs) (n : 1 ≤ xs.length) : ∃ y ys, xs = V.ref y :: ys := by
  cases h with
  | nil => simp at n
  | cons r _ =>
    obtain ⟨a, e, _⟩ := r
    exact ⟨a, _, by rw [e]⟩
section
variable {P : Program} {w : World} {K : PySem.W.Frag} {mg : Str → Option Value} {base : Heap} {CC CH fHL : Addr} {fdHL : FuncData} {fTh fTk fCl : Addr} {fdTh fdTk fdCl : FuncData}
theorem scDep : FnScope nDep ["self", "wishes"] (defScope sDepart) := ⟨rfl, rfl, rfl, by decide +kernel, rfl, by decide +kernel, by decide +kernel⟩
theorem wants_ix {ws : List Bool} {q : Int} (h0 : 0 ≤ q) (h1 : q < (ws.length : Int)) : atI (ws.map V.bl) q = some (.bl (wants ws q)) := by
  obtain ⟨n, rfl⟩ := Int.eq_ofNat_of_zero_le h0
  have hn : n < ws.length := by omega
  have e : ws[n]? = some ws[n] := List.getElem?_eq_getElem hn
  rw [wants_at e]
  exact atI_nat (by rw [List.getElem?_map, e]; rfl)
theorem ok_depart {f : Addr} {fd : FuncData} (F : Fun K "_depart" "Course._depart" sDepart f fd) (C' : TxtCo K mg CC CH fHL fdHL) (T : TxtA mg) (D' : TxtDp K CC fTh fTk fCl fdTh fdTk fdCl) : FnOk P w K mg base CX0 3 f fd ["self", "wishes"] (spDepart K CC CH) := by
  have GTh : FnOk P w K mg base CX0 1 fTh fdTh ["self", "person"] (spThink K CC CH) := ok_think D'.FTh C'
  have GTk : FnOk P w K mg base CX0 1 fTk fdTk ["self", "person"] (spTake K CC CH) := ok_take D'.tk.F C' T
  have GCl : FnOk P w K mg base CX0 2 fCl fdCl ["self", "person"] (spClose K CC CH) := ok_close D'.FCl C' T D'.tk
  refine F.ok scDep (fun vs H Q E h => ?_) (fun cdv A outer s H vs Q E hr h => ?_)
  · obtain ⟨p, hp, l, t, c, h, ws, rfl, _⟩ := h
    rfl
  · obtain ⟨p, hp, l, t, c, h, ws, rfl, ⟨dx, aH, aW, aC, e1, e2, e3, e4⟩, hho, npq, hper, el, hrg, hzh, hzc, k⟩ := h
    have hr1 : Room 1 (A.deeper (envOfC (Str.ofString "Course._depart") (defScope sDepart) s.heap.objs.size f cdv)) := hr.mono (by decide)
    refine ⟨_, pss_cons (ps_setLc (own := [("person", 5)]) (i := 2) (g := gName 5) (by rfl) scDep.nd rfl rfl (sw_true rfl rfl (by rfl) (by rfl)) (pi_list (pe_fld (pv 0) rfl)) (blkOk_by (N := nDep) (sc := defScope sDepart) (by decide +kernel))
        (fun _ _ _ _ _ => pg_name (i := 5) scDep.nd rfl (Or.inl rfl)) (fun _ _ _ _ _ => pts_one (pt_not (pt_val (pe_ix (ix_listK (K := K) rfl) (pv 1) (pv 5) (fun _ _ => rfl))))) (fun _ _ _ _ _ => pv 5))
      (pss_cons (ps_fld (pv 0) (pe_lc (own := [("person", 5)]) (g := gName 5) (by rfl) scDep.nd (pi_list (pe_fld (pv 0) rfl)) (blkOk_by (N := nDep) (sc := defScope sDepart) (by decide +kernel))
        (fun _ _ _ _ _ => pg_name (i := 5) scDep.nd rfl (Or.inl rfl)) (fun _ _ _ _ _ => pts_one (pt_val (pe_ix (ix_listK (K := K) rfl) (pv 1) (pv 5) (fun _ _ => rfl)))) (fun _ _ _ _ _ => pv 5)) rfl)
      (pss_cons (ps_set (i := 3) scDep.nd rfl (.inl rfl) (pe_lst pa_nil))
      (pss_cons (ps_set (i := 4) scDep.nd rfl (.inl rfl) pe_bl)
      (pss_cons (ps_for PassesOwn.never rfl (pi_list (pv 2)) (pg_name (i := 5) scDep.nd rfl (.inl rfl))
        (pss_cons (ps_expr (pe_bm PySem.F.plainAttrs_list PySem.F.slot_list_append PySem.F.type_list_append mt_append (pv 3) (pa_cons (pe_tup (pa_cons (pe_fld (pv 0) rfl) (pa_cons pe_str (pa_cons (pv 5) pa_nil)))) pa_nil)))
        (pss_one (ps_if (PW.pt (pw_and (pt_val (pe_meth (pv 0) C'.cl D'.mTh GTh hr1 D'.bTh .nil pass0 (pa_cons (pv 5) pa_nil))) (pw_and1 (pt_val (pe_meth (pv 0) C'.cl D'.tk.m GTk hr1 D'.tk.b .nil pass0 (pa_cons (pv 5) pa_nil))))))
          (pss_cons (ps_expr (pe_bm PySem.F.plainAttrs_list PySem.F.slot_list_append PySem.F.type_list_append mt_append (pv 3) (pa_cons (pe_tup (pa_cons (pe_fld (pv 0) rfl) (pa_cons pe_str (pa_cons (pv 5) pa_nil)))) pa_nil)))
            (pss_one (ps_set (i := 4) scDep.nd rfl (.inl rfl) pe_bl))) pss_nil))))
      (pss_cons (ps_if (PW.pt (pw_and (pt_truth (pv 2) (by intro _; rfl)) (pw_and (pt_not (pt_truth (pe_fld (pv 0) rfl) (by intro _; rfl))) (pw_and1 (pt_not (pt_val (pv 4)))))))
          (pss_one (ps_expr (pe_bm PySem.F.plainAttrs_list PySem.F.slot_list_append PySem.F.type_list_append mt_append (pv 3) (pa_cons (pe_meth (pv 0) C'.cl D'.mCl GCl hr D'.bCl .nil pass0 (pa_cons (pe_ix ix_list (pv 2) (pe_un un_neg pe_int) (fun _ _ => rfl)) pa_nil)) pa_nil)))) pss_nil)
      (pss_one (ps_ret (pv 3)))))))), ?_⟩
    -- who leaves
    refine ⟨_, rfl, p, CC, dx, _, .ref aH, rfl, e1, C'.cl, C'.nHm, by rfl, aH, rfl, ⟨_, SqL.of e2⟩, fun D hD => ?_⟩
    refine comp_filt (i := 5) (vs := [5]) (g := fun q => !wants ws q) hD (SqL.of e2) (by omega) (fun q H2 Qb hm s2 hq => ?_) (fun _ => rfl) (fun _ => rfl) (fun H1 s1 eD => ?_)
    · obtain ⟨q0, q1⟩ := hrg q hm
      exact ⟨_, rfl, _, rfl, l, _, _, _, rfl, rfl, SqL.of (s2 _ _ el), wants_ix q0 q1, _, rfl, hq H2 (Same.refl H2)⟩
    have elv : c.home.filter (fun q => !wants ws q) = leaversOf ws c := rfl
    rw [elv] at eD
    have hlz : (leaversOf ws c).length ≤ 100 := by
      have := List.length_filter_le (fun q => !wants ws q) c.home
      rw [elv] at this; omega
    -- who stays
    refine ⟨_, rfl, p, CC, dx, _, .ref aH, rfl, s1 _ _ e1, C'.cl, C'.nHm, by rfl, aH, rfl, ⟨_, SqL.of (s1 _ _ e2)⟩, fun B hB => ?_⟩
    refine comp_filt (i := 5) (vs := [5]) (g := fun q => wants ws q) hB (SqL.of (s1 _ _ e2)) (by omega) (fun q H2 Qb hm s2 hq => ?_) (fun _ => rfl) (fun _ => rfl) (fun H2 s2 eB => ?_)
    · obtain ⟨q0, q1⟩ := hrg q hm
      exact ⟨_, rfl, _, rfl, l, _, _, _, rfl, rfl, SqL.of (s2 _ _ (s1 _ _ el)), wants_ix q0 q1, _, rfl, hq H2 (Same.refl H2)⟩
    have est : c.home.filter (fun q => wants ws q) = (stay ws c).home := rfl
    rw [est] at eB
    have s12 := s1.trans s2
    have nB : B ≠ p := (ne_of_none (s1 _ _ e1) hB).symm
    have nD : D ≠ p := (ne_of_none e1 hD).symm
    refine ⟨_, rfl, p, CC, dx, _, rfl, s12 _ _ e1, C'.cl, C'.nHm, by show 7 < 1000; decide, ?_⟩
    rw [putF_home]
    have np : ∀ a xs, H a = some (.lst xs) → a ≠ p := fun a xs ha z => by rw [z, e1] at ha; cases ha
    have k3 : Kp p H (upd H2 p (.ins CC dx (cFields (.ref hp) (.int ((per h.ts : Nat) : Int)) (.int t) (.ref B) (.ref aW) (.ref aC) (.bl c.opn)))) := (sKp s12).trans kp_upd
    have co3 : CoAt CC (upd H2 p (.ins CC dx (cFields (.ref hp) (.int ((per h.ts : Nat) : Int)) (.int t) (.ref B) (.ref aW) (.ref aC) (.bl c.opn)))) p hp ((per h.ts : Nat) : Int) t (stay ws c) :=
      ⟨dx, B, aW, aC, upd_same, by rw [upd_ne nB]; exact eB, k3 _ _ (np _ _ e3) e3, k3 _ _ (np _ _ e4) e4⟩
    have ho3 := hho.kp k3 e1 npq
    have eD3 : (upd H2 p (.ins CC dx (cFields (.ref hp) (.int ((per h.ts : Nat) : Int)) (.int t) (.ref B) (.ref aW) (.ref aC) (.bl c.opn)))) D = some (.lst ((leaversOf ws c).map V.int)) := by rw [upd_ne nD]; exact s2 _ _ eD
    have nHD : H D = none := hD
    have hm3 : HomeAt (upd H2 p (.ins CC dx (cFields (.ref hp) (.int ((per h.ts : Nat) : Int)) (.int t) (.ref B) (.ref aW) (.ref aC) (.bl c.opn)))) p B := ⟨_, _, _, upd_same, by rfl⟩
    have nHB : H B = none := s1.free hB
    generalize upd H2 p (.ins CC dx (cFields (.ref hp) (.int ((per h.ts : Nat) : Int)) (.int t) (.ref B) (.ref aW) (.ref aC) (.bl c.opn))) = H3 at k3 co3 ho3 eD3 hm3
    clear s2 s12 eD eB hD
    -- nothing has happened yet
    refine ⟨Nat.zero_le _, fun ev hev => ?_⟩
    have s4 := same_upd (o := .lst []) hev
    have nEp : ev ≠ p := fun z => by
      obtain ⟨_, _, _, _, g, _⟩ := co3
      rw [z] at hev; rw [hev] at g; cases g
    have nED : ev ≠ D := (ne_of_none eD3 hev).symm
    have nHe : H ev = none := by
      cases z : H ev with
      | none => rfl
      | some o => have := k3 _ _ nEp z; rw [hev] at this; cases this
    have co4 : CoAp CC (upd H3 ev (.lst [])) p hp ((per h.ts : Nat) : Int) t (stay ws c) ev := by
      obtain ⟨d, b1, b2, b3, g1, g2, g3, g4⟩ := co3
      exact ⟨d, b1, b2, b3, s4 _ _ g1, s4 _ _ g2, s4 _ _ g3, s4 _ _ g4, ne_of_none g2 hev, ne_of_none g3 hev, ne_of_none g4 hev⟩
    have ho4 := ho3.mono s4
    have hm4 := hm3.mono s4
    have k4 : Kp2 p ev H (upd H3 ev (.lst [])) := (Kp2.p k3).trans (Kp2.same s4)
    have eD4 := s4 _ _ eD3
    have eE4 : (upd H3 ev (.lst [])) ev = some (.lst []) := upd_same
    generalize upd H3 ev (.lst []) = H4 at k4 co4 ho4 eD4 eE4 hm4
    clear s4 co3 ho3 eD3 hev k3 hm3
    refine ⟨_, rfl, D, rfl, ⟨_, SqL.of eD4⟩, for_list (K := K) (a := D) (xs := (leaversOf ws c).map V.int)
      (fun i σ H' => ∃ (v5 : Option V) (xs : List V), σ = [some (.ref p), some (.ref l), some (.ref D), some (.ref ev), some (.bl (lvAcc h t ws c i).2.1), v5] ∧ Kp2 p ev H H' ∧ CoAp CC H' p hp ((per h.ts : Nat) : Int) t (lvAcc h t ws c i).1 ev ∧ HoAt K CH H' hp h ∧ H' D = some (.lst ((leaversOf ws c).map V.int)) ∧
        H' ev = some (.lst xs) ∧ Evs H' t xs (lvAcc h t ws c i).2.2 ∧ (lvAcc h t ws c i).1.carr.length ≤ 100 + i ∧ (lvAcc h t ws c i).2.2.length ≤ 2 * i ∧ i ≤ (lvAcc h t ws c i).2.2.length ∧ (lvAcc h t ws c i).1.home = (stay ws c).home ∧ HomeAt H' p B)
      ⟨_, [], rfl, k4, co4, ho4, eD4, eE4, .nil, hzc, Nat.le_refl _, Nat.le_refl _, rfl, hm4⟩ (fun i σ H' _ ⟨_, _, _, _, _, _, eD', _⟩ => SqL.of eD') ?_ ?_⟩
    · rintro i y σ H5 hi ⟨v5, xs, rfl, k5, co5, ho5, eD5, eE5, hE5, hz5, hy5, hx5, hh5, hm5⟩
      obtain ⟨q, eq, rfl⟩ := map_at hi
      have hi100 : i < 100 := by have := (List.getElem?_eq_some_iff.mp eq).1; omega
      have hq : 0 ≤ q ∧ q < (ws.length : Int) := hrg q ((List.mem_filter.mp (List.mem_of_getElem? eq)).1)
      have esu := lvAcc_succ (h := h) (t := t) eq
      have hlen5 := hE5.len
      obtain ⟨d5, b1, b2, b3, g1, g2, g3, g4, m1, m2, m3⟩ := id co5
      generalize lvAcc h t ws c i = acc at co5 hE5 hz5 hy5 hx5 hh5 esu g1 g2 g3 g4 hlen5
      refine ⟨_, rfl, .inl ⟨rfl, _, SqL.of eE5⟩, _, rfl, p, CC, d5, _, .int t, rfl, g1, C'.cl, C'.nTk, by rfl, _, rfl, by show 3 ≤ sizeLine; decide, fun u hu => ?_⟩
      have sU := same_upd (o := .tup [.int t, .str (Str.ofString "leave"), .int q]) hu
      have eu : (upd H5 u (.tup [.int t, .str (Str.ofString "leave"), .int q])) u = some (.tup [.int t, .str (Str.ofString "leave"), .int q]) := upd_same
      have co6 := co5.mono sU
      have hm6 := hm5.mono sU
      have ho6 := ho5.mono sU
      have eD6 := sU _ _ eD5
      have eE6 := sU _ _ eE5
      have hE6 := hE5.mono fun a ys z => sU _ _ z
      have k6 := k5.trans (Kp2.same sU)
      have nDe : D ≠ ev := nED.symm
      generalize upd H5 u (.tup [.int t, .str (Str.ofString "leave"), .int q]) = H6 at eu co6 ho6 eD6 eE6 hE6 k6 hm6
      clear co5 ho5 eD5 eE5 hE5 k5 sU hu g1 g2 g3 g4 m1 m2 m3 d5 b1 b2 b3
      refine ⟨ev, _, _, rfl, rfl, eE6, ?_, ?_⟩
      · rw [hlen5]; exact Nat.lt_of_le_of_lt (by omega : acc.2.2.length ≤ 200) (by decide)
      have kE : Kp ev H6 (upd H6 ev (.lst (xs ++ [.ref u]))) := kp_upd
      have tK : ∀ a ys, H6 a = some (.tup ys) → (upd H6 ev (.lst (xs ++ [.ref u]))) a = some (.tup ys) := fun a ys z => kE _ _ (fun z' => by rw [z', eE6] at z; cases z) z
      have co7 := co6.kp kE eE6
      have hm7 := hm6.kpl kE eE6
      have ho7 := ho6.kpl kE eE6
      have eD7 := kE _ _ nDe eD6
      have eE7 : (upd H6 ev (.lst (xs ++ [.ref u]))) ev = some (.lst (xs ++ [.ref u])) := upd_same
      have hE7 := (hE6.mono tK).snoc (e := (wLeave, .int q)) (tK _ _ eu)
      have k7 := k6.trans (Kp2.e kE)
      generalize upd H6 ev (.lst (xs ++ [.ref u])) = H7 at co7 ho7 eD7 eE7 hE7 k7 hm7
      clear co6 ho6 eD6 eE6 hE6 k6 kE tK eu
      obtain ⟨y0, ys, exs⟩ := hE7.head (by rw [List.length_append]; exact Nat.le_add_left ..)
      rw [exs] at eE7
      have hlen7 : (V.ref y0 :: ys).length = acc.2.2.length + 1 := by rw [← exs, List.length_append, hlen5]; rfl
      rw [exs] at hE7
      generalize exs7 : V.ref y0 :: ys = xs7 at eE7 hE7 hlen7
      obtain ⟨d7, b1, b2, b3, g1, g2, g3, g4, m1, m2, m3⟩ := id co7
      -- does this person think of a key?
      refine ⟨_, rfl, p, d7, _, rfl, g1, by rfl, _, rfl, p, hp, t, acc.1, h, q, rfl, co7.at, ho7, hper, fun H8 s8 => ⟨_, rfl, ?_⟩⟩
      have co8 := co7.mono s8
      have hm8 := hm7.mono s8
      have ho8 := ho7.mono s8
      have eD8 := s8 _ _ eD7
      have eE8 := s8 _ _ eE7
      have hE8 := hE7.mono fun a ys z => s8 _ _ z
      have k8 := k7.trans (Kp2.same s8)
      clear co7 ho7 eD7 eE7 hE7 k7 s8 g1 g2 g3 g4 m1 m2 m3 d7 b1 b2 b3
      cases hth : thinks h t q with
      | false =>
        have est' : leaveStep h t acc q = (acc.1, acc.2.1, acc.2.2 ++ [(wLeave, .int q)]) := by unfold leaveStep; rw [if_neg (by rw [hth]; decide)]
        refine iteF (iteF ⟨_, xs7, by rw [esu, est']; rfl, k8, by rw [esu, est']; exact co8, ho8, eD8, eE8, by rw [esu, est']; exact hE8, by rw [esu, est']; show acc.1.carr.length ≤ _; omega, ?_, ?_, by rw [esu, est']; exact hh5, hm8⟩)
        · rw [esu, est']; show (acc.2.2 ++ [_]).length ≤ _; rw [List.length_append]; show _ + 1 ≤ _; omega
        · rw [esu, est']; show _ ≤ (acc.2.2 ++ [_]).length; rw [List.length_append]; show _ ≤ _ + 1; omega
      | true =>
        obtain ⟨d8, b1, b2, b3, g1, g2, g3, g4, m1, m2, m3⟩ := id co8
        refine iteT ⟨_, rfl, p, d8, _, rfl, g1, by rfl, _, rfl, p, hp, _, t, acc.1, h, q, rfl, co8.at, ho8, npq, by omega, fun H9 k9 co9 m9 => ⟨_, rfl, ?_⟩⟩
        have hm9 := m9 _ hm8
        have np9 : ∀ a ys, H8 a = some (.tup ys) → H9 a = some (.tup ys) := fun a ys z => k9 _ _ (fun z' => by rw [z', g1] at z; cases z) z
        have ho9 := ho8.kp k9 g1 npq
        have eD9 := k9 _ _ nD eD8
        have eE9 := k9 _ _ nEp eE8
        have hE9 := hE8.mono np9
        have k79 := k8.trans (Kp2.p k9)
        have co9' : CoAp CC H9 p hp ((per h.ts : Nat) : Int) t (takeKey h.ks acc.1 q).1 ev := co9.ap (x := y0) (xs := ys) (by rw [eE9, ← exs7])
        have htl := take_len h.ks acc.1 q
        have hth' : (takeKey h.ks acc.1 q).1.home = acc.1.home := by unfold takeKey; split <;> rfl
        clear co8 ho8 eD8 eE8 hE8 k8 g1 g2 g3 g4 m1 m2 m3 d8 b1 b2 b3 co9 k9 np9
        cases htk : (takeKey h.ks acc.1 q).2 with
        | false =>
          have est' : leaveStep h t acc q = ((takeKey h.ks acc.1 q).1, acc.2.1, acc.2.2 ++ [(wLeave, .int q)]) := by unfold leaveStep; rw [if_pos hth, if_neg (by rw [htk]; decide)]
          refine iteF ⟨_, xs7, by rw [esu, est']; rfl, k79, by rw [esu, est']; exact co9', ho9, eD9, eE9, by rw [esu, est']; exact hE9, by rw [esu, est']; show (takeKey h.ks acc.1 q).1.carr.length ≤ _; omega, ?_, ?_, by rw [esu, est']; exact hth'.trans hh5, hm9⟩
          · rw [esu, est']; show (acc.2.2 ++ [_]).length ≤ _; rw [List.length_append]; show _ + 1 ≤ _; omega
          · rw [esu, est']; show _ ≤ (acc.2.2 ++ [_]).length; rw [List.length_append]; show _ ≤ _ + 1; omega
        | true =>
          have est' : leaveStep h t acc q = ((takeKey h.ks acc.1 q).1, true, acc.2.2 ++ [(wLeave, .int q)] ++ [(wTake, .int q)]) := by unfold leaveStep; rw [if_pos hth, if_pos htk]
          obtain ⟨d9, b1, b2, b3, g1, g2, g3, g4, m1, m2, m3⟩ := id co9'
          refine iteT ⟨_, rfl, .inl ⟨rfl, _, SqL.of eE9⟩, _, rfl, p, CC, d9, _, .int t, rfl, g1, C'.cl, C'.nTk, by rfl, _, rfl, by show 3 ≤ sizeLine; decide, fun u2 hu2 => ?_⟩
          have sU := same_upd (o := .tup [.int t, .str (Str.ofString "take"), .int q]) hu2
          have eu2 : (upd H9 u2 (.tup [.int t, .str (Str.ofString "take"), .int q])) u2 = some (.tup [.int t, .str (Str.ofString "take"), .int q]) := upd_same
          have coA := co9'.mono sU
          have hmA := hm9.mono sU
          have hoA := ho9.mono sU
          have eDA := sU _ _ eD9
          have eEA := sU _ _ eE9
          have hEA := hE9.mono fun a ys z => sU _ _ z
          have kA := k79.trans (Kp2.same sU)
          generalize upd H9 u2 (.tup [.int t, .str (Str.ofString "take"), .int q]) = HA at eu2 coA hoA eDA eEA hEA kA hmA
          refine ⟨ev, _, _, rfl, rfl, eEA, ?_, ?_⟩
          · rw [hlen7]; exact Nat.lt_of_le_of_lt (by omega : acc.2.2.length + 1 ≤ 201) (by decide)
          have kE : Kp ev HA (upd HA ev (.lst (xs7 ++ [.ref u2]))) := kp_upd
          have tK : ∀ a ys, HA a = some (.tup ys) → (upd HA ev (.lst (xs7 ++ [.ref u2]))) a = some (.tup ys) := fun a ys z => kE _ _ (fun z' => by rw [z', eEA] at z; cases z) z
          refine ⟨_, xs7 ++ [.ref u2], by rw [esu, est']; rfl, kA.trans (Kp2.e kE), by rw [esu, est']; exact coA.kp kE eEA, hoA.kpl kE eEA, kE _ _ nDe eDA, upd_same, by rw [esu, est']; exact (hEA.mono tK).snoc (e := (wTake, .int q)) (tK _ _ eu2), by rw [esu, est']; show (takeKey h.ks acc.1 q).1.carr.length ≤ _; omega, ?_, ?_, by rw [esu, est']; exact hth'.trans hh5, hmA.kpl kE eEA⟩
          · rw [esu, est']; show (acc.2.2 ++ [_] ++ [_]).length ≤ _; rw [List.length_append, List.length_append]; show _ + 1 + 1 ≤ _; omega
          · rw [esu, est']; show _ ≤ (acc.2.2 ++ [_] ++ [_]).length; rw [List.length_append, List.length_append]; show _ ≤ _ + 1 + 1; omega
    · rintro σ H5 ⟨v5, xs, rfl, k5, co5, ho5, eD5, eE5, hE5, hz5, hy5, hx5, hh5, hm5⟩
      rw [List.length_map] at co5 hE5 hz5 hy5 hx5 hh5
      have eall : lvAcc h t ws c (leaversOf ws c).length = leaveAll h t ws c := by unfold lvAcc leaveAll; rw [List.take_length]
      rw [List.length_map, eall]
      rw [eall] at co5 hE5 hz5 hy5 hx5 hh5
      have ed : depart h t ws c = match (leaversOf ws c).getLast? with
        | some q => if ((stay ws c).home.isEmpty && !(leaveAll h t ws c).2.1) = true then ((closeC h.ks (leaveAll h t ws c).1 q).1, (leaveAll h t ws c).2.2 ++ [(closeC h.ks (leaveAll h t ws c).1 q).2]) else ((leaveAll h t ws c).1, (leaveAll h t ws c).2.2)
        | none => ((leaveAll h t ws c).1, (leaveAll h t ws c).2.2) := rfl
      generalize leaveAll h t ws c = acc at co5 hE5 hz5 hy5 hx5 hh5 ed
      have hfin : ∀ H', Kp2 p ev H H' → Kp p H H' := fun H' kk x o n e => kk x o n (fun z => by rw [z, nHe] at e; cases e) e
      obtain ⟨d5, b1, b2, b3, g1, g2, g3, g4, m1, m2, m3⟩ := id co5
      have done : depart h t ws c = (acc.1, acc.2.2) → Q (.ref ev) H5 := fun e => k H5 ev (hfin _ k5) (by rw [e]; exact co5.at) (by rw [e]; exact ⟨xs, eE5, hE5⟩) (by rw [e]; show acc.2.2.length ≤ 201; omega) ⟨B, hm5, nHB⟩
      refine ⟨_, rfl, _, .inl ⟨_, SqL.of eD5, rfl⟩, ?_⟩
      rw [empty_map]
      cases hgl : (leaversOf ws c).getLast? with
      | none =>
        have hnil : leaversOf ws c = [] := List.getLast?_eq_none_iff.mp hgl
        rw [hgl] at ed
        rw [hnil]
        exact iteF (iteF ⟨_, rfl, done ed⟩)
      | some q =>
        have hne : (leaversOf ws c).isEmpty = false := by
          cases z : leaversOf ws c with
          | nil => rw [z] at hgl; cases hgl
          | cons a b => rfl
        rw [hgl] at ed
        dsimp only at ed
        rw [hne]
        refine iteT ⟨_, rfl, p, CC, d5, _, .ref b1, rfl, g1, C'.cl, C'.nHm, by rfl, _, .inl ⟨_, SqL.of g2, rfl⟩, ?_⟩
        rw [empty_map, hh5]
        cases hse : (stay ws c).home.isEmpty with
        | false =>
          rw [hse, Bool.false_and, if_neg (by decide)] at ed
          exact iteF (iteF ⟨_, rfl, done ed⟩)
        | true =>
          refine iteT ⟨_, rfl, _, rfl, ?_⟩
          cases htk : acc.2.1 with
          | true =>
            rw [hse, htk, if_neg (by decide)] at ed
            exact iteF ⟨_, rfl, done ed⟩
          | false =>
            rw [hse, htk, if_pos (by decide)] at ed
            refine iteT ⟨_, rfl, .inl ⟨rfl, _, SqL.of eE5⟩, _, rfl, p, d5, _, rfl, g1, by rfl, _, rfl, _, rfl, D, _, _, _, rfl, rfl, SqL.of eD5, at_last hgl, p, hp, _, t, acc.1, h, q, rfl, co5.at, ho5, npq, by omega, fun H6 e6 k6 co6 m6 he6 => ?_⟩
            have np6 : ∀ a ys, H5 a = some (.tup ys) → H6 a = some (.tup ys) := fun a ys z => k6 _ _ (fun z' => by rw [z', g1] at z; cases z) z
            have eE6 := k6 _ _ nEp eE5
            have hE6 := hE5.mono np6
            refine ⟨ev, _, _, rfl, rfl, eE6, ?_, ?_⟩
            · rw [hE5.len]; exact Nat.lt_of_le_of_lt (by omega : acc.2.2.length ≤ 200) (by decide)
            have kE : Kp ev H6 (upd H6 ev (.lst (xs ++ [.ref e6]))) := kp_upd
            have tK : ∀ a ys, H6 a = some (.tup ys) → (upd H6 ev (.lst (xs ++ [.ref e6]))) a = some (.tup ys) := fun a ys z => kE _ _ (fun z' => by rw [z', eE6] at z; cases z) z
            have hE7 := (hE6.mono tK).snoc (e := (closeC h.ks acc.1 q).2) (tK _ _ he6)
            have hlv : 1 ≤ (leaversOf ws c).length := by
              cases z : leaversOf ws c with
              | nil => rw [z] at hne; cases hne
              | cons a b => simp
            obtain ⟨y0, ys, exs⟩ := hE5.head (by rw [hE5.len]; omega)
            have co7 := ((co6.ap (x := y0) (xs := ys) (by rw [eE6, exs])).kp kE eE6).at
            refine ⟨_, rfl, k _ ev (hfin _ ((k5.trans (Kp2.p k6)).trans (Kp2.e kE))) (by rw [ed]; exact co7) (by rw [ed]; exact ⟨_, upd_same, hE7⟩) (by rw [ed]; show (acc.2.2 ++ [_]).length ≤ 201; rw [List.length_append]; show _ + 1 ≤ _; omega) ⟨B, (m6 _ hm5).kpl kE eE6, nHB⟩⟩
end
end Dk

set_option Elab.async false
set_option linter.all false
set_option maxRecDepth 100000
set_option maxHeartbeats 2000000
namespace Dk
open PySem PySem.Spec PyProof.Rows L2 TL
/-- all of l are persons of a house of n -/
def InN (n : Nat) (l : List Int) : Prop := ∀ q ∈ l, 0 ≤ q ∧ q < (n : Int)
theorem wishes_len (ts : List Str) (t : Int) : (wishes ts t).length = ts.length := by unfold wishes; rw [List.length_map]
theorem comers_in (ws : List Bool) (home : List Int) : InN ws.length (comersOf ws home) := fun q hq => rg_mem.mp (List.mem_filter.mp hq).1
theorem comers_len (ws : List Bool) (home : List Int) : (comersOf ws home).length ≤ ws.length := by
  have := List.length_filter_le (fun p => wants ws p && !decide (p ∈ home)) (rg ws.length)
  rw [rg_len] at this; exact this
theorem arrive_in {n : Nat} {ws : List Bool} {c : Cs} (hn : ws.length = n) (h : InN n c.home) : InN n (arrive ws c).1.home ∧ (arrive ws c).1.home.length ≤ c.home.length + ws.length ∧ (arrive ws c).1.carr.length ≤ c.carr.length := by
  have hc := comers_in ws c.home
  have hl := comers_len ws c.home
  unfold arrive
  dsimp only
  generalize comersOf ws c.home = cm at hc hl
  split
  · exact ⟨h, Nat.le_add_right _ _, Nat.le_refl _⟩
  · split
    · refine ⟨fun q hq => ?_, ?_, List.length_filter_le _ _⟩
      · rcases List.mem_append.mp ((srt_perm _).mem_iff.mp hq) with hq | hq
        · exact h q hq
        · rw [← hn]; exact hc q hq
      · rw [srt_len, List.length_append]; omega
    · exact ⟨h, Nat.le_add_right _ _, Nat.le_refl _⟩
def spPer (K : PySem.W.Frag) (CH : Addr) : Sp := fun vs H Q _ => ∃ (p : Addr) (h : Hd), vs = [.ref p] ∧ HoAt K CH H p h ∧ Tabs h.ts ∧ ∀ H', Same H H' → Q (.int ((per h.ts : Nat) : Int)) H'
def spPersons (K : PySem.W.Frag) (CH : Addr) : Sp := fun vs H Q _ => ∃ (p : Addr) (h : Hd), vs = [.ref p] ∧ HoAt K CH H p h ∧ ∀ H', Same H H' → Q (.int ((h.ts.length : Nat) : Int)) H'
structure TxtHp (K : PySem.W.Frag) (mg : Str → Option Value) (CH fCP pPe gPe pPs gPs : Addr) (fdCP fdPe fdPs : FuncData) : Prop where
  gCP : mg "common_period" = some (.ref fCP)
  FCP : Fun K "common_period" "common_period" sPeriod fCP fdCP
  bCP : Binds K fdCP ["tables"] []
  poPe : PropOf K CH "period" pPe gPe
  FPe : Fun K "period" "House.period" sPeriodP gPe fdPe
  bPe : Binds K fdPe ["self"] []
  poPs : PropOf K CH "persons" pPs gPs
  FPs : Fun K "persons" "House.persons" sPersonsP gPs fdPs
  bPs : Binds K fdPs ["self"] []
def spCInit (K : PySem.W.Frag) (CC CH : Addr) : Sp := fun vs H Q _ => ∃ (p dx hp : Addr) (h : Hd), vs = [.ref p, .ref hp] ∧ H p = some (.ins CC dx []) ∧ HoAt K CH H hp h ∧ hp ≠ p ∧ Tabs h.ts ∧ h.ts.length ≤ 6 ∧
  ∀ H', Kp p H H' → CoAt CC H' p hp ((per h.ts : Nat) : Int) (-1) ⟨rg h.ts.length, [], [], false⟩ → (∃ a, HomeAt H' p a ∧ H a = none) → Q .non H'
/-- a scene -/
abbrev Sc := Int × List Int × List Int × Bool
def scOf (n : Int) (t : Int) (c : Cs) : Sc := (t % n, c.wait, c.carr, c.opn)
def ScAt (H : Hp) (a : Addr) (x : Sc) : Prop := ∃ b d, H a = some (.tup [.int x.1, .ref b, .ref d, .bl x.2.2.2]) ∧ H b = some (.tup (x.2.1.map V.int)) ∧ H d = some (.tup (x.2.2.1.map V.int))
theorem ScAt.mono {H H' : Hp} {a : Addr} {x : Sc} (h : ScAt H a x) (s : ∀ t ys, H t = some (.tup ys) → H' t = some (.tup ys)) : ScAt H' a x := by
  obtain ⟨b, d, e1, e2, e3⟩ := h
  exact ⟨b, d, s _ _ e1, s _ _ e2, s _ _ e3⟩
def spScene (CC : Addr) : Sp := fun vs H Q _ => ∃ (p hp : Addr) (sp t : Int) (c : Cs), vs = [.ref p] ∧ CoAt CC H p hp sp t c ∧ 0 < sp ∧ ∀ H' a, Same H H' → ScAt H' a (scOf sp t c) → Q (.ref a) H'
def spAdv (K : PySem.W.Frag) (CC CH : Addr) : Sp := fun vs H Q _ => ∃ (p hp : Addr) (t : Int) (c : Cs) (h : Hd), vs = [.ref p] ∧ CoAt CC H p hp ((per h.ts : Nat) : Int) t c ∧ HoAt K CH H hp h ∧ hp ≠ p ∧ Tabs h.ts ∧ h.ts.length ≤ 6 ∧ InN h.ts.length c.home ∧ c.home.length ≤ 50 ∧ c.carr.length ≤ 50 ∧
  ∀ (H' : Hp) (e : Addr), Kp p H H' → CoAt CC H' p hp ((per h.ts : Nat) : Int) (t + 1) (adv h (t + 1) c).1 → EvAt H' e (t + 1) (adv h (t + 1) c).2 → (∃ a, HomeAt H' p a ∧ H a = none) → Q (.ref e) H'
structure TxtAd (K : PySem.W.Frag) (CC fAr fDp fCE fTh fTk fCl : Addr) (fdAr fdDp fdCE fdTh fdTk fdCl : FuncData) : Prop where
  mAr : Meth K CC "_arrive" fAr
  FAr : Fun K "_arrive" "Course._arrive" sArrive fAr fdAr
  bAr : Binds K fdAr ["self", "wishes"] []
  mDp : Meth K CC "_depart" fDp
  FDp : Fun K "_depart" "Course._depart" sDepart fDp fdDp
  bDp : Binds K fdDp ["self", "wishes"] []
  ce : TxtCE K CC fCE fdCE
  dp : TxtDp K CC fTh fTk fCl fdTh fdTk fdCl
section
variable {P : Program} {w : World} {K : PySem.W.Frag} {mg : Str → Option Value} {base : Heap} {CC CH fHL : Addr} {fdHL : FuncData} {fAr fDp fCE fTh fTk fCl : Addr} {fdAr fdDp fdCE fdTh fdTk fdCl : FuncData} {fCP pPe gPe pPs gPs : Addr} {fdCP fdPe fdPs : FuncData}
theorem ok_per (HP : TxtHp K mg CH fCP pPe gPe pPs gPs fdCP fdPe fdPs) (C' : TxtCo K mg CC CH fHL fdHL) (T : TxtA mg) (TC : TxtC mg) : FnOk P w K mg base CX0 2 gPe fdPe ["self"] (spPer K CH) := by
  have GP : FnOk P w K mg base CX0 1 fCP fdCP ["tables"] (spPeriod K) := ok_period HP.FCP T TC
  refine HP.FPe.ok (N := ["self"]) ⟨rfl, rfl, rfl, by decide +kernel, rfl, by decide +kernel, by decide +kernel⟩ (fun vs H Q E h => ?_) (fun cdv A outer s H vs Q E hr h => ?_)
  · obtain ⟨p, h, rfl, _⟩ := h
    rfl
  · obtain ⟨p, h, rfl, ⟨⟨d, bT, bC, bR, xs, g1, g2, g3, g4, g5⟩⟩, hT, k⟩ := h
    refine ⟨_, pss_one (ps_ret (pe_call GP hr rfl HP.gCP HP.FCP.kp HP.bCP .nil pass0 (pa_cons (pe_fld (pv 0) rfl) pa_nil))), ?_⟩
    exact ⟨_, rfl, p, CH, d, _, _, rfl, g1, C'.clH, C'.nT, hf_tables _ _ _ _, bT, h.ts, rfl, g2, hT, k H (Same.refl H)⟩
theorem ok_persons (HP : TxtHp K mg CH fCP pPe gPe pPs gPs fdCP fdPe fdPs) (C' : TxtCo K mg CC CH fHL fdHL) (T : TxtA mg) : FnOk P w K mg base CX0 1 gPs fdPs ["self"] (spPersons K CH) := by
  refine HP.FPs.ok (N := ["self"]) ⟨rfl, rfl, rfl, by decide +kernel, rfl, by decide +kernel, by decide +kernel⟩ (fun vs H Q E h => ?_) (fun cdv A outer s H vs Q E hr h => ?_)
  · obtain ⟨p, h, rfl, _⟩ := h
    rfl
  · obtain ⟨p, h, rfl, ⟨⟨d, bT, bC, bR, xs, g1, g2, g3, g4, g5⟩⟩, k⟩ := h
    refine ⟨_, pss_one (ps_ret (pe_callB call_len_seq (by rfl) T.len PySem.boot_len (pa_cons (pe_fld (pv 0) rfl) pa_nil))), ?_⟩
    refine ⟨_, rfl, p, CH, d, _, _, rfl, g1, C'.clH, C'.nT, hf_tables _ _ _ _, bT, _, rfl, .inr g2, ?_⟩
    rw [List.length_map]
    exact k H (Same.refl H)
theorem scScene : FnScope ["self"] ["self"] (defScope sScene) := ⟨rfl, rfl, rfl, by decide +kernel, rfl, by decide +kernel, by decide +kernel⟩
theorem ok_scene {f : Addr} {fd : FuncData} (F : Fun K "scene" "Course.scene" sScene f fd) (C' : TxtCo K mg CC CH fHL fdHL) : FnOk P w K mg base CX0 1 f fd ["self"] (spScene CC) := by
  refine F.ok scScene (fun vs H Q E h => ?_) (fun cdv A outer s H vs Q E hr h => ?_)
  · obtain ⟨p, hp, sp, t, c, rfl, _⟩ := h
    rfl
  · obtain ⟨p, hp, sp, t, c, rfl, ⟨dx, aH, aW, aC, e1, e2, e3, e4⟩, h0, k⟩ := h
    refine ⟨_, pss_one (ps_ret (pe_tup (pa_cons (pe_op op_mod (pe_fld (pv 0) rfl) (pe_fld (pv 0) rfl)) (pa_cons (pe_callTy call_tuple_of (by rfl) C'.tuple (by decide +kernel) (pa_cons (pe_fld (pv 0) rfl) pa_nil)) (pa_cons (pe_callTy call_tuple_of (by rfl) C'.tuple (by decide +kernel) (pa_cons (pe_fld (pv 0) rfl) pa_nil)) (pa_cons (pe_fld (pv 0) rfl) pa_nil)))))), ?_⟩
    refine ⟨_, rfl, p, CC, dx, _, .int t, rfl, e1, C'.cl, C'.nTk, by rfl, _, rfl, p, CC, dx, _, .int sp, rfl, e1, C'.cl, C'.nSp, by rfl, _, _, rfl, rfl, h0, ?_⟩
    refine ⟨_, rfl, p, CC, dx, _, .ref aW, rfl, e1, C'.cl, C'.nWt, by rfl, aW, _, rfl, .inl ⟨SqL.of e3, fun a1 ha1 => ?_⟩⟩
    have s1 := same_upd (o := .tup (c.wait.map V.int)) ha1
    have f1 : (upd H a1 (.tup (c.wait.map V.int))) a1 = some (.tup (c.wait.map V.int)) := upd_same
    generalize upd H a1 (.tup (c.wait.map V.int)) = H1 at s1 f1
    refine ⟨_, rfl, p, CC, dx, _, .ref aC, rfl, s1 _ _ e1, C'.cl, C'.nCr, by rfl, aC, _, rfl, .inl ⟨SqL.of (s1 _ _ e4), fun a2 ha2 => ?_⟩⟩
    have s2 := same_upd (o := .tup (c.carr.map V.int)) ha2
    have f2 : (upd H1 a2 (.tup (c.carr.map V.int))) a2 = some (.tup (c.carr.map V.int)) := upd_same
    generalize upd H1 a2 (.tup (c.carr.map V.int)) = H2 at s2 f2
    refine ⟨_, rfl, p, CC, dx, _, .bl c.opn, rfl, s2 _ _ (s1 _ _ e1), C'.cl, C'.nUn, by rfl, by show 4 ≤ sizeLine; decide, fun u hu => ?_⟩
    have s3 := same_upd (o := .tup [.int (t % sp), .ref a1, .ref a2, .bl c.opn]) hu
    exact k _ u ((s1.trans s2).trans s3) ⟨a1, a2, upd_same, s3 _ _ (s2 _ _ f1), s3 _ _ f2⟩
theorem scCInit : FnScope ["self", "house"] ["self", "house"] (defScope sCInit) := ⟨rfl, rfl, rfl, by decide +kernel, rfl, by decide +kernel, by decide +kernel⟩
theorem rgV_rg (n : Nat) : rgV 0 (n : Int) = (rg n).map V.int := by
  unfold rgV rg
  rw [List.map_map, Int.sub_zero, Int.toNat_natCast]
  exact List.map_congr_left fun k _ => by show V.int (0 + (k : Int)) = V.int (k : Int); rw [Int.zero_add]
theorem ok_cinit {f : Addr} {fd : FuncData} (F : Fun K "__init__" "Course.__init__" sCInit f fd) (C' : TxtCo K mg CC CH fHL fdHL) (HP : TxtHp K mg CH fCP pPe gPe pPs gPs fdCP fdPe fdPs) (T : TxtA mg) (TC : TxtC mg) : FnOk P w K mg base CX0 4 f fd ["self", "house"] (spCInit K CC CH) := by
  have GPe : FnOk P w K mg base CX0 2 gPe fdPe ["self"] (spPer K CH) := ok_per HP C' T TC
  have GPs : FnOk P w K mg base CX0 1 gPs fdPs ["self"] (spPersons K CH) := ok_persons HP C' T
  refine F.ok scCInit (fun vs H Q E h => ?_) (fun cdv A outer s H vs Q E hr h => ?_)
  · obtain ⟨p, dx, hp, h, rfl, _⟩ := h
    rfl
  · obtain ⟨p, dx, hp, h, rfl, e1, hho, npq, hT, h6, k⟩ := h
    have hr2 : Room 2 (A.deeper (envOfC (Str.ofString "Course.__init__") (defScope sCInit) s.heap.objs.size f cdv)) := hr.mono (by decide)
    refine ⟨_, pss_cons (ps_fld (pv 0) (pv 1) rfl) (pss_cons (ps_fld (pv 0) (pe_prop (pv 1) C'.clH HP.poPe GPe hr HP.bPe .nil pass0 rfl) rfl) (pss_cons (ps_fld (pv 0) (pe_un un_neg pe_int) rfl)
      (pss_cons (ps_fld (pv 0) (pe_listRg rfl (by rfl) C'.list (prg_1 (by rfl) T.range (pe_prop (pv 1) C'.clH HP.poPs GPs hr2 HP.bPs .nil pass0 rfl))) rfl)
      (pss_cons (ps_fld (pv 0) (pe_lst pa_nil) rfl) (pss_cons (ps_fld (pv 0) (pe_lst pa_nil) rfl) (pss_one (ps_fld (pv 0) pe_bl rfl))))))), ?_⟩
    have k1 : Kp p H (upd H p (.ins CC dx (putF "house" (.ref hp) []))) := kp_upd
    have ho1 := hho.kp k1 e1 npq
    obtain ⟨d, _, _, _, _, g1, _⟩ := id ho1.ex.ex
    refine ⟨_, rfl, _, rfl, p, CC, dx, _, rfl, e1, C'.cl, C'.nHo, by show 0 < 1000; decide, ?_⟩
    refine ⟨_, rfl, hp, d, _, rfl, g1, hp, h, rfl, ho1, hT, fun H2 s2 => ?_⟩
    have e2 := s2 _ _ (upd_same (H := H) (a := p) (o := .ins CC dx (putF "house" (.ref hp) [])))
    refine ⟨_, rfl, p, CC, dx, _, rfl, e2, C'.cl, C'.nSp, by show 1 < 1000; decide, ?_⟩
    refine ⟨_, rfl, _, rfl, p, CC, dx, _, rfl, upd_same, C'.cl, C'.nTk, by show 2 < 1000; decide, ?_⟩
    rw [upd_upd]
    have ho2 := ho1.mono s2
    generalize eF : putF "tick" (V.int (-1)) (putF "span" (V.int ((per h.ts : Nat) : Int)) (putF "house" (V.ref hp) [])) = fs
    have k3 : Kp p H2 (upd H2 p (.ins CC dx fs)) := kp_upd
    have ho3 := ho2.kp k3 e2 npq
    obtain ⟨d3, _, _, _, _, g3, _⟩ := id ho3.ex.ex
    refine ⟨_, rfl, hp, d3, _, rfl, g3, hp, h, rfl, ho3, fun H4 s4 => ⟨_, rfl, RgOk.of_le (by decide) (by omega) (by decide) (by omega), fun q hq => ?_⟩⟩
    rw [rgV_rg]
    have e4 := s4 _ _ (upd_same (H := H2) (a := p) (o := .ins CC dx fs))
    have s5 := same_upd (o := .lst ((rg h.ts.length).map V.int)) hq
    have eq5 : (upd H4 q (.lst ((rg h.ts.length).map V.int))) q = some (.lst ((rg h.ts.length).map V.int)) := upd_same
    have e5 := s5 _ _ e4
    have kA : Kp p H (upd H4 q (.lst ((rg h.ts.length).map V.int))) := (((k1.trans (sKp s2)).trans k3).trans (sKp s4)).trans (sKp s5)
    have nq : q ≠ p := (ne_of_none e4 hq).symm
    generalize upd H4 q (.lst ((rg h.ts.length).map V.int)) = H5 at s5 eq5 e5 kA
    refine ⟨_, rfl, p, CC, dx, _, rfl, e5, C'.cl, C'.nHm, by rw [← eF]; show 3 < 1000; decide, ?_⟩
    refine ⟨Nat.zero_le _, fun q2 hq2 => ⟨_, rfl, p, CC, dx, _, rfl, same_upd hq2 _ _ upd_same, C'.cl, C'.nWt, by rw [← eF]; show 4 < 1000; decide, ?_⟩⟩
    have n2 : q2 ≠ p := (ne_of_none upd_same hq2).symm
    have nq2 : q ≠ q2 := ne_of_none (by rw [upd_ne nq]; exact eq5) hq2
    refine ⟨Nat.zero_le _, fun q3 hq3 => ⟨_, rfl, p, CC, dx, _, rfl, same_upd hq3 _ _ upd_same, C'.cl, C'.nCr, by rw [← eF]; show 5 < 1000; decide, ?_⟩⟩
    have n3 : q3 ≠ p := (ne_of_none upd_same hq3).symm
    have nq3 : q ≠ q3 := ne_of_none (by rw [upd_ne nq, upd_ne nq2, upd_ne nq]; exact eq5) hq3
    have n23 : q2 ≠ q3 := ne_of_none (by rw [upd_ne n2]; exact upd_same) hq3
    refine ⟨_, rfl, p, CC, dx, _, rfl, upd_same, C'.cl, C'.nUn, by rw [← eF]; show 6 < 1000; decide, ?_⟩
    rw [← eF]
    have nHq : H q = none := by
      cases z : H q with
      | none => rfl
      | some o =>
        have := ((((k1.trans (sKp s2)).trans k3).trans (sKp s4))) _ _ nq z
        rw [hq] at this; cases this
    refine k _ (fun b o nb hb => ?_) ⟨dx, q, q2, q3, upd_same, ?_, ?_, ?_⟩ ⟨q, ⟨_, _, _, upd_same, by rfl⟩, nHq⟩
    · have := kA _ _ nb hb
      have nb2 : b ≠ q2 := ne_of_none (by rw [upd_ne nb]; exact this) hq2
      have nb3 : b ≠ q3 := ne_of_none (by rw [upd_ne nb, upd_ne nb2, upd_ne nb]; exact this) hq3
      rw [upd_ne nb, upd_ne nb, upd_ne nb3, upd_ne nb, upd_ne nb2, upd_ne nb]; exact this
    · rw [upd_ne nq, upd_ne nq, upd_ne nq3, upd_ne nq, upd_ne nq2, upd_ne nq]; exact eq5
    · rw [upd_ne n2, upd_ne n2, upd_ne n23, upd_ne n2]; exact upd_same
    · rw [upd_ne n3, upd_ne n3]; exact upd_same
abbrev nAdv : List Str := ["self", "wishes", "table", "arrivals"]
theorem scAdv : FnScope nAdv ["self"] (defScope sAdv) := ⟨rfl, rfl, rfl, by decide +kernel, rfl, by decide +kernel, by decide +kernel⟩
theorem ok_adv {f : Addr} {fd : FuncData} (F : Fun K "advance" "Course.advance" sAdv f fd) (C' : TxtCo K mg CC CH fHL fdHL) (T : TxtA mg) (AD : TxtAd K CC fAr fDp fCE fTh fTk fCl fdAr fdDp fdCE fdTh fdTk fdCl) : FnOk P w K mg base CX0 4 f fd ["self"] (spAdv K CC CH) := by
  have GH : FnOk P w K mg base CX0 1 fHL fdHL ["table", "tick"] spHome := ok_home C' T
  have GA : FnOk P w K mg base CX0 2 fAr fdAr ["self", "wishes"] (spArrive CC) := ok_arrive AD.FAr C' AD.ce
  have GD : FnOk P w K mg base CX0 3 fDp fdDp ["self", "wishes"] (spDepart K CC CH) := ok_depart AD.FDp C' T AD.dp
  refine F.ok scAdv (fun vs H Q E h => ?_) (fun cdv A outer s H vs Q E hr h => ?_)
  · obtain ⟨p, hp, t, c, h, rfl, _⟩ := h
    rfl
  · obtain ⟨p, hp, t, c, h, rfl, ⟨dx, aH, aW, aC, e1, e2, e3, e4⟩, hho, npq, hT, h6, hin, hzh, hzc, k⟩ := h
    have hr1 : Room 1 (A.deeper (envOfC (Str.ofString "Course.advance") (defScope sAdv) s.heap.objs.size f cdv)) := hr.mono (by decide)
    have hr2 : Room 2 (A.deeper (envOfC (Str.ofString "Course.advance") (defScope sAdv) s.heap.objs.size f cdv)) := hr.mono (by decide)
    refine ⟨_, pss_cons (ps_fldaug (pv 0) pe_int in_add)
      (pss_cons (ps_setLc (own := [("table", 2)]) (i := 1) (g := gName 2) (by rfl) scAdv.nd rfl rfl (sw_true rfl rfl (by rfl) (by rfl)) (pi_tup (pe_fld (pe_fld (pv 0) rfl) rfl)) (blkOk_by (N := nAdv) (sc := defScope sAdv) (by decide +kernel))
        (fun _ _ _ _ _ => pg_name (i := 2) scAdv.nd rfl (Or.inl rfl)) (fun _ _ _ _ _ => pts_nil) (fun _ _ _ _ _ => pe_call GH hr1 rfl C'.gHL C'.FHL.kp C'.bHL .nil pass0 (pa_cons (pv 2) (pa_cons (pe_fldK (K := K) rfl (pv 0) rfl) pa_nil))))
      (pss_cons (ps_set (i := 3) scAdv.nd rfl (.inl rfl) (pe_meth (pv 0) C'.cl AD.mAr GA hr2 AD.bAr .nil pass0 (pa_cons (pv 1) pa_nil)))
      (pss_one (ps_ret (pe_op op_cat (pv 3) (pe_meth (pv 0) C'.cl AD.mDp GD hr AD.bDp .nil pass0 (pa_cons (pv 1) pa_nil))))))), ?_⟩
    refine ⟨_, rfl, p, CC, dx, _, .int t, rfl, e1, C'.cl, C'.nTk, by rfl, _, _, rfl, rfl, dx, _, e1, by show 7 < 1000; decide, ?_⟩
    rw [putF_tick]
    have k1 : Kp p H (upd H p (.ins CC dx (cFields (.ref hp) (.int ((per h.ts : Nat) : Int)) (.int (t + 1)) (.ref aH) (.ref aW) (.ref aC) (.bl c.opn)))) := kp_upd
    have np : ∀ a xs, H a = some (.lst xs) → a ≠ p := fun a xs ha z => by rw [z, e1] at ha; cases ha
    have f1 : (upd H p (.ins CC dx (cFields (.ref hp) (.int ((per h.ts : Nat) : Int)) (.int (t + 1)) (.ref aH) (.ref aW) (.ref aC) (.bl c.opn)))) p = some (.ins CC dx (cFields (.ref hp) (.int ((per h.ts : Nat) : Int)) (.int (t + 1)) (.ref aH) (.ref aW) (.ref aC) (.bl c.opn))) := upd_same
    have f2 := k1 _ _ (np _ _ e2) e2
    have f3 := k1 _ _ (np _ _ e3) e3
    have f4 := k1 _ _ (np _ _ e4) e4
    have ho1 := hho.kp k1 e1 npq
    generalize upd H p (.ins CC dx (cFields (.ref hp) (.int ((per h.ts : Nat) : Int)) (.int (t + 1)) (.ref aH) (.ref aW) (.ref aC) (.bl c.opn))) = H1 at k1 f1 f2 f3 f4 ho1
    obtain ⟨d, bT, bC, bR, xs, g1, g2, _⟩ := id ho1.ex.ex
    refine ⟨_, rfl, p, CC, dx, _, .ref hp, rfl, f1, C'.cl, C'.nHo, by rfl, hp, CH, d, _, .ref bT, rfl, g1, C'.clH, C'.nT, hf_tables _ _ _ _, bT, rfl, ⟨_, g2⟩, fun D hD => lc_tup (K := K) (a := bT) (xs := h.ts.map V.str)
      (fun i H3 => Same H1 H3 ∧ H3 D = some (.lst (((h.ts.take i).map fun x => homeL x (t + 1)).map V.bl))) ⟨same_upd hD, upd_same⟩ (fun i H3 _ ⟨e, _⟩ => sSqT e g2) ?_ ?_⟩
    · rintro i y H3 hi ⟨s3, eD⟩
      obtain ⟨x, hx, rfl⟩ := map_at hi
      have hil : i < h.ts.length := (List.getElem?_eq_some_iff.mp hx).1
      refine ⟨rfl, _, rfl, _, rfl, p, CC, dx, _, .int (t + 1), rfl, s3 _ _ f1, C'.cl, C'.nTk, by rfl, x, t + 1, rfl, hT x (List.mem_of_getElem? hx), fun H4 s4 => ⟨_, s4 _ _ eD, ?_, fun b o eb => ?_, ?_⟩⟩
      · rw [List.length_map, List.length_map, List.length_take]
        exact Nat.lt_of_le_of_lt (Nat.le_trans (Nat.min_le_left _ _) (by omega : i ≤ 100)) (by decide)
      · rw [upd_ne (ne_of_none eb hD)]; exact s4 _ _ (s3 _ _ eb)
      · rw [upd_same, take_more hx, List.map_append, List.map_append]; rfl
    rintro H3 ⟨s3, eD⟩
    rw [List.length_map, List.take_length] at eD
    have ews : (h.ts.map fun x => homeL x (t + 1)) = wishes h.ts (t + 1) := rfl
    rw [ews] at eD
    have hwl := wishes_len h.ts (t + 1)
    have eadv : adv h (t + 1) c = ((depart h (t + 1) (wishes h.ts (t + 1)) (arrive (wishes h.ts (t + 1)) c).1).1, (arrive (wishes h.ts (t + 1)) c).2 ++ (depart h (t + 1) (wishes h.ts (t + 1)) (arrive (wishes h.ts (t + 1)) c).1).2) := rfl
    generalize wishes h.ts (t + 1) = ws at eD hwl eadv
    have nD : D ≠ p := (ne_of_none f1 hD).symm
    have co3 : CoAt CC H3 p hp ((per h.ts : Nat) : Int) (t + 1) c := ⟨dx, aH, aW, aC, s3 _ _ f1, s3 _ _ f2, s3 _ _ f3, s3 _ _ f4⟩
    refine ⟨_, rfl, p, dx, _, rfl, s3 _ _ f1, by rfl, _, rfl, p, hp, D, _, t + 1, c, ws, rfl, co3, eD, by omega, by omega, by omega, fun H4 e k4 co4 hev4 => ?_⟩
    obtain ⟨xs4, eE4, hE4⟩ := hev4
    obtain ⟨j1, j2, j3⟩ := arrive_in (n := h.ts.length) hwl hin
    have ho4 := (ho1.mono s3).kp k4 (s3 _ _ f1) npq
    have eD4 := k4 _ _ nD eD
    have hal : (arrive ws c).2.length ≤ 6 := by
      have := comers_len ws c.home
      unfold arrive
      dsimp only
      split
      · exact Nat.zero_le _
      · split <;> (rw [List.length_map]; omega)
    obtain ⟨d4, c1, c2, c3, w1, w2, w3, w4⟩ := id co4
    refine ⟨_, rfl, _, rfl, p, d4, _, rfl, w1, by rfl, _, rfl, p, hp, D, t + 1, (arrive ws c).1, h, ws, rfl, co4, ho4, npq, per_pos hT, eD4, fun q hq => ?_, by omega, by omega, fun H5 e5 k5 co5 hev5 hl5 hm5 => ?_⟩
    · have := j1 q hq; rw [hwl]; exact this
    obtain ⟨xs5, eE5, hE5⟩ := hev5
    have ne : e ≠ p := fun z => by rw [z, w1] at eE4; cases eE4
    have hE45 := hE4.mono (kp_tup2 k5 w1)
    refine ⟨e, e5, _, _, rfl, rfl, k5 _ _ ne eE4, eE5, ?_, fun q hq => ?_⟩
    · rw [hE4.len, hE5.len]; exact Nat.le_trans (by omega : _ ≤ 210) (by decide)
    have s6 := same_upd (o := .lst (xs4 ++ xs5)) hq
    refine k _ q ((((k1.trans (sKp s3)).trans k4).trans k5).trans (sKp s6)) (by rw [eadv]; exact co5.mono s6) (by rw [eadv]; exact ⟨_, upd_same, (hE45.app hE5).mono fun a ys z => s6 _ _ z⟩) (by
      obtain ⟨a, ha, hn⟩ := hm5
      refine ⟨a, ha.mono s6, ?_⟩
      cases z : H a with
      | none => rfl
      | some o =>
        have nap : a ≠ p := fun e => by rw [e, w1] at hn; cases hn
        have := ((k1.trans (sKp s3)).trans k4) _ _ nap z
        rw [hn] at this; cases this)
end
end Dk

set_option Elab.async false
set_option linter.all false
set_option maxRecDepth 100000
set_option maxHeartbeats 1000000
namespace Dk
open PySem PySem.Spec PyProof.Rows L2 TL
/-! ### what holds after every tick -/
abbrev Up (l : List Int) : Prop := l.Pairwise (· < ·)
theorem up_nodup {l : List Int} (h : Up l) : l.Nodup := List.Pairwise.imp (fun h => Int.ne_of_lt h) h
theorem up_of {l : List Int} (h : l.Pairwise (· ≤ ·)) (n : l.Nodup) : Up l := by
  induction l with
  | nil => exact .nil
  | cons a l ih =>
    obtain ⟨h1, h2⟩ := List.pairwise_cons.mp h
    obtain ⟨n1, n2⟩ := List.nodup_cons.mp n
    refine List.pairwise_cons.mpr ⟨fun x hx => ?_, ih h2 n2⟩
    have := h1 x hx
    have hne : a ≠ x := fun e => n1 (by rw [e]; exact hx)
    show a < x
    omega
theorem srt_up {l : List Int} (n : l.Nodup) : Up (srt l) := up_of (srt_sorted l) ((srt_perm l).nodup_iff.mpr n)
theorem srt_mem {l : List Int} {q : Int} : q ∈ srt l ↔ q ∈ l := (srt_perm l).mem_iff
theorem srt_self {l : List Int} (h : Up l) : srt l = l := (srt_uniq (List.Perm.refl _) (List.Pairwise.imp Int.le_of_lt h)).symm
theorem rg_up : ∀ n : Nat, Up (rg n)
  | 0 => .nil
  | n + 1 => by
    rw [rg_succ]
    refine List.pairwise_append.mpr ⟨rg_up n, List.pairwise_singleton _ _, fun x hx y hy => ?_⟩
    rw [List.mem_singleton.mp hy]
    exact (rg_mem.mp hx).2
theorem up_len {n : Nat} {l : List Int} (h : Up l) (i : InN n l) : l.length ≤ n := by
  have key : ∀ j, (hj : j < l.length) → (j : Int) ≤ l[j] := by
    intro j
    induction j with
    | zero => intro hj; exact (i _ (List.getElem_mem hj)).1
    | succ j ih =>
      intro hj
      have h1 := ih (by omega)
      have h2 : l[j] < l[j + 1] := List.pairwise_iff_getElem.mp h j (j + 1) (by omega) hj (by omega)
      omega
  cases hl : l.length with
  | zero => exact Nat.zero_le _
  | succ m =>
    have hm : m < l.length := by omega
    have h1 := key m hm
    have h2 := (i _ (List.getElem_mem hm)).2
    omega
theorem InN.mono {n : Nat} {l m : List Int} (h : InN n l) (s : ∀ q ∈ m, q ∈ l) : InN n m := fun q hq => h q (s q hq)
structure Gd (n : Nat) (c : Cs) : Prop where
  hu : Up c.home
  hi : InN n c.home
  cu : Up c.carr
  ci : InN n c.carr
  wu : Up c.wait
  wi : InN n c.wait
  dj : ∀ q ∈ c.home, q ∉ c.carr
  op : c.opn = true → c.home = []
theorem nodup_app {l m : List Int} (h1 : l.Nodup) (h2 : m.Nodup) (d : ∀ q ∈ m, q ∉ l) : (l ++ m).Nodup :=
  List.nodup_append.mpr ⟨h1, h2, fun a ha b hb e => d b hb (by rw [← e]; exact ha)⟩
theorem gd_arrive {n : Nat} {ws : List Bool} {c : Cs} (hn : ws.length = n) (h : Gd n c) : Gd n (arrive ws c).1 := by
  have hc := comers_in ws c.home
  have hcu : Up (comersOf ws c.home) := List.Pairwise.filter _ (rg_up _)
  have hcd : ∀ q ∈ comersOf ws c.home, q ∉ c.home := fun q hq => by
    have := (List.mem_filter.mp hq).2
    simp at this
    exact this.2
  unfold arrive
  dsimp only
  generalize comersOf ws c.home = cm at hc hcu hcd
  rw [hn] at hc
  split
  · exact ⟨h.hu, h.hi, h.cu, h.ci, .nil, fun q hq => (by cases hq), h.dj, h.op⟩
  · split
    · refine ⟨srt_up (nodup_app (up_nodup h.hu) (up_nodup hcu) hcd), fun q hq => ?_, List.Pairwise.filter _ h.cu, h.ci.mono fun q hq => (List.mem_filter.mp hq).1, .nil, fun q hq => (by cases hq), fun q hq hq2 => ?_, fun e => (by cases e)⟩
      · rcases List.mem_append.mp (srt_mem.mp hq) with hq | hq
        · exact h.hi q hq
        · exact hc q hq
      · obtain ⟨c1, c2⟩ := List.mem_filter.mp hq2
        rcases List.mem_append.mp (srt_mem.mp hq) with hq | hq
        · exact h.dj q hq c1
        · simp at c2; exact c2 hq
    · exact ⟨h.hu, h.hi, h.cu, h.ci, hcu, hc, h.dj, h.op⟩
/-- while the leavers leave -/
structure Lv (n : Nat) (c0 : Cs) (a : Cs × Bool × List Ev) (rest : List Int) : Prop where
  cu : Up a.1.carr
  ci : InN n a.1.carr
  hm : a.1.home = c0.home
  wt : a.1.wait = c0.wait
  op : a.1.opn = c0.opn
  dr : ∀ q ∈ rest, q ∉ a.1.carr
  dh : ∀ q ∈ c0.home, q ∉ a.1.carr
  nt : a.2.1 = false → a.1.carr = c0.carr
theorem take_carr {ks : Int} {c : Cs} {p : Int} : (takeKey ks c p).2 = true → (takeKey ks c p).1 = { c with carr := srt (c.carr ++ [p]) } := by
  unfold takeKey
  split
  · intro h; cases h
  · intro _; rfl
theorem take_no {ks : Int} {c : Cs} {p : Int} : (takeKey ks c p).2 = false → (takeKey ks c p).1 = c := by
  unfold takeKey
  split
  · intro _; rfl
  · intro h; cases h
theorem lv_step {n : Nat} {hd : Hd} {t : Int} {c0 : Cs} {a : Cs × Bool × List Ev} {q : Int} {rest : List Int} (h : Lv n c0 a (q :: rest)) (hq : 0 ≤ q ∧ q < (n : Int)) (hnd : q ∉ rest) (hh : q ∉ c0.home) : Lv n c0 (leaveStep hd t a q) rest := by
  have same : ∀ b e, (b = false → a.2.1 = false) → Lv n c0 (a.1, b, e) rest := fun b e hb => ⟨h.cu, h.ci, h.hm, h.wt, h.op, fun x hx => h.dr x (List.mem_cons_of_mem _ hx), h.dh, fun z => h.nt (hb z)⟩
  unfold leaveStep
  split
  · split
    · rename_i h2
      rw [take_carr h2]
      have hqc : q ∉ a.1.carr := h.dr q (List.mem_cons_self ..)
      have mem : ∀ x, x ∈ srt (a.1.carr ++ [q]) → x ∈ a.1.carr ∨ x = q := fun x hx => by
        rcases List.mem_append.mp (srt_mem.mp hx) with hx | hx
        · exact .inl hx
        · exact .inr (List.mem_singleton.mp hx)
      refine ⟨srt_up (nodup_app (up_nodup h.cu) (by simp) fun x hx => by rw [List.mem_singleton.mp hx]; exact hqc), fun x hx => ?_, h.hm, h.wt, h.op, fun x hx hx2 => ?_, fun x hx hx2 => ?_, fun z => (by cases z)⟩
      · rcases mem x hx with hx | rfl
        · exact h.ci x hx
        · exact hq
      · rcases mem x hx2 with hx2 | rfl
        · exact h.dr x (List.mem_cons_of_mem _ hx) hx2
        · exact hnd hx
      · rcases mem x hx2 with hx2 | rfl
        · exact h.dh x hx hx2
        · exact hh hx
    · rename_i h2
      rw [take_no (by simpa using h2)]
      exact same _ _ fun z => z
  · exact same _ _ fun z => z
theorem lv_all {n : Nat} {hd : Hd} {t : Int} {c0 : Cs} : ∀ (lv : List Int) (a : Cs × Bool × List Ev), Lv n c0 a lv → InN n lv → lv.Nodup → (∀ q ∈ lv, q ∉ c0.home) → Lv n c0 (lv.foldl (leaveStep hd t) a) []
  | [], a, h, _, _, _ => h
  | q :: r, a, h, hi, hn, hh => by
    obtain ⟨n1, n2⟩ := List.nodup_cons.mp hn
    exact lv_all r _ (lv_step h (hi q (List.mem_cons_self ..)) n1 (hh q (List.mem_cons_self ..))) (fun x hx => hi x (List.mem_cons_of_mem _ hx)) n2 fun x hx => hh x (List.mem_cons_of_mem _ hx)
theorem gd_depart {n : Nat} {hd : Hd} {t : Int} {ws : List Bool} {c : Cs} (h : Gd n c) : Gd n (depart hd t ws c).1 := by
  have hst : ∀ q ∈ (stay ws c).home, q ∈ c.home := fun q hq => (List.mem_filter.mp hq).1
  have hlv : ∀ q ∈ leaversOf ws c, q ∈ c.home := fun q hq => (List.mem_filter.mp hq).1
  have hap : ∀ q ∈ leaversOf ws c, q ∉ (stay ws c).home := fun q hq hq2 => by
    have h1 := (List.mem_filter.mp hq).2
    have h2 := (List.mem_filter.mp hq2).2
    rw [h2] at h1; cases h1
  have L0 : Lv n (stay ws c) (stay ws c, false, []) (leaversOf ws c) := ⟨h.cu, h.ci, rfl, rfl, rfl, fun q hq => h.dj q (hlv q hq), fun q hq => h.dj q (hst q hq), fun _ => rfl⟩
  have L := lv_all (hd := hd) (t := t) _ _ L0 (h.hi.mono hlv) (up_nodup (List.Pairwise.filter _ h.hu)) hap
  have eL : (leaversOf ws c).foldl (leaveStep hd t) (stay ws c, false, []) = leaveAll hd t ws c := rfl
  rw [eL] at L
  have hsu : Up (stay ws c).home := List.Pairwise.filter _ h.hu
  have base : Gd n (leaveAll hd t ws c).1 := by
    refine ⟨by rw [L.hm]; exact hsu, by rw [L.hm]; exact h.hi.mono hst, L.cu, L.ci, by rw [L.wt]; exact h.wu, by rw [L.wt]; exact h.wi, by rw [L.hm]; exact L.dh, fun e => ?_⟩
    rw [L.op] at e
    rw [L.hm]
    show c.home.filter _ = []
    rw [h.op e]; rfl
  unfold depart
  split
  · rename_i q hq
    have hqm : q ∈ leaversOf ws c := List.mem_of_getLast? hq
    split
    · rename_i hcond
      rw [Bool.and_eq_true] at hcond
      have he : (stay ws c).home = [] := List.isEmpty_iff.mp hcond.1
      have hnt : (leaveAll hd t ws c).2.1 = false := by simpa using hcond.2
      have hcc := L.nt hnt
      show Gd n (closeC hd.ks (leaveAll hd t ws c).1 q).1
      generalize leaveAll hd t ws c = acc at L base hnt hcc
      have hqc : q ∉ acc.1.carr := by rw [hcc]; exact h.dj q (hlv q hqm)
      have hh : acc.1.home = [] := by rw [L.hm, he]
      unfold closeC
      split
      · rename_i h2
        rw [take_carr h2]
        refine ⟨base.hu, base.hi, srt_up (nodup_app (up_nodup base.cu) (by simp) fun x hx => by rw [List.mem_singleton.mp hx]; exact hqc), fun x hx => ?_, base.wu, base.wi, fun x hx => ?_, base.op⟩
        · rcases List.mem_append.mp (srt_mem.mp hx) with hx | hx
          · exact base.ci x hx
          · rw [List.mem_singleton.mp hx]; exact h.hi q (hlv q hqm)
        · have : x ∈ acc.1.home := hx
          rw [hh] at this; cases this
      · exact ⟨base.hu, base.hi, base.cu, base.ci, base.wu, base.wi, base.dj, fun _ => hh⟩
    · exact base
  · exact base
theorem gd_adv {h : Hd} {t : Int} {c : Cs} (g : Gd h.ts.length c) : Gd h.ts.length (adv h t c).1 := gd_depart (gd_arrive (wishes_len h.ts t) g)
def st0 (h : Hd) : Cs := ⟨rg h.ts.length, [], [], false⟩
/-- after so many ticks -/
def stt (h : Hd) : Nat → Cs
  | 0 => st0 h
  | n + 1 => (adv h (n : Int) (stt h n)).1
theorem gd_stt (h : Hd) : ∀ n, Gd h.ts.length (stt h n)
  | 0 => ⟨rg_up _, fun q hq => rg_mem.mp hq, .nil, fun q hq => (by cases hq), .nil, fun q hq => (by cases hq), fun q _ hq => (by cases hq), fun e => (by cases e)⟩
  | n + 1 => gd_adv (gd_stt h n)
end Dk

set_option Elab.async false
set_option linter.all false
set_option maxRecDepth 100000
set_option maxHeartbeats 1000000
namespace Dk
open PySem PySem.Spec PyProof.Rows L2 TL
/-! ### finitely many scenes -/
theorem nodup_le {α : Type} [DecidableEq α] : ∀ {l m : List α}, l.Nodup → (∀ x ∈ l, x ∈ m) → l.length ≤ m.length
  | [], m, _, _ => Nat.zero_le _
  | a :: l, m, h, s => by
    obtain ⟨h1, h2⟩ := List.nodup_cons.mp h
    have ha : a ∈ m := s a (List.mem_cons_self ..)
    have := nodup_le (l := l) (m := m.erase a) h2 fun x hx => (List.mem_erase_of_ne fun e => h1 (by rw [← e]; exact hx)).mpr (s x (List.mem_cons_of_mem _ hx))
    rw [List.length_erase_of_mem ha] at this
    have h0 : 0 < m.length := List.length_pos_of_mem ha
    rw [List.length_cons]; omega
def subs : List Int → List (List Int)
  | [] => [[]]
  | a :: r => subs r ++ (subs r).map (a :: ·)
theorem subs_len : ∀ l : List Int, (subs l).length = 2 ^ l.length
  | [] => rfl
  | a :: r => by rw [subs, List.length_append, List.length_map, subs_len r, List.length_cons, Nat.pow_succ]; omega
theorem filt_subs (p : Int → Bool) : ∀ l : List Int, l.filter p ∈ subs l
  | [] => by simp [subs]
  | a :: r => by
    rw [subs, List.mem_append, List.filter_cons]
    split
    · exact .inr (List.mem_map.mpr ⟨_, filt_subs p r, rfl⟩)
    · exact .inl (filt_subs p r)
theorem up_ext {l m : List Int} (h1 : Up l) (h2 : Up m) (e : ∀ q, q ∈ l ↔ q ∈ m) : l = m :=
  List.Perm.eq_of_pairwise (le := fun a b : Int => a ≤ b) (fun a b _ _ h1 h2 => Int.le_antisymm h1 h2) (List.Pairwise.imp Int.le_of_lt h1) (List.Pairwise.imp Int.le_of_lt h2) ((List.perm_ext_iff_of_nodup (up_nodup h1) (up_nodup h2)).mpr e)
theorem up_filt {n : Nat} {l : List Int} (h : Up l) (i : InN n l) : l = (rg n).filter fun q => decide (q ∈ l) :=
  up_ext h (List.Pairwise.filter _ (rg_up n)) fun q => by
    rw [List.mem_filter]
    constructor
    · intro hq; exact ⟨rg_mem.mpr (i q hq), decide_eq_true hq⟩
    · rintro ⟨_, hq⟩; exact of_decide_eq_true hq
theorem up_subs {n : Nat} {l : List Int} (h : Up l) (i : InN n l) (h6 : n ≤ 6) : l ∈ subs (rg 6) := by
  have i6 : InN 6 l := fun q hq => by have := i q hq; omega
  rw [up_filt h i6]
  exact filt_subs _ _
theorem fm_len {α β : Type} (f : α → List β) (k : Nat) : ∀ (l : List α), (∀ x, (f x).length = k) → (l.flatMap f).length = l.length * k
  | [], _ => by simp
  | a :: l, h => by rw [List.flatMap_cons, List.length_append, h a, fm_len f k l h, List.length_cons, Nat.succ_mul]; omega
def allSc : List Sc := (rg 24).flatMap fun m => (subs (rg 6)).flatMap fun a => (subs (rg 6)).flatMap fun b => [(m, a, b, false), (m, a, b, true)]
theorem allSc_len : allSc.length = 196608 := by
  have s6 : (subs (rg 6)).length = 64 := by rw [subs_len, rg_len]
  unfold allSc
  rw [fm_len _ 8192, rg_len]
  intro m
  rw [fm_len _ 128, s6]
  intro a
  rw [fm_len _ 2, s6]
  intro b; rfl
def scn (h : Hd) (i : Nat) : Sc := scOf ((per h.ts : Nat) : Int) (i : Int) (stt h (i + 1))
theorem scn_all {h : Hd} (hT : Tabs h.ts) (h6 : h.ts.length ≤ 6) (i : Nat) : scn h i ∈ allSc := by
  have g := gd_stt h (i + 1)
  have hp := per_pos hT
  have hl := per_le hT
  unfold scn scOf allSc
  refine List.mem_flatMap.mpr ⟨(i : Int) % ((per h.ts : Nat) : Int), rg_mem.mpr ⟨Int.emod_nonneg _ (by omega), ?_⟩, List.mem_flatMap.mpr ⟨_, up_subs g.wu g.wi h6, List.mem_flatMap.mpr ⟨_, up_subs g.cu g.ci h6, ?_⟩⟩⟩
  · have := Int.emod_lt_of_pos (i : Int) (show (0 : Int) < ((per h.ts : Nat) : Int) by omega)
    omega
  · cases (stt h (i + 1)).opn <;> simp
/-- the scenes of the first n ticks are different, that of tick n is one of them -/
structure IsRep (h : Hd) (n : Nat) : Prop where
  nd : ((List.range n).map (scn h)).Nodup
  re : scn h n ∈ (List.range n).map (scn h)
theorem nd_le {h : Hd} (hT : Tabs h.ts) (h6 : h.ts.length ≤ 6) {n : Nat} (nd : ((List.range n).map (scn h)).Nodup) : n ≤ 196608 := by
  have := nodup_le nd (m := allSc) fun x hx => by
    obtain ⟨i, _, rfl⟩ := List.mem_map.mp hx
    exact scn_all hT h6 i
  rw [List.length_map, List.length_range, allSc_len] at this
  exact this
theorem nd_succ {h : Hd} {n : Nat} (nd : ((List.range n).map (scn h)).Nodup) (hn : scn h n ∉ (List.range n).map (scn h)) : ((List.range (n + 1)).map (scn h)).Nodup := by
  rw [List.range_succ, List.map_append]
  exact List.nodup_append.mpr ⟨nd, by simp, fun a ha b hb e => hn (by rw [List.mem_singleton.mp (show b ∈ [scn h n] from hb)] at e; rw [← e]; exact ha)⟩
/-! ### a scene decides what happens later -/
theorem homeL_per {ts : List Str} {x : Str} (hT : Tabs ts) (hx : x ∈ ts) {i j : Int} (e : i % ((per ts : Nat) : Int) = j % ((per ts : Nat) : Int)) : homeL x i = homeL x j := by
  obtain ⟨k, hk⟩ := dvd_per hx
  have : i % ((tl x).length : Int) = j % ((tl x).length : Int) := by
    have hk' : ((per ts : Nat) : Int) = ((tl x).length : Int) * (k : Int) := by rw [hk]; exact Int.natCast_mul _ _
    have e1 : i % ((tl x).length : Int) = (i % ((per ts : Nat) : Int)) % ((tl x).length : Int) := (Int.emod_emod_of_dvd i ⟨(k : Int), hk'⟩).symm
    have e2 : j % ((tl x).length : Int) = (j % ((per ts : Nat) : Int)) % ((tl x).length : Int) := (Int.emod_emod_of_dvd j ⟨(k : Int), hk'⟩).symm
    rw [e1, e2, e]
  unfold homeL
  rw [this]
theorem wishes_per {ts : List Str} (hT : Tabs ts) {i j : Int} (e : i % ((per ts : Nat) : Int) = j % ((per ts : Nat) : Int)) : wishes ts i = wishes ts j :=
  List.map_congr_left fun x hx => homeL_per hT hx e
theorem thinks_per {h : Hd} {i j : Int} (e : i % ((per h.ts : Nat) : Int) = j % ((per h.ts : Nat) : Int)) (p : Int) : thinks h i p = thinks h j p := by
  unfold thinks; rw [e]
theorem adv_per {h : Hd} (hT : Tabs h.ts) {i j : Int} (e : i % ((per h.ts : Nat) : Int) = j % ((per h.ts : Nat) : Int)) (c : Cs) : (adv h i c).1 = (adv h j c).1 := by
  have ew := wishes_per hT e
  have es : leaveStep h i = leaveStep h j := by
    funext a p
    unfold leaveStep
    rw [thinks_per e]
  unfold adv depart leaveAll
  rw [ew, es]
theorem home_is {h : Hd} (n : Nat) : (stt h (n + 1)).home = (rg h.ts.length).filter fun q => wants (wishes h.ts (n : Int)) q && !decide (q ∈ (stt h (n + 1)).wait) := by
  have g := gd_stt h n
  have g1 := gd_stt h (n + 1)
  have hw := wishes_len h.ts (n : Int)
  have eh : (stt h (n + 1)).home = (arrive (wishes h.ts (n : Int)) (stt h n)).1.home.filter fun q => wants (wishes h.ts (n : Int)) q := by
    show (depart h _ _ _).1.home = _
    have key : ∀ (lv : List Int) (a : Cs × Bool × List Ev), (lv.foldl (leaveStep h (n : Int)) a).1.home = a.1.home ∧ (lv.foldl (leaveStep h (n : Int)) a).1.wait = a.1.wait := by
      intro lv
      induction lv with
      | nil => intro a; exact ⟨rfl, rfl⟩
      | cons q r ih =>
        intro a
        have := ih (leaveStep h (n : Int) a q)
        have st : (leaveStep h (n : Int) a q).1.home = a.1.home ∧ (leaveStep h (n : Int) a q).1.wait = a.1.wait := by
          have tk : (takeKey h.ks a.1 q).1.home = a.1.home ∧ (takeKey h.ks a.1 q).1.wait = a.1.wait := by unfold takeKey; split <;> exact ⟨rfl, rfl⟩
          unfold leaveStep
          split
          · split <;> exact tk
          · exact ⟨rfl, rfl⟩
        exact ⟨this.1.trans st.1, this.2.trans st.2⟩
    have hc : ∀ c q, (closeC h.ks c q).1.home = c.home := fun c q => by
      have tk : (takeKey h.ks c q).1.home = c.home := by unfold takeKey; split <;> rfl
      unfold closeC; split
      · exact tk
      · rfl
    unfold depart
    split
    · split
      · exact (hc _ _).trans (key _ _).1
      · exact (key _ _).1
    · exact (key _ _).1
  have ewt : (stt h (n + 1)).wait = (arrive (wishes h.ts (n : Int)) (stt h n)).1.wait := by
    show (depart h _ _ _).1.wait = _
    have key : ∀ (lv : List Int) (a : Cs × Bool × List Ev), (lv.foldl (leaveStep h (n : Int)) a).1.wait = a.1.wait := by
      intro lv
      induction lv with
      | nil => intro a; rfl
      | cons q r ih =>
        intro a
        refine (ih (leaveStep h (n : Int) a q)).trans ?_
        have tk : (takeKey h.ks a.1 q).1.wait = a.1.wait := by unfold takeKey; split <;> rfl
        unfold leaveStep
        split
        · split <;> exact tk
        · rfl
    have hc : ∀ c q, (closeC h.ks c q).1.wait = c.wait := fun c q => by
      have tk : (takeKey h.ks c q).1.wait = c.wait := by unfold takeKey; split <;> rfl
      unfold closeC; split
      · exact tk
      · rfl
    unfold depart
    split
    · split
      · exact (hc _ _).trans (key _ _)
      · exact key _ _
    · exact key _ _
  refine up_ext g1.hu (List.Pairwise.filter _ (rg_up _)) fun q => ?_
  rw [List.mem_filter, ewt, eh, List.mem_filter]
  have hcm : ∀ q, q ∈ comersOf (wishes h.ts (n : Int)) (stt h n).home ↔ (q ∈ rg h.ts.length ∧ wants (wishes h.ts (n : Int)) q = true ∧ q ∉ (stt h n).home) := fun q => by
    unfold comersOf
    rw [List.mem_filter, hw]
    simp
  have hhi : ∀ q ∈ (stt h n).home, q ∈ rg h.ts.length := fun q hq => rg_mem.mpr (g.hi q hq)
  unfold arrive
  dsimp only
  generalize wishes h.ts (n : Int) = ws at hcm
  generalize comersOf ws (stt h n).home = cm at hcm
  split
  · rename_i he
    have he : cm = [] := List.isEmpty_iff.mp he
    subst he
    simp only [Bool.and_eq_true, List.not_mem_nil, decide_false, Bool.not_false, and_true]
    constructor
    · rintro ⟨h1, h2⟩; exact ⟨hhi q h1, h2⟩
    · rintro ⟨h1, h2⟩
      refine ⟨?_, h2⟩
      by_cases hq : q ∈ (stt h n).home
      · exact hq
      · have := (hcm q).mpr ⟨h1, h2, hq⟩; cases this
  · split
    · simp only [Bool.and_eq_true, List.not_mem_nil, decide_false, Bool.not_false, and_true]
      constructor
      · rintro ⟨h1, h2⟩
        rcases List.mem_append.mp (srt_mem.mp h1) with h1 | h1
        · exact ⟨hhi q h1, h2⟩
        · exact ⟨((hcm q).mp h1).1, h2⟩
      · rintro ⟨h1, h2⟩
        refine ⟨srt_mem.mpr ?_, h2⟩
        by_cases hq : q ∈ (stt h n).home
        · exact List.mem_append_left _ hq
        · exact List.mem_append_right _ ((hcm q).mpr ⟨h1, h2, hq⟩)
    · rename_i hce
      have hne : (stt h n).home = [] := by
        unfold canEnter at hce
        split at hce
        · exact absurd rfl hce
        · rename_i hx
          simp at hx
          exact hx.1
      rw [hne] at hcm ⊢
      simp only [List.not_mem_nil, false_and, false_iff, Bool.and_eq_true, not_and]
      intro h1 h2 h3
      have := (hcm q).mpr ⟨h1, h2, by simp⟩
      simp [this] at h3
theorem same_next {h : Hd} (hT : Tabs h.ts) {i j : Nat} (e : scn h i = scn h j) : stt h (i + 1) = stt h (j + 1) := by
  unfold scn scOf at e
  obtain ⟨e1, e2⟩ := Prod.mk.inj e
  obtain ⟨e2, e3⟩ := Prod.mk.inj e2
  obtain ⟨e3, e4⟩ := Prod.mk.inj e3
  have hh : (stt h (i + 1)).home = (stt h (j + 1)).home := by rw [home_is, home_is, wishes_per hT e1, e2]
  generalize stt h (i + 1) = a at *
  generalize stt h (j + 1) = b at *
  cases a
  cases b
  simp only at e2 e3 e4 hh
  rw [e2, e3, e4, hh]
theorem emod_add_same {i j k m : Int} (e : i % m = j % m) : (i + k) % m = (j + k) % m := by
  rw [Int.add_emod, e, ← Int.add_emod]
theorem same_later {h : Hd} (hT : Tabs h.ts) {i j : Nat} (e : scn h i = scn h j) : ∀ k, stt h (i + 1 + k) = stt h (j + 1 + k)
  | 0 => same_next hT e
  | k + 1 => by
    have ih := same_later hT e k
    have e1 : ((i : Int)) % ((per h.ts : Nat) : Int) = ((j : Int)) % ((per h.ts : Nat) : Int) := (Prod.mk.inj e).1
    show (adv h ((i + 1 + k : Nat) : Int) (stt h (i + 1 + k))).1 = (adv h ((j + 1 + k : Nat) : Int) (stt h (j + 1 + k))).1
    rw [ih]
    refine adv_per hT ?_ _
    have c1 : ((i + 1 + k : Nat) : Int) = (i : Int) + ((1 + k : Nat) : Int) := by omega
    have c2 : ((j + 1 + k : Nat) : Int) = (j : Int) + ((1 + k : Nat) : Int) := by omega
    rw [c1, c2]
    exact emod_add_same e1
/-- rounds of the cycle -/
theorem same_rounds {h : Hd} (hT : Tabs h.ts) {b n : Nat} (e : scn h b = scn h n) (hb : b < n) (x : Nat) : ∀ r, stt h (b + 1 + x) = stt h (b + 1 + (x + r * (n - b)))
  | 0 => by rw [Nat.zero_mul]; rfl
  | r + 1 => by
    have ih := same_rounds hT e hb x r
    have := same_later hT e (x + r * (n - b))
    rw [ih, this]
    congr 1
    rw [Nat.succ_mul]; omega
theorem stt_near {h : Hd} (hT : Tabs h.ts) {b n : Nat} (e : scn h b = scn h n) (hb : b < n) {tick : Nat} (ht : b < tick) : stt h (b + (tick - b) % (n - b) + 1) = stt h (tick + 1) := by
  have := same_rounds hT e hb ((tick - b) % (n - b)) ((tick - b) / (n - b))
  have hd := Nat.mod_add_div (tick - b) (n - b)
  rw [Nat.mul_comm] at hd
  rw [hd] at this
  have e1 : b + (tick - b) % (n - b) + 1 = b + 1 + (tick - b) % (n - b) := by omega
  have e2 : tick + 1 = b + 1 + (tick - b) := by omega
  rw [e1, e2, this]
end Dk

set_option Elab.async false
set_option linter.all false
set_option maxRecDepth 100000
set_option maxHeartbeats 2000000
namespace Dk
open PySem PySem.Spec PyProof.Rows L2 TL
open Dn (NXs DnO KAt0 KAt)
section
variable {X : Cx} {P : Program} {w : World} {o i : Expr} {pos pos' p2 : Pos} {td ty : TE} {j : Nat}
theorem pe_newP (hP : X.prog = P) (hw : X.w = w) : PE X (.Dict [] [] pos) (Dn.tNew P w) := by subst hP hw; exact Dn.pe_new
theorem pc_notInP (hP : X.prog = P) (hw : X.w = w) (hu : X.A.units + 16 < cLine) (hi : PE X i ty) (ho : PE X o td) : PC X .NotIn i o (Dn.tNotIn P w ty td) := by subst hP hw; exact Dn.pc_notIn hu hi ho
theorem ps_putP (hP : X.prog = P) (hw : X.w = w) (hu : X.A.units + 16 < cLine) (ho : PE X o td) (hi : PE X i ty) (hs : swapsWith (.Constant (.bool true) j p2) (some (.Subscript o i pos')) pos.line X.env = pure false := by rfl) :
    PS X (.Assign [.Subscript o i pos'] (.Constant (.bool true) j p2) pos) (Dn.sPut P w td ty) := by subst hP hw; exact Dn.ps_put hu ho hi hs
end
def scK (x : Sc) : NestedKey := .tup [.num x.1, .tup (x.2.1.map .num), .tup (x.2.2.1.map .num), .num (if x.2.2.2 = true then 1 else 0)]
theorem nums_inj : ∀ {l m : List Int}, l.map NestedKey.num = m.map NestedKey.num → l = m
  | [], [], _ => rfl
  | [], _ :: _, h => by cases h
  | _ :: _, [], h => by cases h
  | a :: l, b :: m, h => by
    rw [List.map_cons, List.map_cons] at h
    injection h with h1 h2
    injection h1 with h1
    rw [h1, nums_inj h2]
theorem scK_inj {x y : Sc} (h : scK x = scK y) : x = y := by
  obtain ⟨x1, x2, x3, x4⟩ := x
  obtain ⟨y1, y2, y3, y4⟩ := y
  unfold scK at h
  injection h with h
  injection h with h1 h
  injection h with h2 h
  injection h with h3 h
  injection h with h4 _
  injection h1 with h1
  injection h2 with h2
  injection h3 with h3
  injection h4 with h4
  have e2 := nums_inj h2
  have e3 := nums_inj h3
  have e4 : x4 = y4 := by
    cases x4 <;> cases y4
    · rfl
    · simp at h4
    · simp at h4
    · rfl
  have e1 : x1 = y1 := h1
  have e2' : x2 = y2 := e2
  have e3' : x3 = y3 := e3
  rw [e1, e2', e3', e4]
theorem scAt_key {H : Hp} {a : Addr} {x : Sc} (h : ScAt H a x) : KAt H (scK x) a := by
  obtain ⟨b, d, e1, e2, e3⟩ := h
  exact ⟨_, _, rfl, e1, .cons (.int _) (.cons (.tup e2) (.cons (.tup e3) (.cons (.bl _) .nil)))⟩
theorem atKey_some (xs : NXs) (k : NestedKey) : (atKey xs k).isSome = decide (k ∈ xs.map (·.1)) := by
  induction xs with
  | nil => rfl
  | cons x xs ih =>
    unfold atKey at ih ⊢
    rw [List.find?_cons, List.map_cons]
    by_cases h : x.1 = k
    · rw [decide_eq_true h]
      simp [h]
    · rw [decide_eq_false h]
      dsimp only
      rw [ih]
      simp [Ne.symm h]
theorem key_in {h : Hd} {n : Nat} : scK (scn h n) ∈ (List.range n).map (fun i => scK (scn h i)) ↔ scn h n ∈ (List.range n).map (scn h) := by
  constructor
  · intro hm
    obtain ⟨i, hi, e⟩ := List.mem_map.mp hm
    exact List.mem_map.mpr ⟨i, hi, scK_inj e⟩
  · intro hm
    obtain ⟨i, hi, e⟩ := List.mem_map.mp hm
    exact List.mem_map.mpr ⟨i, hi, by rw [e]⟩
/-- scenes in the heap, one for each tick -/
def Scs (H : Hp) (h : Hd) (ys : List V) (is : List Nat) : Prop := Paired (fun v i => ∃ a, v = .ref a ∧ ScAt H a (scn h i)) ys is
theorem Scs.mono {H H' : Hp} {h : Hd} : ∀ {ys : List V} {is : List Nat}, Scs H h ys is → (∀ t zs, H t = some (.tup zs) → H' t = some (.tup zs)) → Scs H' h ys is
  | [], [], .nil, _ => .nil
  | _ :: _, _ :: _, .cons ⟨a, e, q⟩ r, s => .cons ⟨a, e, q.mono s⟩ (Scs.mono r s)
theorem Scs.snoc {H : Hp} {h : Hd} : ∀ {ys : List V} {is : List Nat} {a : Addr} {i : Nat}, Scs H h ys is → ScAt H a (scn h i) → Scs H h (ys ++ [.ref a]) (is ++ [i])
  | [], [], a, i, .nil, q => .cons ⟨a, rfl, q⟩ .nil
  | _ :: _, _ :: _, a, i, .cons r t, q => .cons r (Scs.snoc t q)
theorem Scs.len {H : Hp} {h : Hd} {ys : List V} {is : List Nat} (q : Scs H h ys is) : ys.length = is.length := Paired.length q
def spScenes (K : PySem.W.Frag) (CH : Addr) : SpG := fun vs H Q _ => ∃ (hp : Addr) (h : Hd), vs = [.ref hp] ∧ HoAt K CH H hp h ∧ Tabs h.ts ∧ h.ts.length ≤ 6 ∧
  ∀ (H' : Hp) (ys : List V) (n : Nat), Same H H' → IsRep h n → n ≤ 196608 → Scs H' h ys (List.range (n + 1)) → Q ys H'
structure TxtSc (P : Program) (w : World) (K : PySem.W.Frag) (mg : Str → Option Value) (base : Heap) (CC CH fCi fAd fSn : Addr) (fdCi fdAd fdSn : FuncData) : Prop where
  gC : mg "Course" = some (.ref CC)
  M : Mk K CC fCi
  GI : FnOk P w K mg base CX0 4 fCi fdCi ["self", "house"] (spCInit K CC CH)
  bI : Binds K fdCi ["self", "house"] []
  mAd : Meth K CC "advance" fAd
  GA : FnOk P w K mg base CX0 4 fAd fdAd ["self"] (spAdv K CC CH)
  bAd : Binds K fdAd ["self"] []
  mSn : Meth K CC "scene" fSn
  GS : FnOk P w K mg base CX0 1 fSn fdSn ["self"] (spScene CC)
  bSn : Binds K fdSn ["self"] []
  cl : Cls K CC
abbrev nScs : List Str := ["house", "course", "seen"]
theorem dn_tup {P : Program} {w : World} {H : Hp} {d : Addr} {xs : NXs} {o : HO} (e : H d = some (DnO P w d xs)) : ∀ t zs, H t = some (.tup zs) → (upd H d o) t = some (.tup zs) := fun t zs h => by
  rw [upd_ne (fun z => by rw [z, e] at h; cases h)]; exact h
section
variable {P : Program} {w : World} {K : PySem.W.Frag} {mg : Str → Option Value} {base : Heap} {CC CH fCi fAd fSn : Addr} {fdCi fdAd fdSn : FuncData}
theorem scScs : GScope nScs ["house"] (defScope sScenes) := ⟨rfl, rfl, rfl, by decide +kernel, rfl, by decide +kernel, by decide +kernel⟩
theorem gok_scenes {f : Addr} {fd : FuncData} (F : Fun K "scenes_of" "scenes_of" sScenes f fd) (Z : TxtSc P w K mg base CC CH fCi fAd fSn fdCi fdAd fdSn) : GFn P w K mg base 6 f fd ["house"] (spScenes K CH) := by
  obtain ⟨oc, od, kV, doc, pm, an, cdv, ct, osl, rfl, lk, hcd⟩ := F.ex
  refine gfn_of (k := 5) lk hcd scScs (fun vs H Q E h => ?_) (fun A outer s H vs Q E pn hr h => ?_)
  · obtain ⟨hp, h, rfl, _⟩ := h
    rfl
  · obtain ⟨hp, h, rfl, hho, hT, h6, k⟩ := h
    have hr4 : Room 4 (A.deeper (envOfC (Str.ofString "scenes_of") (defScope sScenes) s.heap.objs.size f cdv)) := hr.mono (by decide)
    have hr1 : Room 1 (A.deeper (envOfC (Str.ofString "scenes_of") (defScope sScenes) s.heap.objs.size f cdv)) := hr.mono (by decide)
    have hu : (A.deeper (envOfC (Str.ofString "scenes_of") (defScope sScenes) s.heap.objs.size f cdv)).units + 16 < cLine := by have := hr.un; omega
    have hpp := per_pos hT
    refine ⟨_, gss_cons (gs_ps (ps_set (i := 1) scScs.nd rfl (.inl rfl) (pe_make Z.M Z.GI hr rfl Z.gC Z.bI .nil pass0 (pa_cons (pv 0) pa_nil))))
      (gss_cons (gs_ps (ps_expr (pe_meth0 (pv 1) Z.cl Z.mAd Z.GA hr4 Z.bAd .nil pass0)))
      (gss_cons (gs_ps (ps_set (i := 2) scScs.nd rfl (.inl rfl) (pe_newP (P := P) (w := w) rfl rfl)))
      (gss_cons (gs_while owns_gcx (pt_cmp (pc_notInP (P := P) (w := w) rfl rfl hu (pe_meth0 (pv 1) Z.cl Z.mSn Z.GS hr1 Z.bSn .nil pass0) (pv 2)) (by rfl))
        (gss_cons (gs_ps (ps_putP (P := P) (w := w) rfl rfl hu (pv 2) (pe_meth0 (pv 1) Z.cl Z.mSn Z.GS hr1 Z.bSn .nil pass0)))
        (gss_cons (gs_yield (pe_meth0 (pv 1) Z.cl Z.mSn Z.GS hr1 Z.bSn .nil pass0))
        (gss_cons (gs_ps (ps_expr (pe_meth0 (pv 1) Z.cl Z.mAd Z.GA hr4 Z.bAd .nil pass0))) gss_nil))))
      (gss_cons (gs_yield (pe_meth0 (pv 1) Z.cl Z.mSn Z.GS hr1 Z.bSn .nil pass0)) gss_nil)))), ?_⟩
    -- the course
    refine ⟨_, rfl, fun p dx hpn hdx npd => ?_⟩
    have sN : Same H (upd (upd H dx (.own p)) p (.ins CC dx [])) := fun b o e => by
      rw [upd_ne (ne_of_none e hpn), upd_ne (ne_of_none e hdx)]; exact e
    have nhp : hp ≠ p := by
      obtain ⟨⟨d, _, _, _, _, e1, _⟩⟩ := hho
      exact ne_of_none e1 hpn
    refine ⟨p, dx, hp, h, rfl, upd_same, hho.mono sN, nhp, hT, h6, fun H1 k1 co1 _ => ⟨rfl, ?_⟩⟩
    have ho1 := (hho.mono sN).kp k1 upd_same nhp
    have s1 : Same H H1 := fun b o e => k1 b o (ne_of_none e hpn) (sN _ _ e)
    obtain ⟨d1, b1, b2, b3, w1, w2, w3, w4⟩ := id co1
    have g0 := gd_stt h 0
    have hhl : ∀ n, (stt h n).home.length ≤ 50 ∧ (stt h n).carr.length ≤ 50 := fun n => by
      have g := gd_stt h n
      have a1 := up_len g.hu g.hi
      have a2 := up_len g.cu g.ci
      omega
    refine ⟨_, rfl, p, d1, _, rfl, w1, by rfl, p, hp, -1, st0 h, h, rfl, co1, ho1, nhp, hT, h6, g0.hi, (hhl 0).1, (hhl 0).2, fun H2 e2 k2 co2 _ _ => ?_⟩
    have ho2 := ho1.kp k2 w1 nhp
    have s2 : Same H H2 := fun b o e => k2 b o (ne_of_none e hpn) (s1 _ _ e)
    have co2' : CoAt CC H2 p hp ((per h.ts : Nat) : Int) ((0 : Nat) : Int) (stt h (0 + 1)) := co2
    clear co1 co2 k1 k2 s1 ho1 w1 w2 w3 w4 d1 b1 b2 b3
    intro d hd
    have s3 := same_upd (o := DnO P w d []) hd
    have np3 : p ≠ d := by
      obtain ⟨_, _, _, _, z, _⟩ := id co2'
      exact ne_of_none z hd
    have hHd : H d = none := by
      cases z : H d with
      | none => rfl
      | some o => have := s2 _ _ z; rw [hd] at this; cases this
    -- the loop
    refine ⟨fun m ys σ H' => ∃ (n : Nat) (xs : NXs), m = 196609 - n ∧ σ = [some (.ref hp), some (.ref p), some (.ref d)] ∧ CoAt CC H' p hp ((per h.ts : Nat) : Int) (n : Int) (stt h (n + 1)) ∧ HoAt K CH H' hp h ∧ H' d = some (DnO P w d xs) ∧
      xs.map (·.1) = (List.range n).map (fun i => scK (scn h i)) ∧ (∀ q ∈ xs, KAt H' q.1 q.2.1) ∧ ((List.range n).map (scn h)).Nodup ∧ Scs H' h ys (List.range n) ∧ Same H H',
      ⟨_, 0, [], rfl, rfl, co2'.mono s3, ho2.mono s3, upd_same, rfl, fun q hq => (by cases hq), .nil, .nil, s2.trans s3⟩, ?_⟩
    clear co2' ho2 s2 s3 hd
    rintro m ys σ H3 ⟨n, xs, rfl, rfl, co3, ho3, eD, ekeys, hK, nd, hS, s3⟩
    have hn := nd_le hT h6 nd
    obtain ⟨dx3, c1, c2, c3, w1, w2, w3, w4⟩ := id co3
    have hxl : xs.length = n := by
      have := congrArg List.length ekeys
      rw [List.length_map, List.length_map, List.length_range] at this
      exact this
    refine ⟨_, rfl, p, dx3, _, rfl, w1, by rfl, p, hp, _, _, _, rfl, co3, by omega, fun H4 a4 s4 sc4 => ?_⟩
    have eD4 := s4 _ _ eD
    have hK4 : ∀ q ∈ xs, KAt H4 q.1 q.2.1 := fun q hq => (hK q hq).mono fun t zs z => s4 _ _ z
    have esc : scOf ((per h.ts : Nat) : Int) (n : Int) (stt h (n + 1)) = scn h n := rfl
    rw [esc] at sc4
    refine ⟨_, rfl, d, a4, xs, scK (scn h n), rfl, rfl, eD4, hK4, scAt_key sc4, _, rfl, ?_⟩
    rw [atKey_some, ekeys]
    have co4 := co3.mono s4
    have ho4 := ho3.mono s4
    have hS4 := hS.mono fun t zs z => s4 _ _ z
    have s04 := s3.trans s4
    have w14 := s4 _ _ w1
    by_cases hin : scn h n ∈ (List.range n).map (scn h)
    · rw [decide_eq_true (key_in.mpr hin)]
      refine iteF ⟨?_, _, rfl, p, dx3, _, rfl, w14, by rfl, p, hp, _, _, _, rfl, co4, by omega, fun H5 a5 s5 sc5 => ?_⟩
      · rw [hS4.len, List.length_range]; exact Nat.lt_of_le_of_lt hn (by decide)
      rw [esc] at sc5
      refine k H5 _ n (s04.trans s5) ⟨nd, hin⟩ hn ?_
      rw [List.range_succ]
      exact (hS4.mono fun t zs z => s5 _ _ z).snoc sc5
    · rw [decide_eq_false (fun z => hin (key_in.mp z))]
      have nd' := nd_succ nd hin
      have hn' := nd_le hT h6 nd'
      refine iteT ⟨fun ys' σ' H' => ∃ (n' : Nat) (xs' : NXs), n' = n + 1 ∧ σ' = [some (.ref hp), some (.ref p), some (.ref d)] ∧ CoAt CC H' p hp ((per h.ts : Nat) : Int) (n' : Int) (stt h (n' + 1)) ∧ HoAt K CH H' hp h ∧ H' d = some (DnO P w d xs') ∧
        xs'.map (·.1) = (List.range n').map (fun i => scK (scn h i)) ∧ (∀ q ∈ xs', KAt H' q.1 q.2.1) ∧ ((List.range n').map (scn h)).Nodup ∧ Scs H' h ys' (List.range n') ∧ Same H H', fun ys' σ' H' ⟨n', xs', e, r⟩ => ⟨196609 - n', by omega, n', xs', rfl, r⟩, ?_⟩
      -- the scene is noted
      refine ⟨_, rfl, _, rfl, p, dx3, _, rfl, w14, by rfl, p, hp, _, _, _, rfl, co4, by omega, fun H5 a5 s5 sc5 => ?_⟩
      rw [esc] at sc5
      have eD5 := s5 _ _ eD4
      have hK5 : ∀ q ∈ xs, KAt H5 q.1 q.2.1 := fun q hq => (hK4 q hq).mono fun t zs z => s5 _ _ z
      have hnone : atKey xs (scK (scn h n)) = none := by
        have := atKey_some xs (scK (scn h n))
        rw [ekeys, decide_eq_false (fun z => hin (key_in.mp z))] at this
        cases z : atKey xs (scK (scn h n)) with
        | none => rfl
        | some v => rw [z] at this; cases this
      refine ⟨d, a5, xs, scK (scn h n), rfl, rfl, eD5, hK5, scAt_key sc5, hnone, by rw [hxl]; exact Nat.lt_of_le_of_lt hn (by decide), ?_⟩
      have tK := dn_tup (o := DnO P w d (xs ++ [(scK (scn h n), a5, Value.bool true)])) eD5
      have kD : Kp d H5 (upd H5 d (DnO P w d (xs ++ [(scK (scn h n), a5, Value.bool true)]))) := kp_upd
      have co6 : CoAt CC (upd H5 d (DnO P w d (xs ++ [(scK (scn h n), a5, Value.bool true)]))) p hp ((per h.ts : Nat) : Int) (n : Int) (stt h (n + 1)) := by
        obtain ⟨e5, q1, q2, q3, z1, z2, z3, z4⟩ := co4.mono s5
        have nl : ∀ a zs, H5 a = some (.lst zs) → a ≠ d := fun a zs hz z => by rw [z, eD5] at hz; cases hz
        exact ⟨e5, q1, q2, q3, kD _ _ np3 z1, kD _ _ (nl _ _ z2) z2, kD _ _ (nl _ _ z3) z3, kD _ _ (nl _ _ z4) z4⟩
      have ho6 : HoAt K CH (upd H5 d (DnO P w d (xs ++ [(scK (scn h n), a5, Value.bool true)]))) hp h := by
        obtain ⟨⟨e5, q1, q2, q3, q4, z1, z2, z3, z4, z5⟩⟩ := ho4.mono s5
        have nsq : ∀ a zs, SqT K H5 a zs → SqT K (upd H5 d (DnO P w d (xs ++ [(scK (scn h n), a5, Value.bool true)]))) a zs := fun a zs hz => by
          rcases hz with (hz | ⟨o, hz⟩) | hz
          · exact .inl (.inl (tK _ _ hz))
          · exact .inl (.inr ⟨o, kD _ _ (fun z => by rw [z, eD5] at hz; cases hz) hz⟩)
          · exact .inr hz
        exact ⟨⟨e5, q1, q2, q3, q4, kD _ _ (fun z => by rw [z, eD5] at z1; cases z1) z1, nsq _ _ z2, nsq _ _ z3, nsq _ _ z4, z5.mono tK⟩⟩
      have hK6 : ∀ q ∈ xs ++ [(scK (scn h n), a5, Value.bool true)], KAt (upd H5 d (DnO P w d (xs ++ [(scK (scn h n), a5, Value.bool true)]))) q.1 q.2.1 := fun q hq => by
        rcases List.mem_append.mp hq with hq | hq
        · exact (hK5 q hq).mono tK
        · rw [List.mem_singleton.mp hq]; exact (scAt_key sc5).mono tK
      have hS6 := (hS4.mono fun t zs z => s5 _ _ z).mono tK
      have s06 : Same H (upd H5 d (DnO P w d (xs ++ [(scK (scn h n), a5, Value.bool true)]))) := fun b o e => kD _ _ (ne_of_none e hHd) (s5 _ _ (s04 _ _ e))
      have eD6 : (upd H5 d (DnO P w d (xs ++ [(scK (scn h n), a5, Value.bool true)]))) d = some (DnO P w d (xs ++ [(scK (scn h n), a5, Value.bool true)])) := upd_same
      have ek6 : (xs ++ [(scK (scn h n), a5, Value.bool true)]).map (·.1) = (List.range (n + 1)).map (fun i => scK (scn h i)) := by
        rw [List.map_append, ekeys, List.range_succ, List.map_append]; rfl
      generalize xs ++ [(scK (scn h n), a5, Value.bool true)] = xs6 at co6 ho6 hK6 hS6 s06 eD6 ek6
      generalize upd H5 d (DnO P w d xs6) = H6 at co6 ho6 hK6 hS6 s06 eD6
      clear tK kD co4 ho4 hS4 hK4 hK5 eD4 eD5 sc4 sc5 s04 w14 hK hS co3 ho3 eD ekeys s4 s5 w1 w2 w3 w4
      obtain ⟨dx6, c1, c2, c3, w1, w2, w3, w4⟩ := id co6
      -- it is yielded
      refine ⟨by rw [hS6.len, List.length_range]; exact Nat.lt_of_le_of_lt hn (by decide), _, rfl, p, dx6, _, rfl, w1, by rfl, p, hp, _, _, _, rfl, co6, by omega, fun H7 a7 s7 sc7 => ?_⟩
      rw [esc] at sc7
      have hS7 : Scs H7 h (ys ++ [.ref a7]) (List.range (n + 1)) := by
        rw [List.range_succ]
        exact (hS6.mono fun t zs z => s7 _ _ z).snoc sc7
      -- the next tick
      have co7 := co6.mono s7
      have ho7 := ho6.mono s7
      have g := gd_stt h (n + 1)
      refine ⟨_, rfl, p, dx6, _, rfl, s7 _ _ w1, by rfl, p, hp, (n : Int), stt h (n + 1), h, rfl, co7, ho7, nhp, hT, h6, g.hi, (hhl (n + 1)).1, (hhl (n + 1)).2, fun H8 e8 k8 co8 _ _ => ?_⟩
      have tK8 := kp_tup2 k8 (s7 _ _ w1)
      refine ⟨n + 1, xs6, rfl, rfl, co8, ho7.kp k8 (s7 _ _ w1) nhp, k8 _ _ np3.symm (s7 _ _ eD6), ek6, fun q hq => ((hK6 q hq).mono fun t zs z => s7 _ _ z).mono tK8, nd', hS7.mono tK8, fun b o e => k8 _ _ (ne_of_none e hpn) (s7 _ _ (s06 _ _ e))⟩
end
end Dk

set_option Elab.async false
set_option linter.all false
set_option maxRecDepth 100000
set_option maxHeartbeats 2000000
namespace Dk
open PySem PySem.Spec PyProof.Rows L2 TL
/-! ### scenes as data -/
def dI (l : List Int) : List PyData := l.map PyData.int
def scD (x : Sc) : PyData := .tuple [.int x.1, .tuple (dI x.2.1), .tuple (dI x.2.2.1), .bool x.2.2.2]
theorem ints_eqv : ∀ l m : List Int, PyData.eqv (.tuple (dI l)) (.tuple (dI m)) = decide (l = m)
  | [], [] => rfl
  | [], _ :: _ => rfl
  | _ :: _, [] => rfl
  | a :: l, b :: m => by
    have ih := ints_eqv l m
    have e : PyData.eqv (.tuple (dI (a :: l))) (.tuple (dI (b :: m))) = ((a == b) && PyData.eqv (.tuple (dI l)) (.tuple (dI m))) := rfl
    rw [e, ih]
    by_cases h1 : a = b
    · subst h1; simp
    · simp [h1]
theorem scD_eqv (x y : Sc) : PyData.eqv (scD x) (scD y) = decide (x = y) := by
  obtain ⟨a1, a2, a3, a4⟩ := x
  obtain ⟨b1, b2, b3, b4⟩ := y
  have e : PyData.eqv (scD (a1, a2, a3, a4)) (scD (b1, b2, b3, b4)) = ((a1 == b1) && (PyData.eqv (.tuple (dI a2)) (.tuple (dI b2)) && (PyData.eqv (.tuple (dI a3)) (.tuple (dI b3)) && (PyData.eqv (.bool a4) (.bool b4) && true)))) := rfl
  have e4 : PyData.eqv (.bool a4) (.bool b4) = (a4 == b4) := by cases a4 <;> cases b4 <;> rfl
  rw [e, ints_eqv, ints_eqv, e4]
  by_cases h1 : a1 = b1 <;> by_cases h2 : a2 = b2 <;> by_cases h3 : a3 = b3 <;> by_cases h4 : a4 = b4 <;> simp [h1, h2, h3, h4]
theorem dI_lay : ∀ l : List Int, PyData.canLayAll0 (dI l) = true ∧ PyData.depthAll (dI l) = 0
  | [] => ⟨rfl, rfl⟩
  | a :: l => by
    obtain ⟨h1, h2⟩ := dI_lay l
    exact ⟨by show (true && PyData.canLayAll0 (dI l)) = true; rw [h1]; rfl, by show max 0 (PyData.depthAll (dI l)) = 0; rw [h2]; rfl⟩
theorem scD_lay (x : Sc) : PyData.canLay0 (scD x) = true ∧ PyData.depth (scD x) ≤ 2 := by
  obtain ⟨h1, h2⟩ := dI_lay x.2.1
  obtain ⟨h3, h4⟩ := dI_lay x.2.2.1
  refine ⟨?_, ?_⟩
  · show (true && (PyData.canLayAll0 (dI x.2.1) && (PyData.canLayAll0 (dI x.2.2.1) && (true && true)))) = true
    rw [h1, h3]; rfl
  · show max 0 (max (PyData.depthAll (dI x.2.1) + 1) (max (PyData.depthAll (dI x.2.2.1) + 1) (max 0 0))) + 1 ≤ 2
    rw [h2, h4]; decide
theorem scD_shaped (x : Sc) : SeqAt.shaped (scD x) = true := by
  obtain ⟨h1, h2⟩ := scD_lay x
  unfold SeqAt.shaped
  rw [h1, decide_eq_true (show PyData.depth (scD x) ≤ 64 by omega)]; rfl
theorem scDs_shaped (l : List Sc) : SeqAt.shaped (.list (l.map scD)) = true := by
  have h1 : PyData.canLayAll0 (l.map scD) = true ∧ PyData.depthAll (l.map scD) ≤ 2 := by
    induction l with
    | nil => exact ⟨rfl, by show 0 ≤ 2; decide⟩
    | cons x l ih =>
      obtain ⟨i1, i2⟩ := ih
      obtain ⟨j1, j2⟩ := scD_lay x
      exact ⟨by show (PyData.canLay0 (scD x) && PyData.canLayAll0 (l.map scD)) = true; rw [i1, j1]; rfl, by show max (PyData.depth (scD x)) (PyData.depthAll (l.map scD)) ≤ 2; omega⟩
  unfold SeqAt.shaped
  rw [show PyData.canLay0 (.list (l.map scD)) = true from h1.1, decide_eq_true (show PyData.depth (.list (l.map scD)) ≤ 64 by show PyData.depthAll (l.map scD) + 1 ≤ 64; omega)]
  rfl
theorem dpAll_dI {K : PySem.W.Frag} {H : Hp} : ∀ l : List Int, DpAll K H (l.map V.int) (dI l)
  | [] => .nil
  | a :: l => .cons (.int a) (dpAll_dI l)
theorem sc_dp {K : PySem.W.Frag} {H : Hp} {a : Addr} {x : Sc} (h : ScAt H a x) : Dp K H (.ref a) (scD x) := by
  obtain ⟨b, d, e1, e2, e3⟩ := h
  exact .tup (SqT.of e1) (.cons (.int _) (.cons (.tup (SqT.of e2) (dpAll_dI _)) (.cons (.tup (SqT.of e3) (dpAll_dI _)) (.cons (.bl _) .nil))))
theorem scs_dp {K : PySem.W.Frag} {H : Hp} {h : Hd} : ∀ {ys : List V} {is : List Nat}, Scs H h ys is → DpAll K H ys ((is.map (scn h)).map scD)
  | [], [], .nil => .nil
  | _ :: _, _ :: _, .cons ⟨a, e, q⟩ r => by rw [e]; exact .cons (sc_dp q) (scs_dp r)
/-! ### the cycle -/
structure IsCyc (h : Hd) (b n : Nat) : Prop where
  lt : b < n
  eq : scn h b = scn h n
  ne : ∀ j, j < b → scn h j ≠ scn h n
  rp : IsRep h n
  le : n ≤ 196608
theorem cyc_of {h : Hd} {n : Nat} (r : IsRep h n) (hn : n ≤ 196608) : ∃ b, IsCyc h b n := by
  obtain ⟨i, hi, e⟩ := List.mem_map.mp r.re
  have hi := List.mem_range.mp hi
  have key : ∀ k, k ≤ i → (∃ j, j ≤ k ∧ scn h j = scn h n ∧ ∀ m, m < j → scn h m ≠ scn h n) ∨ ∀ m, m ≤ k → scn h m ≠ scn h n := by
    intro k
    induction k with
    | zero =>
      intro _
      by_cases c : scn h 0 = scn h n
      · exact .inl ⟨0, Nat.le_refl _, c, fun m hm => absurd hm (Nat.not_lt_zero _)⟩
      · exact .inr fun m hm => by rw [Nat.le_zero.mp hm]; exact c
    | succ k ih =>
      intro hk
      rcases ih (by omega) with ⟨j, hj, r⟩ | r
      · exact .inl ⟨j, by omega, r⟩
      · by_cases c : scn h (k + 1) = scn h n
        · exact .inl ⟨k + 1, Nat.le_refl _, c, fun m hm => r m (by omega)⟩
        · refine .inr fun m hm => ?_
          by_cases q : m = k + 1
          · rw [q]; exact c
          · exact r m (by omega)
  rcases key i (Nat.le_refl _) with ⟨j, hj, c, r'⟩ | r'
  · exact ⟨j, by omega, c, r', r, hn⟩
  · exact absurd e (r' i (Nat.le_refl _))
def spFind (K : PySem.W.Frag) (CH : Addr) : Sp := fun vs H Q _ => ∃ (hp : Addr) (h : Hd), vs = [.ref hp] ∧ HoAt K CH H hp h ∧ Tabs h.ts ∧ h.ts.length ≤ 6 ∧
  ∀ (H' : Hp) (a : Addr) (b n : Nat), Same H H' → IsCyc h b n → H' a = some (.tup [.int (b : Int), .int ((n : Int) - (b : Int))]) → Q (.ref a) H'
def spAfter (K : PySem.W.Frag) (CC CH : Addr) : Sp := fun vs H Q _ => ∃ (hp : Addr) (h : Hd) (m : Nat), vs = [.ref hp, .int ((m : Int) - 1)] ∧ HoAt K CH H hp h ∧ Tabs h.ts ∧ h.ts.length ≤ 6 ∧
  ∀ (H' : Hp) (p : Addr), Same H H' → H p = none → CoAt CC H' p hp ((per h.ts : Nat) : Int) ((m : Int) - 1) (stt h m) → hp ≠ p → (∃ a, HomeAt H' p a ∧ H a = none) → Q (.ref p) H'
/-- the list of the scenes up to the first that was there before -/
def spCyc (K : PySem.W.Frag) : Sp := fun vs H Q _ => ∃ (q : Addr) (h : Hd) (ys : List V) (b n : Nat), vs = [.ref q] ∧ H q = some (.lst ys) ∧ Scs H h ys (List.range (n + 1)) ∧ IsCyc h b n ∧
  ∀ (H' : Hp) (a : Addr), Same H H' → H' a = some (.tup [.int (b : Int), .int ((n : Int) - (b : Int))]) → Q (.ref a) H'
def earlyI (t b l : Int) : Int := if t < b then t else b + (t - b) % l
def spEarly : Sp := fun vs H Q _ => ∃ t b l : Int, vs = [.int t, .int b, .int l] ∧ 0 < l ∧ Q (.int (earlyI t b l)) H
structure TxtFc (K : PySem.W.Frag) (mg : Str → Option Value) (fSo fFc : Addr) (fdSo fdFc : FuncData) : Prop where
  gSo : mg "scenes_of" = some (.ref fSo)
  FSo : Fun K "scenes_of" "scenes_of" sScenes fSo fdSo
  bSo : Binds K fdSo ["house"] []
  gFc : mg "find_cycle" = some (.ref fFc)
  FFc : Fun K "find_cycle" "find_cycle" sFindC fFc fdFc
  bFc : Binds K fdFc ["house"] []
  list : mg "list" = none
  cy : ∃ fCy fdCy, mg "cycle_of" = some (.ref fCy) ∧ Fun K "cycle_of" "cycle_of" sCyc fCy fdCy ∧ Binds K fdCy ["scenes"] []
abbrev nAfter : List Str := ["house", "tick", "begin", "length", "course", "_"]
section
variable {P : Program} {w : World} {K : PySem.W.Frag} {mg : Str → Option Value} {base : Heap} {CC CH fCi fAd fSn : Addr} {fdCi fdAd fdSn : FuncData} {fSo fFc : Addr} {fdSo fdFc : FuncData} {fHL : Addr} {fdHL : FuncData}
theorem scCyc : FnScope ["scenes", "begin"] ["scenes"] (defScope sCyc) := ⟨rfl, rfl, rfl, by decide +kernel, rfl, by decide +kernel, by decide +kernel⟩
theorem ok_cyc {f : Addr} {fd : FuncData} (F : Fun K "cycle_of" "cycle_of" sCyc f fd) (T : TxtA mg) : FnOk P w K mg base CX0 1 f fd ["scenes"] (spCyc K) := by
  refine F.ok scCyc (fun vs H Q E h => ?_) (fun cdv A outer s H vs Q E hr h => ?_)
  · obtain ⟨q, h, ys, b, n, rfl, _⟩ := h
    rfl
  · obtain ⟨q, h, ys, b, n, rfl, eq, hS2, cy, k⟩ := h
    have hu : (A.deeper (envOfC (Str.ofString "cycle_of") (defScope sCyc) s.heap.objs.size f cdv)).units + 65 < cLine := by have := hr.un; omega
    refine ⟨_, pss_cons (ps_set (i := 1) scCyc.nd rfl (.inl rfl) (pe_bm PySem.F.plainAttrs_list PySem.F.slot_list_index PySem.F.type_list_index (mt_indexD hu) (pv 0) (pa_cons (pe_ix ix_list (pv 0) (pe_un un_neg pe_int) (fun _ _ => rfl)) pa_nil)))
      (pss_one (ps_ret (pe_tup (pa_cons (pv 1) (pa_cons (pe_op op_sub (pe_op op_sub (pe_callB call_len_seq (by rfl) T.len PySem.boot_len (pa_cons (pv 0) pa_nil)) pe_int) (pv 1)) pa_nil))))), ?_⟩
    have hyl : ys.length = n + 1 := by rw [hS2.len, List.length_range]
    obtain ⟨y, hy, a, rfl, ha⟩ : ∃ y, ys[n]? = some y ∧ ∃ a, y = .ref a ∧ ScAt H a (scn h n) := by
      have hx : n < ys.length := by omega
      refine ⟨ys[n], List.getElem?_eq_getElem hx, ?_⟩
      have key : ∀ {ys : List V} {is : List Nat} {j i : Nat} {y : V}, Scs H h ys is → ys[j]? = some y → is[j]? = some i → ∃ a, y = .ref a ∧ ScAt H a (scn h i) := by
        intro ys is
        induction ys generalizing is with
        | nil => intro j i y q e; simp at e
        | cons y0 ys ih =>
          intro j i y q e1 e2
          cases q with
          | cons r t =>
            cases j with
            | zero => simp at e1 e2; rw [← e1, ← e2]; exact r
            | succ j => exact ih t (by simpa using e1) (by simpa using e2)
      exact key hS2 (List.getElem?_eq_getElem hx) (by rw [List.getElem?_range (by omega)])
    have elast : atI ys (-1) = some (.ref a) := by
      have e1 : ixN ys.length (-1) = some n := by
        unfold ixN
        rw [if_neg (by decide), if_pos (by omega), hyl]
        congr 1
        omega
      unfold atI
      rw [e1]
      exact hy
    have hgt : ∀ j, j < n + 1 → (((List.range (n + 1)).map (scn h)).map scD)[j]? = some (scD (scn h j)) := fun j hj => by
      rw [List.getElem?_map, List.getElem?_map, List.getElem?_range hj]; rfl
    refine ⟨_, rfl, .inl ⟨rfl, _, SqL.of eq⟩, _, rfl, _, rfl, q, _, _, _, rfl, rfl, SqL.of eq, elast, q, .ref a, scD (scn h n), ((List.range (n + 1)).map (scn h)).map scD, b, scD (scn h b), rfl, rfl, .lst (SqL.of eq) (scs_dp hS2), sc_dp ha, scDs_shaped _, scD_shaped _, hgt b (by have := cy.lt; omega), ?_, fun m z hm hz => ?_, ?_⟩
    · rw [scD_eqv, cy.eq]; exact decide_eq_true rfl
    · rw [hgt m (by have := cy.lt; omega)] at hz
      cases hz
      rw [scD_eqv]
      exact decide_eq_false (cy.ne m hm)
    refine ⟨_, rfl, _, rfl, q, _, rfl, .inl (SqL.of eq), _, _, rfl, rfl, _, rfl, _, _, rfl, rfl, by show 2 ≤ sizeLine; decide, fun u hu' => ?_⟩
    refine k _ u (same_upd hu') ?_
    rw [upd_same, hyl]
    have : ((n + 1 : Nat) : Int) - 1 - (b : Int) = (n : Int) - (b : Int) := by omega
    show some (HO.tup [V.int (b : Int), V.int (((n + 1 : Nat) : Int) - 1 - (b : Int))]) = _
    rw [this]
theorem scFind : FnScope ["house"] ["house"] (defScope sFindC) := ⟨rfl, rfl, rfl, by decide +kernel, rfl, by decide +kernel, by decide +kernel⟩
theorem ok_find (Z : TxtSc P w K mg base CC CH fCi fAd fSn fdCi fdAd fdSn) (FC : TxtFc K mg fSo fFc fdSo fdFc) (T : TxtA mg) : FnOk P w K mg base CX0 10 fFc fdFc ["house"] (spFind K CH) := by
  have GS : GFn P w K mg base 6 fSo fdSo ["house"] (spScenes K CH) := gok_scenes FC.FSo Z
  obtain ⟨fCy, fdCy, gCy, FCy, bCy⟩ := FC.cy
  have GC : FnOk P w K mg base CX0 1 fCy fdCy ["scenes"] (spCyc K) := ok_cyc FCy T
  refine FC.FFc.ok scFind (fun vs H Q E h => ?_) (fun cdv A outer s H vs Q E hr h => ?_)
  · obtain ⟨hp, h, rfl, _⟩ := h
    rfl
  · obtain ⟨hp, h, rfl, hho, hT, h6, k⟩ := h
    have hr6 : Room 6 (A.deeper (envOfC (Str.ofString "find_cycle") (defScope sFindC) s.heap.objs.size fFc cdv)) := hr.mono (by decide)
    have hr1 : Room 1 (A.deeper (envOfC (Str.ofString "find_cycle") (defScope sFindC) s.heap.objs.size fFc cdv)) := hr.mono (by decide)
    refine ⟨_, pss_one (ps_ret (pe_call GC hr1 rfl gCy FCy.kp bCy .nil pass0 (pa_cons (pe_listG (E := E0) (pgen_call GS hr6 rfl FC.gSo FC.FSo.kp FC.bSo .nil (pa_cons (pv 0) pa_nil)) passL (fun _ _ _ z => z.elim) hr (by rfl) FC.list (by decide +kernel)) pa_nil))), ?_⟩
    refine ⟨_, rfl, hp, h, rfl, hho, hT, h6, fun H1 ys n s1 rp hn hS q hq => ?_⟩
    obtain ⟨b, cy⟩ := cyc_of rp hn
    have s2 := same_upd (o := .lst ys) hq
    have eq : (upd H1 q (.lst ys)) q = some (.lst ys) := upd_same
    have hS2 := hS.mono fun t zs z => s2 _ _ z
    exact ⟨q, h, ys, b, n, rfl, eq, hS2, cy, fun H' a s3 ea => k H' a b n ((s1.trans s2).trans s3) cy ea⟩
/-- the number of early ticks is known: one less than j, and after j ticks all is as after m -/
structure CondAf (K : PySem.W.Frag) (CC CH : Addr) (D : Ends) (σ : L2.St) (H : Hp) : Prop where
  ex : ∃ (hp : Addr) (h : Hd) (m j : Nat) (b l : Int) (v5 v6 : Option V), σ = [some (.ref hp), some (.int ((m : Int) - 1)), some (.int b), some (.int l), v5, v6] ∧ 0 < l ∧ earlyI ((m : Int) - 1) b l = (j : Int) - 1 ∧ HoAt K CH H hp h ∧ Tabs h.ts ∧ h.ts.length ≤ 6 ∧ j ≤ 400000 ∧ stt h j = stt h m ∧
    ∀ (H' : Hp) (p : Addr), Same H H' → H p = none → CoAt CC H' p hp ((per h.ts : Nat) : Int) ((m : Int) - 1) (stt h m) → hp ≠ p → (∃ a, HomeAt H' p a ∧ H a = none) → D.rt (.ref p) H'
end
end Dk

set_option Elab.async false
set_option linter.all false
set_option maxRecDepth 100000
set_option maxHeartbeats 1000000
namespace Dk
open PySem PySem.Spec PyProof.Rows L2 TL
theorem ps_never {X : Cx} {st : Stmt} : PS X st (fun _ _ _ => False) := ⟨fun _ _ _ _ _ _ h => h.elim⟩
def lastT : Int := 1000000000000000000
def spTk : Sp := fun vs H Q _ => ∃ t : Int, vs = [.int t] ∧ 0 ≤ t ∧ t ≤ lastT ∧ ∀ H', Same H H' → Q .non H'
def spCp : Sp := fun vs H Q _ => ∃ p n : Int, vs = [.int p, .int n] ∧ 0 ≤ p ∧ p < n ∧ ∀ H', Same H H' → Q .non H'
/-- asked of a house after a tick -/
def spAsk (K : PySem.W.Frag) (CH : Addr) (ans : Hd → Cs → V → Hp → Hp → Prop) : Sp := fun vs H Q _ => ∃ (hp : Addr) (h : Hd) (n : Nat), vs = [.ref hp, .int (n : Int)] ∧ HoAt K CH H hp h ∧ Tabs h.ts ∧ h.ts.length ≤ 6 ∧ (n : Int) ≤ lastT ∧
  ∀ (H' : Hp) (v : V), Same H H' → ans h (stt h (n + 1)) v H H' → Q v H'
def ansHome : Hd → Cs → V → Hp → Hp → Prop := fun _ c v H H' => ∃ a, v = .ref a ∧ H a = none ∧ H' a = some (.lst (c.home.map V.int))
def ansWait : Hd → Cs → V → Hp → Hp → Prop := fun _ c v _ H' => ∃ a, v = .ref a ∧ H' a = some (.tup (c.wait.map V.int))
def ansHold : Hd → Cs → V → Hp → Hp → Prop := fun _ c v _ H' => ∃ a, v = .ref a ∧ H' a = some (.tup (c.carr.map V.int))
def ansHook : Hd → Cs → V → Hp → Hp → Prop := fun h c v _ _ => v = .int (h.ks - (c.carr.length : Int))
def ansOpen : Hd → Cs → V → Hp → Hp → Prop := fun _ c v _ _ => v = .bl c.opn
structure TxtAs (K : PySem.W.Frag) (mg : Str → Option Value) (fCt fCa : Addr) (fdCt fdCa : FuncData) : Prop where
section
variable {P : Program} {w : World} {K : PySem.W.Frag} {mg : Str → Option Value} {base : Heap} {CC CH fCi fAd fSn : Addr} {fdCi fdAd fdSn : FuncData} {fSo fFc : Addr} {fdSo fdFc : FuncData} {fHL : Addr} {fdHL : FuncData} {fII fIB fHO : Addr} {fdII fdIB fdHO : FuncData} {fCt fCa : Addr} {fdCt fdCa : FuncData}
theorem scAsk (st : Stmt) (h : FnScope ["house", "tick"] ["house", "tick"] (defScope st)) : FnScope ["house", "tick"] ["house", "tick"] (defScope st) := h
theorem after_at {n : Nat} : ((n + 1 : Nat) : Int) - 1 = (n : Int) := by omega
end
end Dk

set_option Elab.async false
set_option linter.all false
set_option maxRecDepth 100000
set_option maxHeartbeats 4000000
namespace Dk
open PySem PySem.Spec PyProof.Rows L2 TL
/-! ### never more keys out than there are -/
theorem kb_take {ks : Int} {c : Cs} {p : Int} (h : (c.carr.length : Int) ≤ ks) : ((takeKey ks c p).1.carr.length : Int) ≤ ks := by
  unfold takeKey
  split
  · exact h
  · rename_i hn
    show ((srt (c.carr ++ [p])).length : Int) ≤ ks
    rw [srt_len, List.length_append]
    show ((c.carr.length + 1 : Nat) : Int) ≤ ks
    omega
theorem kb_step {h : Hd} {t : Int} {a : Cs × Bool × List Ev} {q : Int} (k : (a.1.carr.length : Int) ≤ h.ks) : ((leaveStep h t a q).1.carr.length : Int) ≤ h.ks := by
  unfold leaveStep
  split
  · split <;> exact kb_take k
  · exact k
theorem kb_fold {h : Hd} {t : Int} : ∀ (lv : List Int) (a : Cs × Bool × List Ev), (a.1.carr.length : Int) ≤ h.ks → ((lv.foldl (leaveStep h t) a).1.carr.length : Int) ≤ h.ks
  | [], _, k => k
  | q :: r, a, k => kb_fold r _ (kb_step k)
theorem kb_adv {h : Hd} {t : Int} {c : Cs} (k : (c.carr.length : Int) ≤ h.ks) : ((adv h t c).1.carr.length : Int) ≤ h.ks := by
  have ka : ((arrive (wishes h.ts t) c).1.carr.length : Int) ≤ h.ks := by
    have : (arrive (wishes h.ts t) c).1.carr.length ≤ c.carr.length := by
      unfold arrive
      dsimp only
      split
      · exact Nat.le_refl _
      · split
        · exact List.length_filter_le _ _
        · exact Nat.le_refl _
    omega
  have kl : ((leaveAll h t (wishes h.ts t) (arrive (wishes h.ts t) c).1).1.carr.length : Int) ≤ h.ks := kb_fold _ _ ka
  show ((depart h t (wishes h.ts t) (arrive (wishes h.ts t) c).1).1.carr.length : Int) ≤ h.ks
  unfold depart
  split
  · split
    · show ((closeC h.ks _ _).1.carr.length : Int) ≤ h.ks
      unfold closeC
      split
      · exact kb_take kl
      · exact kl
    · exact kl
  · exact kl
theorem kb_stt {h : Hd} (k : 0 ≤ h.ks) : ∀ n, ((stt h n).carr.length : Int) ≤ h.ks
  | 0 => k
  | n + 1 => kb_adv (kb_stt k n)
/-! ### the law's scenes -/
def ScL (H : Hp) (a qI qO qC : Addr) (ks : Int) (c : Cs) : Prop := H a = some (.lst [.ref qI, .ref qO, .ref qC, .int (ks - (c.carr.length : Int)), .bl c.opn]) ∧ H qI = some (.lst (c.home.map V.int)) ∧ H qO = some (.lst (c.wait.map V.int)) ∧ H qC = some (.lst (c.carr.map V.int))
theorem ScL.mono {H H' : Hp} {a qI qO qC : Addr} {ks : Int} {c : Cs} (h : ScL H a qI qO qC ks c) (s : Same H H') : ScL H' a qI qO qC ks c := ⟨s _ _ h.1, s _ _ h.2.1, s _ _ h.2.2.1, s _ _ h.2.2.2⟩
def hdOf (ts : List Str) (ks : Int) (cs : List Int) (rs : List Pr) : Hd := ⟨ts, ks, cs, rs⟩
def spLeave : Sp := fun vs H Q _ => ∃ (pa sc e qI qO qC : Addr) (t : Int) (c : Cs) (ts : List Str) (ks : Int) (cs : List Int) (rs : List Pr) (evs : List Ev), vs = [.ref pa, .ref sc, .int t, .ref e] ∧ PartsAt H pa ts ks cs rs ∧ Parts ts ks cs rs ∧ ScL H sc qI qO qC ks c ∧ Gd ts.length c ∧ (c.carr.length : Int) ≤ ks ∧
  EvAt H e t evs ∧ evs.length ≤ 100 ∧ ∀ (H' : Hp) (r sc' e' qI' qC' : Addr), Same H H' → H sc' = none → H qI' = none → H qC' = none → H' r = some (.tup [.ref sc', .ref e']) → ScL H' sc' qI' qO qC' ks (depart (hdOf ts ks cs rs) t (wishes ts t) c).1 → EvAt H' e' t (evs ++ (depart (hdOf ts ks cs rs) t (wishes ts t) c).2) → (e' = e ∨ H e' = none) → Q (.ref r) H'
abbrev nLeave : List Str := ["_law_parts_here", "_law_scene", "_law_tick_here", "_law_events", "_law_inside", "_law_outside", "_law_carrying", "_law_hanging", "_law_unlocked", "_law_wants", "_law_table_here", "_law_taken", "_law_left", "_law_k", "_law_thinks"]
structure CondLv (D : Ends) (σ : L2.St) (H : Hp) : Prop where
  ex : ∃ (v0 v1 v2 v9 v10 v11 v12 v13 v14 : Option V) (e qI qO qC : Addr) (hg : Int) (op : Bool) (cl : List Int), σ = [v0, v1, v2, some (.ref e), some (.ref qI), some (.ref qO), some (.ref qC), some (.int hg), some (.bl op), v9, v10, v11, v12, v13, v14] ∧ H qC = some (.lst (cl.map V.int)) ∧
    ∀ (H' : Hp) (r sc qC' : Addr), Same H H' → H sc = none → H qC' = none → H' r = some (.tup [.ref sc, .ref e]) → H' sc = some (.lst [.ref qI, .ref qO, .ref qC', .int hg, .bl op]) → H' qC' = some (.lst ((srt cl).map V.int)) → D.rt (.ref r) H'
section
variable {P : Program} {w : World} {K : PySem.W.Frag} {mg : Str → Option Value} {base : Heap} {fTb fLn : Addr} {fdTb fdLn : FuncData}
theorem scLeave : FnScope nLeave ["_law_parts_here", "_law_scene", "_law_tick_here", "_law_events"] (defScope sLeave) := ⟨rfl, rfl, rfl, by decide +kernel, rfl, by decide +kernel, by decide +kernel⟩
theorem leave_tail {f : Addr} {cdv : Value} {A : Around} {outer : List Env} {s : Shared} {H : Hp} {E : XK} (hs : mg "sorted" = none) :
    ∃ t, PSs (cxOf CX0 P w K mg base nLeave "_law_leave" (defScope sLeave) f cdv A outer s H E).nox ((defBody sLeave).drop 6) t ∧ ∀ D σ H2, CondLv D σ H2 → t D σ H2 := by
  refine ⟨_, pss_one (ps_ret (pe_tup (pa_cons (pe_lst (pa_cons (pv 4) (pa_cons (pv 5) (pa_cons (pe_callB cr_sortedI (by rfl) hs (by decide +kernel) (pa_cons (pv 6) pa_nil)) (pa_cons (pv 7) (pa_cons (pv 8) pa_nil)))))) (pa_cons (pv 3) pa_nil)))), fun D σ H2 hc => ?_⟩
  obtain ⟨⟨v0, v1, v2, v9, v10, v11, v12, v13, v14, e, qI, qO, qC, hg, op, cl, rfl, eC, k⟩⟩ := hc
  refine ⟨_, rfl, _, rfl, _, rfl, qC, cl, rfl, SqL.of eC, fun ns' q hp' hs' hq => ?_⟩
  rw [srt_uniq hp' hs']
  have s1 := same_upd (o := .lst ((srt cl).map V.int)) hq
  have e1 : (upd H2 q (.lst ((srt cl).map V.int))) q = some (.lst ((srt cl).map V.int)) := upd_same
  generalize upd H2 q (.lst ((srt cl).map V.int)) = H3 at s1 e1
  refine ⟨_, rfl, _, rfl, by show 5 ≤ sizeLine; decide, fun sc hsc => ⟨_, rfl, by show 2 ≤ sizeLine; decide, fun r hr => ?_⟩⟩
  have s2 := same_upd (o := .lst [.ref qI, .ref qO, .ref q, .int hg, .bl op]) hsc
  have s3 := same_upd (o := .tup [.ref sc, .ref e]) hr
  exact k _ r sc q ((s1.trans s2).trans s3) (s1.free hsc) hq upd_same (s3 _ _ upd_same) (s3 _ _ (s2 _ _ e1))
theorem ints_dp {K : PySem.W.Frag} {H : Hp} {a : Addr} {l : List Int} (h : H a = some (.lst (l.map V.int))) : Dp K H (.ref a) (.list (dI l)) := .lst (SqL.of h) (dpAll_dI l)
theorem ints_shaped (l : List Int) : SeqAt.shaped (.list (dI l)) = true := by
  obtain ⟨h1, h2⟩ := dI_lay l
  unfold SeqAt.shaped
  rw [show PyData.canLay0 (.list (dI l)) = true from h1, decide_eq_true (show PyData.depth (.list (dI l)) ≤ 64 by show PyData.depthAll (dI l) + 1 ≤ 64; rw [h2]; decide)]
  rfl
theorem ints_nil (l : List Int) : PyData.eqv (.list (dI l)) (.list []) = l.isEmpty := by cases l <;> rfl
end
end Dk

set_option Elab.async false
set_option linter.all false
set_option maxRecDepth 100000
set_option maxHeartbeats 4000000
namespace Dk
open PySem PySem.Spec PyProof.Rows L2 TL
def lfV : Option Int → V
  | none => .non
  | some q => .int q
def closeW (lf : Option Int) (hm : List Int) (tk hg : Int) (op : Bool) (cl : List Int) (evs : List Ev) : Int × Bool × List Int × List Ev :=
  match lf with
  | none => (hg, op, cl, evs)
  | some q => if hm.isEmpty = true ∧ tk = 0 then (if 0 < hg then (hg - 1, op, cl ++ [q], evs ++ [(wTake, .int q)]) else (hg, true, cl, evs ++ [(wOpen, .non)])) else (hg, op, cl, evs)
structure CondLi (D : Ends) (σ : L2.St) (H : Hp) : Prop where
  ex : ∃ (v0 v1 v9 v10 v13 v14 : Option V) (t : Int) (e qI qO qC : Addr) (hg : Int) (op : Bool) (cl hm : List Int) (evs : List Ev) (tk : Int) (lf : Option Int), σ = [v0, v1, some (.int t), some (.ref e), some (.ref qI), some (.ref qO), some (.ref qC), some (.int hg), some (.bl op), v9, v10, some (.int tk), some (lfV lf), v13, v14] ∧
    H qI = some (.lst (hm.map V.int)) ∧ H qC = some (.lst (cl.map V.int)) ∧ hm.length ≤ 100 ∧ cl.length ≤ 300 ∧ EvAt H e t evs ∧ evs.length ≤ 1000 ∧
    ∀ (H' : Hp) (r sc e' qC' : Addr), Same H H' → H sc = none → H qC' = none → H' r = some (.tup [.ref sc, .ref e']) → H' sc = some (.lst [.ref qI, .ref qO, .ref qC', .int (closeW lf hm tk hg op cl evs).1, .bl (closeW lf hm tk hg op cl evs).2.1]) → H' qC' = some (.lst ((srt (closeW lf hm tk hg op cl evs).2.2.1).map V.int)) →
      EvAt H' e' t (closeW lf hm tk hg op cl evs).2.2.2 → (e' = e ∨ H e' = none) → D.rt (.ref r) H'
/-- events + [(t, word, x)] -/
theorem ev_cat {H : Hp} {e : Addr} {t : Int} {evs : List Ev} {x : Ev} (h : EvAt H e t evs) (hz : evs.length ≤ 1000) {Q : VK}
    (k : ∀ H' e', Same H H' → H e' = none → EvAt H' e' t (evs ++ [x]) → Q (.ref e') H') :
    ∀ u, H u = none → ∀ l, (upd H u (.tup [.int t, .str x.1, x.2])) l = none → rCat (.ref e) (.ref l) (upd (upd H u (.tup [.int t, .str x.1, x.2])) l (.lst [.ref u])) Q := by
  intro u hu l hl
  obtain ⟨xs, e1, e2⟩ := h
  have s1 := same_upd (o := .tup [.int t, .str x.1, x.2]) hu
  have eu : (upd H u (.tup [.int t, .str x.1, x.2])) u = some (.tup [.int t, .str x.1, x.2]) := upd_same
  have s2 := same_upd (o := .lst [.ref u]) hl
  refine ⟨e, l, xs, _, rfl, rfl, s2 _ _ (s1 _ _ e1), upd_same, ?_, fun p hp => ?_⟩
  · rw [e2.len]; exact Nat.le_trans (by show evs.length + 1 ≤ 1001; omega) (by decide)
  · have s3 := same_upd (o := .lst (xs ++ [.ref u])) hp
    refine k _ p ((s1.trans s2).trans s3) ((s1.trans s2).free hp) ⟨_, upd_same, ?_⟩
    exact Evs.snoc (e2.mono fun a ys z => s3 _ _ (s2 _ _ (s1 _ _ z))) (s3 _ _ (s2 _ _ eu))
section
variable {P : Program} {w : World} {K : PySem.W.Frag} {mg : Str → Option Value} {base : Heap} {fTb fLn : Addr} {fdTb fdLn : FuncData}
theorem leave_if {f : Addr} {cdv : Value} {A : Around} {outer : List Env} {s : Shared} {H : Hp} {E : XK} (hs : mg "sorted" = none) (hu : (A.deeper (envOfC (Str.ofString "_law_leave") (defScope sLeave) s.heap.objs.size f cdv)).units + 64 < cLine) :
    ∃ t, PSs (cxOf CX0 P w K mg base nLeave "_law_leave" (defScope sLeave) f cdv A outer s H E).nox ((defBody sLeave).drop 5) t ∧ ∀ D σ H2, CondLi D σ H2 → t D σ H2 := by
  obtain ⟨tt, hp, ht⟩ := leave_tail (P := P) (w := w) (K := K) (mg := mg) (base := base) (f := f) (cdv := cdv) (A := A) (outer := outer) (s := s) (H := H) (E := E) hs
  refine ⟨_, pss_cons (ps_if (PW.pt (pw_and (pt_cmp (pc_notN (pv 12)) rfl) (pw_and (pt_cmpR (op_eqD hu) (pv 4) (pe_lst pa_nil) (nomark _)) (pw_and1 (pt_cmpR op_eq (pv 11) pe_int (nomark _))))))
      (pss_one (ps_if (pt_cmpR op_gt (pv 7) pe_int (nomark _))
        (pss_cons (ps_par (by rfl) scLeave.nd (i := 7) (j := 6) rfl rfl (by decide) rfl rfl (pa_cons (pe_op op_sub (pv 7) pe_int) (pa_cons (pe_op op_cat (pv 6) (pe_lst (pa_cons (pv 12) pa_nil))) pa_nil)) (by rfl))
          (pss_one (ps_set (i := 3) scLeave.nd rfl (.inl rfl) (pe_op op_cat (pv 3) (pe_lst (pa_cons (pe_tup (pa_cons (pv 2) (pa_cons pe_str (pa_cons (pv 12) pa_nil)))) pa_nil))))))
        (pss_cons (ps_set (i := 8) scLeave.nd rfl (.inl rfl) pe_bl)
          (pss_one (ps_set (i := 3) scLeave.nd rfl (.inl rfl) (pe_op op_cat (pv 3) (pe_lst (pa_cons (pe_tup (pa_cons (pv 2) (pa_cons pe_str (pa_cons pe_non pa_nil)))) pa_nil)))))))) pss_nil) hp, fun D σ H2 hc => ?_⟩
  obtain ⟨⟨v0, v1, v9, v10, v13, v14, t, e, qI, qO, qC, hg, op, cl, hm, evs, tk, lf, rfl, eI, eC, hz1, hz2, hE, hz3, k⟩⟩ := hc
  cases lf with
  | none =>
    have ec : closeW none hm tk hg op cl evs = (hg, op, cl, evs) := rfl
    rw [ec] at k
    refine ⟨_, rfl, _, rfl, iteF (iteF (ht _ _ _ ⟨⟨v0, v1, _, v9, v10, _, _, v13, v14, e, qI, qO, qC, hg, op, cl, rfl, eC, fun H' r sc qC' s1 n1 n2 a1 a2 a3 => k H' r sc e qC' s1 n1 n2 a1 a2 a3 ?_ (.inl rfl)⟩⟩))⟩
    obtain ⟨xs, b1, b2⟩ := hE
    exact ⟨xs, s1 _ _ b1, b2.mono fun a ys z => s1 _ _ z⟩
  | some q =>
    refine ⟨_, rfl, _, rfl, iteT ⟨_, rfl, Nat.zero_le _, fun l hl => ?_⟩⟩
    have s1 := same_upd (o := .lst []) hl
    refine ⟨.list (dI hm), .list [], ints_dp (s1 _ _ eI), .lst (SqL.of upd_same) .nil, ints_shaped hm, by decide, _, rfl, ?_⟩
    rw [ints_nil]
    generalize upd H2 l (.lst []) = H3 at s1
    have eI := s1 _ _ eI
    have eC := s1 _ _ eC
    have hE : EvAt H3 e t evs := by
      obtain ⟨xs, b1, b2⟩ := hE
      exact ⟨xs, s1 _ _ b1, b2.mono fun a ys z => s1 _ _ z⟩
    have stay : closeW (some q) hm tk hg op cl evs = (hg, op, cl, evs) → tt D [v0, v1, some (.int t), some (.ref e), some (.ref qI), some (.ref qO), some (.ref qC), some (.int hg), some (.bl op), v9, v10, some (.int tk), some (.int q), v13, v14] H3 := fun ec => by
      rw [ec] at k
      refine ht _ _ _ ⟨⟨v0, v1, _, v9, v10, _, _, v13, v14, e, qI, qO, qC, hg, op, cl, rfl, eC, fun H' r sc qC' s2 n1 n2 a1 a2 a3 => k H' r sc e qC' (s1.trans s2) (s1.free n1) (s1.free n2) a1 a2 a3 ?_ (.inl rfl)⟩⟩
      obtain ⟨xs, b1, b2⟩ := hE
      exact ⟨xs, s2 _ _ b1, b2.mono fun a ys z => s2 _ _ z⟩
    cases hm0 : hm.isEmpty with
    | false => exact iteF (iteF (stay (by show (if hm.isEmpty = true ∧ tk = 0 then _ else _) = _; rw [if_neg (by rw [hm0]; exact fun h => Bool.noConfusion h.1)])))
    | true =>
      refine iteT ⟨_, rfl, rfl, _, rfl, ?_⟩
      by_cases htk : tk = 0
      · subst htk
        refine iteT ⟨_, rfl, _, _, rfl, rfl, _, rfl, ?_⟩
        by_cases hg0 : 0 < hg
        · have ec : closeW (some q) hm 0 hg op cl evs = (hg - 1, op, cl ++ [q], evs ++ [(wTake, .int q)]) := by show (if hm.isEmpty = true ∧ (0 : Int) = 0 then _ else _) = _; rw [if_pos ⟨hm0, rfl⟩, if_pos hg0]
          rw [ec] at k
          rw [decide_eq_true hg0]
          refine iteT ⟨_, rfl, _, _, rfl, rfl, _, rfl, _, rfl, by show 1 ≤ sizeLine; decide, fun l2 hl2 => ?_⟩
          have s2 := same_upd (o := .lst [lfV (some q)]) hl2
          refine ⟨qC, l2, _, _, rfl, rfl, s2 _ _ eC, upd_same, by rw [List.length_map]; exact Nat.le_trans (by show _ + 1 ≤ 301; omega) (by decide), fun c2 hc2 => ?_⟩
          have s3 := same_upd (o := .lst (cl.map V.int ++ [lfV (some q)])) hc2
          have ec2 : (upd (upd H3 l2 (.lst [lfV (some q)])) c2 (.lst (cl.map V.int ++ [lfV (some q)]))) c2 = some (.lst ((cl ++ [q]).map V.int)) := by rw [upd_same, List.map_append]; rfl
          have s13 := (s1.trans s2).trans s3
          have hE2 : EvAt (upd (upd H3 l2 (.lst [lfV (some q)])) c2 (.lst (cl.map V.int ++ [lfV (some q)]))) e t evs := by
            obtain ⟨xs, b1, b2⟩ := hE
            exact ⟨xs, s3 _ _ (s2 _ _ b1), b2.mono fun a ys z => s3 _ _ (s2 _ _ z)⟩
          generalize upd (upd H3 l2 (.lst [lfV (some q)])) c2 (.lst (cl.map V.int ++ [lfV (some q)])) = H4 at s13 ec2 hE2
          refine ⟨_, _, rfl, ?_⟩
          refine ⟨_, rfl, _, rfl, _, rfl, by show 3 ≤ sizeLine; decide, fun u hu2 => ⟨by show 1 ≤ sizeLine; decide, fun l3 hl3 => ?_⟩⟩
          refine ev_cat (x := (wTake, .int q)) hE2 hz3 (fun H5 e5 s5 n5 hE5 => ?_) u hu2 l3 hl3
          refine ht _ _ _ ⟨⟨v0, v1, _, v9, v10, _, _, v13, v14, e5, qI, qO, c2, hg - 1, op, cl ++ [q], rfl, s5 _ _ ec2, fun H' r sc qC' s2 n1 n2 a1 a2 a3 => k H' r sc e5 qC' ((s13.trans s5).trans s2) ((s13.trans s5).free n1) ((s13.trans s5).free n2) a1 a2 a3 ?_ (.inr (s13.free n5))⟩⟩
          obtain ⟨xs, b1, b2⟩ := hE5
          exact ⟨xs, s2 _ _ b1, b2.mono fun a ys z => s2 _ _ z⟩
        · have ec : closeW (some q) hm 0 hg op cl evs = (hg, true, cl, evs ++ [(wOpen, .non)]) := by show (if hm.isEmpty = true ∧ (0 : Int) = 0 then _ else _) = _; rw [if_pos ⟨hm0, rfl⟩, if_neg hg0]
          rw [ec] at k
          rw [decide_eq_false hg0]
          refine iteF ?_
          refine ⟨_, rfl, _, rfl, by show 3 ≤ sizeLine; decide, fun u hu2 => ⟨by show 1 ≤ sizeLine; decide, fun l3 hl3 => ?_⟩⟩
          refine ev_cat (x := (wOpen, .non)) hE hz3 (fun H5 e5 s5 n5 hE5 => ?_) u hu2 l3 hl3
          refine ht _ _ _ ⟨⟨v0, v1, _, v9, v10, _, _, v13, v14, e5, qI, qO, qC, hg, true, cl, rfl, s5 _ _ eC, fun H' r sc qC' s2 n1 n2 a1 a2 a3 => k H' r sc e5 qC' ((s1.trans s5).trans s2) ((s1.trans s5).free n1) ((s1.trans s5).free n2) a1 a2 a3 ?_ (.inr (s1.free n5))⟩⟩
          obtain ⟨xs, b1, b2⟩ := hE5
          exact ⟨xs, s2 _ _ b1, b2.mono fun a ys z => s2 _ _ z⟩
      · have : decide (V.int tk = V.int 0) = false := decide_eq_false fun e => htk (V.int.inj e)
        rw [this]
        exact iteF (stay (by show (if hm.isEmpty = true ∧ tk = 0 then _ else _) = _; rw [if_neg fun h => htk h.2]))
end
end Dk

set_option Elab.async false
set_option linter.all false
set_option maxRecDepth 100000
set_option maxHeartbeats 4000000
namespace Dk
open PySem PySem.Spec PyProof.Rows L2 TL
/-! ### pure: the keys taken -/
structure AccP (h : Hd) (c0 : Cs) (a : Cs × Bool × List Ev) : Prop where
  home : a.1.home = c0.home
  wait : a.1.wait = c0.wait
  opn : a.1.opn = c0.opn
  srtd : a.1.carr.Pairwise (· ≤ ·)
  le : (a.1.carr.length : Int) ≤ h.ks
theorem tkk_no {ks : Int} {c : Cs} {q : Int} (e : (c.carr.length : Int) = ks) : takeKey ks c q = (c, false) := by unfold takeKey; rw [if_pos e]
theorem tkk_yes {ks : Int} {c : Cs} {q : Int} (e : (c.carr.length : Int) ≠ ks) : takeKey ks c q = ({ c with carr := srt (c.carr ++ [q]) }, true) := by unfold takeKey; rw [if_neg e]
theorem accP_take {h : Hd} {c0 c : Cs} {b b' : Bool} {e e' : List Ev} {q : Int} (k : AccP h c0 (c, b, e)) : AccP h c0 ((takeKey h.ks c q).1, b', e') := by
  have hk := kb_take (p := q) k.le
  by_cases z : (c.carr.length : Int) = h.ks
  · rw [tkk_no z] at hk ⊢; exact ⟨k.home, k.wait, k.opn, k.srtd, k.le⟩
  · rw [tkk_yes z] at hk ⊢; exact ⟨k.home, k.wait, k.opn, srt_sorted _, hk⟩
theorem accP_step {h : Hd} {t : Int} {c0 : Cs} {a : Cs × Bool × List Ev} {q : Int} (k : AccP h c0 a) : AccP h c0 (leaveStep h t a q) := by
  unfold leaveStep
  split
  · split <;> exact accP_take (b := a.2.1) (e := a.2.2) k
  · exact ⟨k.home, k.wait, k.opn, k.srtd, k.le⟩
theorem accP_fold {h : Hd} {t : Int} {c0 : Cs} : ∀ (l : List Int) (a : Cs × Bool × List Ev), AccP h c0 a → AccP h c0 (l.foldl (leaveStep h t) a)
  | [], _, k => k
  | q :: r, a, k => accP_fold r _ (accP_step k)
theorem accP_lv {h : Hd} {t : Int} {ws : List Bool} {c : Cs} (hs : c.carr.Pairwise (· ≤ ·)) (hk : (c.carr.length : Int) ≤ h.ks) (i : Nat) : AccP h (stay ws c) (lvAcc h t ws c i) := accP_fold _ _ ⟨rfl, rfl, rfl, hs, hk⟩
theorem lvAcc_all {h : Hd} {t : Int} {ws : List Bool} {c : Cs} : lvAcc h t ws c (leaversOf ws c).length = leaveAll h t ws c := by unfold lvAcc leaveAll; rw [List.take_length]
theorem last_take {l : List Int} {i : Nat} {q : Int} (e : l[i]? = some q) : (l.take (i + 1)).getLast? = some q := by
  rw [take_more e]; simp
/-- the law's end of a tick and the program's -/
theorem dep_close {h : Hd} {t : Int} {ws : List Bool} {c : Cs} (hs : c.carr.Pairwise (· ≤ ·)) (hk : (c.carr.length : Int) ≤ h.ks) {cl : List Int} (hp : cl.Perm (leaveAll h t ws c).1.carr) {tk : Int} (htk : tk = 0 ↔ (leaveAll h t ws c).2.1 = false) {evs : List Ev} {r : Int × Bool × List Int × List Ev}
    (hr : r = closeW (leaversOf ws c).getLast? (stay ws c).home tk (h.ks - ((leaveAll h t ws c).1.carr.length : Int)) c.opn cl (evs ++ (leaveAll h t ws c).2.2)) :
    r.1 = h.ks - ((depart h t ws c).1.carr.length : Int) ∧ r.2.1 = (depart h t ws c).1.opn ∧ srt r.2.2.1 = (depart h t ws c).1.carr ∧ r.2.2.2 = evs ++ (depart h t ws c).2 ∧ (depart h t ws c).1.home = (stay ws c).home ∧ (depart h t ws c).1.wait = c.wait := by
  have A : AccP h (stay ws c) (leaveAll h t ws c) := by rw [← lvAcc_all]; exact accP_lv hs hk _
  have ho : (leaveAll h t ws c).1.opn = c.opn := A.opn
  have hw : (leaveAll h t ws c).1.wait = c.wait := A.wait
  have hsr : srt cl = (leaveAll h t ws c).1.carr := (srt_uniq hp.symm A.srtd).symm
  have plain : r = (h.ks - ((leaveAll h t ws c).1.carr.length : Int), c.opn, cl, evs ++ (leaveAll h t ws c).2.2) → depart h t ws c = ((leaveAll h t ws c).1, (leaveAll h t ws c).2.2) → r.1 = h.ks - ((depart h t ws c).1.carr.length : Int) ∧ r.2.1 = (depart h t ws c).1.opn ∧ srt r.2.2.1 = (depart h t ws c).1.carr ∧ r.2.2.2 = evs ++ (depart h t ws c).2 ∧ (depart h t ws c).1.home = (stay ws c).home ∧ (depart h t ws c).1.wait = c.wait := fun e1 e2 => by
    rw [e1, e2]
    exact ⟨rfl, ho.symm, hsr, rfl, A.home, hw⟩
  cases hl : (leaversOf ws c).getLast? with
  | none =>
    refine plain ?_ ?_
    · rw [hr, hl]; rfl
    · unfold depart; rw [hl]
  | some q =>
    rw [hl] at hr
    have hr2 : r = if (stay ws c).home.isEmpty = true ∧ tk = 0 then (if 0 < h.ks - ((leaveAll h t ws c).1.carr.length : Int) then (h.ks - ((leaveAll h t ws c).1.carr.length : Int) - 1, c.opn, cl ++ [q], evs ++ (leaveAll h t ws c).2.2 ++ [(wTake, .int q)]) else (h.ks - ((leaveAll h t ws c).1.carr.length : Int), true, cl, evs ++ (leaveAll h t ws c).2.2 ++ [(wOpen, .non)])) else (h.ks - ((leaveAll h t ws c).1.carr.length : Int), c.opn, cl, evs ++ (leaveAll h t ws c).2.2) := hr
    have hd : depart h t ws c = if ((stay ws c).home.isEmpty && !(leaveAll h t ws c).2.1) = true then ((closeC h.ks (leaveAll h t ws c).1 q).1, (leaveAll h t ws c).2.2 ++ [(closeC h.ks (leaveAll h t ws c).1 q).2]) else ((leaveAll h t ws c).1, (leaveAll h t ws c).2.2) := by unfold depart; rw [hl]
    by_cases cc : (stay ws c).home.isEmpty = true ∧ tk = 0
    · have cb : ((stay ws c).home.isEmpty && !(leaveAll h t ws c).2.1) = true := by rw [cc.1, htk.mp cc.2]; rfl
      rw [if_pos cc] at hr2
      rw [if_pos cb] at hd
      have hle := A.le
      by_cases z : ((leaveAll h t ws c).1.carr.length : Int) = h.ks
      · rw [if_neg (by omega)] at hr2
        have ec : closeC h.ks (leaveAll h t ws c).1 q = ({ (leaveAll h t ws c).1 with opn := true }, (wOpen, .non)) := by unfold closeC; rw [tkk_no z]; exact if_neg (by intro h; cases h)
        rw [hr2, hd, ec]
        exact ⟨rfl, rfl, hsr, by rw [List.append_assoc], A.home, hw⟩
      · rw [if_pos (by omega)] at hr2
        have ec : closeC h.ks (leaveAll h t ws c).1 q = ({ (leaveAll h t ws c).1 with carr := srt ((leaveAll h t ws c).1.carr ++ [q]) }, (wTake, .int q)) := by unfold closeC; rw [tkk_yes z]; exact if_pos rfl
        rw [hr2, hd, ec]
        refine ⟨?_, ho.symm, ?_, by rw [List.append_assoc], A.home, hw⟩
        · show _ = h.ks - ((srt ((leaveAll h t ws c).1.carr ++ [q])).length : Int)
          rw [srt_len, List.length_append]
          show h.ks - ((leaveAll h t ws c).1.carr.length : Int) - 1 = h.ks - (((leaveAll h t ws c).1.carr.length + 1 : Nat) : Int)
          omega
        · show srt (cl ++ [q]) = srt ((leaveAll h t ws c).1.carr ++ [q])
          exact (srt_uniq (((srt_perm _).trans (hp.symm.append_right [q]))) (srt_sorted _)).symm
    · have cb : ((stay ws c).home.isEmpty && !(leaveAll h t ws c).2.1) ≠ true := fun e => cc (by
        rw [Bool.and_eq_true] at e
        refine ⟨e.1, htk.mpr ?_⟩
        cases q2 : (leaveAll h t ws c).2.1 with
        | false => rfl
        | true => rw [q2] at e; exact absurd e.2 (by decide))
      rw [if_neg cc] at hr2
      rw [if_neg cb] at hd
      exact plain hr2 hd
end Dk

set_option Elab.async false
set_option linter.all false
set_option maxRecDepth 100000
set_option maxHeartbeats 4000000
namespace Dk
open PySem PySem.Spec PyProof.Rows L2 TL
theorem EvAt.mono {H H' : Hp} {a : Addr} {t : Int} {evs : List Ev} (h : EvAt H a t evs) (s : Same H H') : EvAt H' a t evs := by
  obtain ⟨xs, b1, b2⟩ := h
  exact ⟨xs, s _ _ b1, b2.mono fun a ys z => s _ _ z⟩
theorem or_val {ta tb : TE} {σ : L2.St} {H : Hp} {a b : Bool} {Q : VK} (h1 : ∀ R : VK, R (.bl a) H → ta σ H R) (h2 : ∀ R : VK, (∀ H', Same H H' → R (.bl b) H') → tb σ H R) (hq : ∀ H', Same H H' → Q (.bl (a || b)) H') : tOrV ta tb σ H Q := h1 _ ⟨a, rfl, by
  cases a with
  | true => exact iteT (hq H (Same.refl H))
  | false => exact iteF (h2 _ hq)⟩
theorem leave_inj {h : Hd} {t q : Int} {a : Cs × Bool × List Ev} (k : thinks h t q = false ∨ (a.1.carr.length : Int) = h.ks) : leaveStep h t a q = (a.1, a.2.1, a.2.2 ++ [(wLeave, .int q)]) := by
  unfold leaveStep
  split
  · rename_i ht
    rcases k with k | k
    · rw [ht] at k; cases k
    · rw [tkk_no k]; exact if_neg (by intro h; cases h)
  · rfl
theorem leave_key {h : Hd} {t q : Int} {a : Cs × Bool × List Ev} (k : thinks h t q = true) (n : (a.1.carr.length : Int) ≠ h.ks) : leaveStep h t a q = ({ a.1 with carr := srt (a.1.carr ++ [q]) }, true, a.2.2 ++ [(wLeave, .int q)] ++ [(wTake, .int q)]) := by
  unfold leaveStep
  rw [if_pos k, tkk_yes n]; exact if_pos rfl
section
variable {P : Program} {w : World} {K : PySem.W.Frag} {mg : Str → Option Value} {base : Heap} {fTb fLn : Addr} {fdTb fdLn : FuncData}
def thinkE : Expr := match (defBody sLeave)[3]? with
  | some (Stmt.For _ _ b _ _) => (match b[2]? with
    | some (Stmt.Assign _ e _) => e
    | _ => Expr.Constant Const.none 0 ⟨0, 0, 0, 0⟩)
  | _ => Expr.Constant Const.none 0 ⟨0, 0, 0, 0⟩
theorem leave_think {f : Addr} {cdv : Value} {A : Around} {outer : List Env} {s : Shared} {H : Hp} {E : XK} (T : TxtA mg) (D' : TxtD K mg fTb fLn fdTb fdLn) (hr : Room 1 (A.deeper (envOfC (Str.ofString "_law_leave") (defScope sLeave) s.heap.objs.size f cdv))) :
    ∃ te, PE (cxOf CX0 P w K mg base nLeave "_law_leave" (defScope sLeave) f cdv A outer s H E).nox thinkE te ∧ ∀ (σ : L2.St) (H6 : Hp) (Q : VK) (pa : Addr) (t q : Int) (ts : List Str) (ks : Int) (cs : List Int) (rs : List Pr), σ[0]? = some (some (.ref pa)) → σ[2]? = some (some (.int t)) → σ[13]? = some (some (.int q)) → PartsAt H6 pa ts ks cs rs → Parts ts ks cs rs → (∀ H', Same H6 H' → Q (.bl (thinks (hdOf ts ks cs rs) t q)) H') → te σ H6 Q := by
  have GL : FnOk P w K mg base CX0 1 fLn fdLn ["_law_tables"] (spLength K) := ok_length D'.FL T
  have hu : (A.deeper (envOfC (Str.ofString "_law_leave") (defScope sLeave) s.heap.objs.size f cdv)).units + 65 < cLine := by have := hr.un; omega
  refine ⟨_, (by exact pe_or (pe_cmpR op_in_seq (pv 13) (pe_ix ix_tup (pv 0) pe_int (fun _ _ => rfl)) (by rfl)) (by exact pe_one (pe_cmpR (op_inDT hu) (pe_tup (pa_cons (pe_op op_mod (pv 2) (pe_call GL hr rfl D'.gL D'.FL.kp D'.bL .nil pass0 (pa_cons (pe_ix ix_tup (pv 0) pe_int (fun _ _ => rfl)) pa_nil))) (pa_cons (pv 13) pa_nil))) (pe_ix ix_tup (pv 0) pe_int (fun _ _ => rfl)) (by rfl)))), ?_⟩
  intro σ H6 Q pa t q ts ks cs rs i0 i2 i13 hpa hP hq
  obtain ⟨aT, aC, aR, xr, p1, p2, p3, p4, p5⟩ := hpa
  have hper : (0 : Int) < ((per ts : Nat) : Int) := by have := per_pos hP.tabs; omega
  refine or_val (a := decide (q ∈ cs)) (b := decide ((t % ((per ts : Nat) : Int), q) ∈ rs)) (fun R hR => ?_) (fun R hR => ?_) hq
  · refine ⟨_, i13, _, i0, pa, _, 2, _, rfl, rfl, SqT.of p1, at2, aC, _, rfl, .inr (SqT.of p3), rfl, by simp [flatV], ?_⟩
    show R (.bl (inV (V.int q) (cs.map V.int))) H6
    rw [any_mem]
    exact hR
  · refine ⟨_, i2, _, i0, pa, _, 0, _, rfl, rfl, SqT.of p1, at0, aT, ts, rfl, SqT.of p2, hP.tabs, hP.n6, fun H7 s7 => ⟨_, _, rfl, rfl, hper, _, i13, by show 2 ≤ sizeLine; decide, fun u7 hu7 => ?_⟩⟩
    have s8 := same_upd (o := .tup [.int (t % ((per ts : Nat) : Int)), .int q]) hu7
    refine ⟨_, i0, pa, _, 3, _, rfl, rfl, SqT.of (s8 _ _ (s7 _ _ p1)), at3, ?_⟩
    refine ⟨prR (t % ((per ts : Nat) : Int), q), rs.map prR, .tup (SqT.of upd_same) (.cons (.int _) (.cons (.int _) .nil)), .tup (SqT.of (s8 _ _ (s7 _ _ p4))) (dpAll_prs (p5.mono fun t' ys z => s8 _ _ (s7 _ _ z))), prR_shaped _, prRs_shaped _, ?_⟩
    rw [any_eqv]
    exact hR _ (s7.trans s8)
theorem ok_leave {f : Addr} {fd : FuncData} (F : Fun K "_law_leave" "_law_leave" sLeave f fd) (T : TxtA mg) (D' : TxtD K mg fTb fLn fdTb fdLn) : FnOk P w K mg base CX0 2 f fd ["_law_parts_here", "_law_scene", "_law_tick_here", "_law_events"] spLeave := by
  have GL : FnOk P w K mg base CX0 1 fLn fdLn ["_law_tables"] (spLength K) := ok_length D'.FL T
  refine F.ok scLeave (fun vs H Q E h => ?_) (fun cdv A outer s H vs Q E hr h => ?_)
  · obtain ⟨pa, sc, e, qI, qO, qC, t, c, ts, ks, cs, rs, evs, rfl, _⟩ := h
    rfl
  · obtain ⟨pa, sc, e, qI, qO, qC, t, c, ts, ks, cs, rs, evs, rfl, hpa, hP, ⟨es, eI, eO, eC⟩, hgd, hle, hE, hz, k⟩ := h
    obtain ⟨aT, aC, aR, xr, p1, p2, p3, p4, p5⟩ := hpa
    have hu4 : (A.deeper (envOfC (Str.ofString "_law_leave") (defScope sLeave) s.heap.objs.size f cdv)).units + 64 < cLine := by have := hr.un; omega
    have hr1 : Room 1 (A.deeper (envOfC (Str.ofString "_law_leave") (defScope sLeave) s.heap.objs.size f cdv)) := hr.mono (by decide)
    obtain ⟨tt, hpp, htt⟩ := leave_if (P := P) (w := w) (K := K) (mg := mg) (base := base) (f := f) (cdv := cdv) (A := A) (outer := outer) (s := s) (H := H) (E := E) D'.sorted hu4
    obtain ⟨tth, hpth, hth⟩ := leave_think (P := P) (w := w) (K := K) (mg := mg) (base := base) (f := f) (cdv := cdv) (A := A) (outer := outer) (s := s) (H := H) (E := E) T D' hr
    refine ⟨_, pss_cons (ps_asg (pv 1) (pg_unl (n := 5) (by rfl) (pgs_cons (pg_name (i := 4) scLeave.nd rfl (.inl rfl)) (pgs_cons (pg_name (i := 5) scLeave.nd rfl (.inl rfl)) (pgs_cons (pg_name (i := 6) scLeave.nd rfl (.inl rfl)) (pgs_cons (pg_name (i := 7) scLeave.nd rfl (.inl rfl)) (pgs_cons (pg_name (i := 8) scLeave.nd rfl (.inl rfl)) pgs_nil)))))))
      (pss_cons (ps_set (i := 9) scLeave.nd rfl (.inr rfl) (pe_lc (own := [("_law_table_here", 10)]) (g := gName 10) (by rfl) scLeave.nd (pi_tup (pe_ix ix_tup (pv 0) pe_int (fun _ _ => rfl))) (blkOk_by (N := nLeave) (sc := defScope sLeave) (by decide +kernel))
        (fun _ _ _ _ _ => pg_name (i := 10) scLeave.nd rfl (Or.inl rfl)) (fun _ _ _ _ _ => pts_nil) (fun _ _ _ _ _ => by exact pe_cmpR op_eq (pe_item_str (pv 10) (pe_op op_mod (pv 2) (pe_callB call_len_str (by rfl) T.len PySem.boot_len (pa_cons (pv 10) pa_nil))) (fun _ _ => rfl)) pe_str (nomark _))))
      (pss_cons (ps_asg (pe_tup (pa_cons pe_int (pa_cons pe_non pa_nil))) (pg_tup rfl (pgs_cons (pg_name (i := 11) scLeave.nd rfl (.inl rfl)) (pgs_cons (pg_name (i := 12) scLeave.nd rfl (.inl rfl)) pgs_nil))))
      (pss_cons (ps_for PassesOwn.never rfl (pi_list (pe_lc (own := [("_law_k", 13)]) (g := gName 13) (by rfl) scLeave.nd (pi_list (pv 4)) (blkOk_by (N := nLeave) (sc := defScope sLeave) (by decide +kernel))
            (fun _ _ _ _ _ => pg_name (i := 13) scLeave.nd rfl (Or.inl rfl)) (fun _ _ _ _ _ => pts_one (pt_not (pt_val (pe_ix (ix_listK (K := K) rfl) (pv 9) (pv 13) (fun _ _ => rfl))))) (fun _ _ _ _ _ => pv 13)))
          (pg_name (i := 13) scLeave.nd rfl (.inl rfl))
        (pss_cons (ps_set (i := 12) scLeave.nd rfl (.inl rfl) (pv 13))
        (pss_cons (ps_set (i := 3) scLeave.nd rfl (.inl rfl) (pe_op op_cat (pv 3) (pe_lst (pa_cons (pe_tup (pa_cons (pv 2) (pa_cons pe_str (pa_cons (pv 13) pa_nil)))) pa_nil))))
        (pss_cons (ps_set (i := 14) scLeave.nd rfl (.inl rfl) hpth)
        (pss_one (ps_if (PW.pt (pw_and (pt_val (pv 14)) (pw_and1 (pt_cmpR op_gt (pv 7) pe_int (nomark _)))))
          (pss_cons (ps_par3 (by rfl) scLeave.nd (i := 7) (j := 11) (l := 6) rfl rfl rfl (by decide) (by decide) (by decide) rfl rfl rfl (pa_cons (pe_op op_sub (pv 7) pe_int) (pa_cons (pe_op op_add (pv 11) pe_int) (pa_cons (pe_op op_cat (pv 6) (pe_lst (pa_cons (pv 13) pa_nil))) pa_nil))) (by rfl))
            (pss_one (ps_set (i := 3) scLeave.nd rfl (.inl rfl) (pe_op op_cat (pv 3) (pe_lst (pa_cons (pe_tup (pa_cons (pv 2) (pa_cons pe_str (pa_cons (pv 13) pa_nil)))) pa_nil)))))) pss_nil))))))
      (pss_cons (ps_setLc (own := [("_law_k", 13)]) (i := 4) (g := gName 13) (by rfl) scLeave.nd rfl rfl (sw_true rfl rfl (by rfl) (by rfl)) (pi_list (pv 4)) (blkOk_by (N := nLeave) (sc := defScope sLeave) (by decide +kernel))
        (fun _ _ _ _ _ => pg_name (i := 13) scLeave.nd rfl (Or.inl rfl)) (fun _ _ _ _ _ => pts_one (pt_val (pe_ix (ix_listK (K := K) rfl) (pv 9) (pv 13) (fun _ _ => rfl)))) (fun _ _ _ _ _ => pv 13))
      hpp)))), ?_⟩
    refine ⟨_, rfl, sc, _, rfl, SqL.of es, rfl, _, _, rfl, _, _, rfl, _, _, rfl, _, _, rfl, _, _, rfl, rfl, ?_⟩
    refine ⟨_, rfl, pa, _, 0, _, rfl, rfl, SqT.of p1, at0, aT, rfl, ⟨_, SqT.of p2⟩, fun D hD => lc_tup (K := K) (a := aT) (xs := ts.map V.str)
      (fun i H3 => Same H H3 ∧ H3 D = some (.lst (((ts.take i).map fun x => homeL x t).map V.bl))) ⟨same_upd hD, upd_same⟩ (fun i H3 _ ⟨e, _⟩ => sSqT e (SqT.of p2)) ?_ ?_⟩
    · rintro i y H3 hi ⟨s3, eD⟩
      obtain ⟨x, hx, rfl⟩ := map_at hi
      have hil : i < ts.length := (List.getElem?_eq_some_iff.mp hx).1
      have hit := hP.tabs x (List.mem_of_getElem? hx)
      have hpz := hit.pos
      rw [← len_tl] at hpz
      have h0 : 0 ≤ t % (x.length : Int) := Int.emod_nonneg _ (by omega)
      have h1 : t % (x.length : Int) < (x.length : Int) := Int.emod_lt_of_pos _ (by omega)
      have hj : (t % (x.length : Int)).toNat < x.cps.size := by
        show _ < x.length
        omega
      refine ⟨rfl, _, rfl, _, rfl, _, rfl, _, rfl, hit.size, _, _, rfl, rfl, by show (0 : Int) < _; omega, x, _, x.cps[(t % (x.length : Int)).toNat], rfl, rfl, h0, by omega, h1, Array.getElem?_eq_getElem hj, rfl, ?_⟩
      rw [homeL_eq (Array.getElem?_eq_getElem hj)]
      refine ⟨_, eD, ?_, fun b o eb => ?_, ?_⟩
      · rw [List.length_map, List.length_map, List.length_take]
        have := hP.n6
        exact Nat.lt_of_le_of_lt (Nat.le_trans (Nat.min_le_left _ _) (by omega : i ≤ 100)) (by decide)
      · rw [upd_ne (ne_of_none eb hD)]; exact s3 _ _ eb
      · rw [upd_same, take_more hx, List.map_append, List.map_append]; rfl
    rintro H1 ⟨s1, eD⟩
    rw [List.length_map, List.take_length] at eD
    have ews : (ts.map fun x => homeL x t) = wishes ts t := rfl
    rw [ews] at eD
    have hwl := wishes_len ts t
    generalize wishes ts t = ws at eD hwl k
    have l6 := hP.n6
    have hhl : c.home.length ≤ ts.length := up_len hgd.hu hgd.hi
    refine ⟨by show 2 ≤ sizeLine; decide, fun u0 hu0 => ⟨u0, _, rfl, SqT.of upd_same, rfl, _, _, rfl, _, _, rfl, rfl, ?_⟩⟩
    have s2 := s1.trans (same_upd (o := .tup [.int 0, .non]) hu0)
    have eD := same_upd (o := .tup [.int 0, .non]) hu0 _ _ eD
    generalize upd H1 u0 (.tup [.int 0, .non]) = H2 at s2 eD
    have hrg : ∀ q ∈ c.home, 0 ≤ q ∧ q < (ws.length : Int) := fun q hq => by rw [hwl]; exact hgd.hi q hq
    refine ⟨_, rfl, qI, rfl, ⟨_, SqL.of (s2 _ _ eI)⟩, fun D2 hD2 => ?_⟩
    refine comp_filt (i := 13) (vs := [13]) (g := fun q => !wants ws q) hD2 (SqL.of (s2 _ _ eI)) (by omega) (fun q H3 Qb hm s3 hq => ?_) (fun _ => rfl) (fun _ => rfl) (fun H3 s3 eD2 => ?_)
    · obtain ⟨q0, q1⟩ := hrg q hm
      exact ⟨_, rfl, _, rfl, D, _, _, _, rfl, rfl, SqL.of (s3 _ _ eD), wants_ix q0 q1, _, rfl, hq H3 (Same.refl H3)⟩
    have elv : c.home.filter (fun q => !wants ws q) = leaversOf ws c := rfl
    rw [elv] at eD2
    have hlz : (leaversOf ws c).length ≤ 6 := by
      have := List.length_filter_le (fun q => !wants ws q) c.home
      rw [elv] at this; omega
    have s4 := s2.trans s3
    have eD := s3 _ _ eD
    have hcs : c.carr.Pairwise (· ≤ ·) := List.Pairwise.imp Int.le_of_lt hgd.cu
    have hks : (hdOf ts ks cs rs).ks = ks := rfl
    have k9 := hP.k9
    have accp := fun i => accP_lv (h := hdOf ts ks cs rs) (t := t) (ws := ws) (c := c) hcs (by rw [hks]; exact hle) i
    have hper : (0 : Int) < ((per ts : Nat) : Int) := by have := per_pos hP.tabs; omega
    refine ⟨D2, rfl, ⟨_, SqL.of eD2⟩, for_list (K := K) (a := D2) (xs := (leaversOf ws c).map V.int)
      (fun i σ H' => ∃ (v10 v13 v14 : Option V) (e' qC' : Addr) (cl : List Int) (tk : Int), σ = [some (.ref pa), some (.ref sc), some (.int t), some (.ref e'), some (.ref qI), some (.ref qO), some (.ref qC'), some (.int (ks - ((lvAcc (hdOf ts ks cs rs) t ws c i).1.carr.length : Int))), some (.bl c.opn), some (.ref D), v10, some (.int tk), some (lfV ((leaversOf ws c).take i).getLast?), v13, v14] ∧
        Same H3 H' ∧ H' qC' = some (.lst (cl.map V.int)) ∧ cl.Perm (lvAcc (hdOf ts ks cs rs) t ws c i).1.carr ∧ 0 ≤ tk ∧ (tk = 0 ↔ (lvAcc (hdOf ts ks cs rs) t ws c i).2.1 = false) ∧ EvAt H' e' t (evs ++ (lvAcc (hdOf ts ks cs rs) t ws c i).2.2) ∧ (lvAcc (hdOf ts ks cs rs) t ws c i).2.2.length ≤ 2 * i ∧ (e' = e ∨ H e' = none))
      ⟨_, _, _, e, qC, c.carr, 0, rfl, Same.refl H3, s4 _ _ eC, List.Perm.refl _, Int.le_refl _, ⟨fun _ => rfl, fun _ => rfl⟩, by show EvAt H3 e t (evs ++ []); rw [List.append_nil]; exact hE.mono s4, Nat.le_refl _, .inl rfl⟩ (fun i σ H' _ ⟨_, _, _, _, _, _, _, _, s5, _⟩ => SqL.of (s5 _ _ eD2)) ?_ ?_⟩
    · rintro i y σ H5 hi ⟨v10, v13, v14, e5, qC5, cl, tk, rfl, s5, eC5, hpm, htk0, htk, hE5, hz5, ne5⟩
      obtain ⟨q, eq, rfl⟩ := map_at hi
      have hi6 : i < 6 := by have := (List.getElem?_eq_some_iff.mp eq).1; omega
      have hap := accp i
      have esu := lvAcc_succ (h := hdOf ts ks cs rs) (t := t) eq
      have elast := last_take eq
      generalize lvAcc (hdOf ts ks cs rs) t ws c i = acc at hpm htk hE5 hz5 hap esu
      have hac : (acc.1.carr.length : Int) ≤ ks := hap.le
      have hcl := hpm.length_eq
      refine ⟨_, rfl, _, rfl, _, rfl, _, rfl, by show 3 ≤ sizeLine; decide, fun u hu2 => ⟨by show 1 ≤ sizeLine; decide, fun l3 hl3 => ?_⟩⟩
      refine ev_cat (x := (wLeave, .int q)) hE5 (by rw [List.length_append]; omega) (fun H6 e6 s6 n6 hE6 => ?_) u hu2 l3 hl3
      have s46 := (s4.trans s5).trans s6
      have eC6 := s6 _ _ eC5
      have ne6 : H e6 = none := (s4.trans s5).free n6
      refine hth _ H6 _ pa t q ts ks cs rs rfl rfl rfl ⟨aT, aC, aR, xr, s46 _ _ p1, s46 _ _ p2, s46 _ _ p3, s46 _ _ p4, p5.mono fun a ys z => s46 _ _ z⟩ hP (fun H7 s7 => ?_)
      have eC7 := s7 _ _ eC6
      have hE7 := hE6.mono s7
      have s57 := (s5.trans s6).trans s7
      refine ⟨_, rfl, _, rfl, ?_⟩
      have stay' : leaveStep (hdOf ts ks cs rs) t acc q = (acc.1, acc.2.1, acc.2.2 ++ [(wLeave, .int q)]) → ∃ (v10' v13' v14' : Option V) (e' qC' : Addr) (cl' : List Int) (tk' : Int), [some (V.ref pa), some (.ref sc), some (.int t), some (.ref e6), some (.ref qI), some (.ref qO), some (.ref qC5), some (.int (ks - (acc.1.carr.length : Int))), some (.bl c.opn), some (.ref D), v10, some (.int tk), some (V.int q), some (.int q), some (.bl (thinks (hdOf ts ks cs rs) t q))] = [some (.ref pa), some (.ref sc), some (.int t), some (.ref e'), some (.ref qI), some (.ref qO), some (.ref qC'), some (.int (ks - ((lvAcc (hdOf ts ks cs rs) t ws c (i + 1)).1.carr.length : Int))), some (.bl c.opn), some (.ref D), v10', some (.int tk'), some (lfV ((leaversOf ws c).take (i + 1)).getLast?), v13', v14'] ∧
        Same H3 H7 ∧ H7 qC' = some (.lst (cl'.map V.int)) ∧ cl'.Perm (lvAcc (hdOf ts ks cs rs) t ws c (i + 1)).1.carr ∧ 0 ≤ tk' ∧ (tk' = 0 ↔ (lvAcc (hdOf ts ks cs rs) t ws c (i + 1)).2.1 = false) ∧ EvAt H7 e' t (evs ++ (lvAcc (hdOf ts ks cs rs) t ws c (i + 1)).2.2) ∧ (lvAcc (hdOf ts ks cs rs) t ws c (i + 1)).2.2.length ≤ 2 * (i + 1) ∧ (e' = e ∨ H e' = none) := fun est => by
        rw [esu, est, elast]
        exact ⟨v10, _, _, e6, qC5, cl, tk, rfl, s57, eC7, hpm, htk0, htk, by show EvAt H7 e6 t (evs ++ (acc.2.2 ++ [_])); rw [← List.append_assoc]; exact hE7, by show (acc.2.2 ++ [_]).length ≤ _; rw [List.length_append]; show _ + 1 ≤ _; omega, .inr ne6⟩
      cases htk7 : thinks (hdOf ts ks cs rs) t q with
      | false =>
        have := stay' (leave_inj (.inl htk7))
        rw [htk7] at this
        exact iteF (iteF this)
      | true =>
        refine iteT ⟨_, rfl, _, _, rfl, rfl, _, rfl, ?_⟩
        by_cases hg0 : 0 < ks - (acc.1.carr.length : Int)
        · rw [decide_eq_true hg0]
          have est := leave_key (t := t) (q := q) (a := acc) htk7 (by rw [hks]; omega)
          refine iteT ⟨_, rfl, _, _, rfl, rfl, _, rfl, _, _, rfl, rfl, _, rfl, _, rfl, by show 1 ≤ sizeLine; decide, fun l8 hl8 => ?_⟩
          have s8 := same_upd (o := .lst [.int q]) hl8
          refine ⟨qC5, l8, _, _, rfl, rfl, s8 _ _ eC7, upd_same, by rw [List.length_map]; exact Nat.le_trans (by show _ + 1 ≤ 301; omega) (by decide), fun c8 hc8 => ?_⟩
          have s9 := same_upd (o := .lst (cl.map V.int ++ [.int q])) hc8
          have ec9 : (upd (upd H7 l8 (.lst [.int q])) c8 (.lst (cl.map V.int ++ [.int q]))) c8 = some (.lst ((cl ++ [q]).map V.int)) := by rw [upd_same, List.map_append]; rfl
          have s79 := s8.trans s9
          generalize upd (upd H7 l8 (.lst [.int q])) c8 (.lst (cl.map V.int ++ [.int q])) = H9 at s79 ec9
          refine ⟨_, _, _, rfl, ?_⟩
          refine ⟨_, rfl, _, rfl, _, rfl, by show 3 ≤ sizeLine; decide, fun u9 hu9 => ⟨by show 1 ≤ sizeLine; decide, fun l9 hl9 => ?_⟩⟩
          refine ev_cat (x := (wTake, .int q)) (hE7.mono s79) (by rw [List.length_append, List.length_append]; show evs.length + acc.2.2.length + 1 ≤ _; omega) (fun H10 e10 s10 n10 hE10 => ?_) u9 hu9 l9 hl9
          refine ⟨v10, some (.int q), some (.bl true), e10, c8, cl ++ [q], tk + 1, ?_, (s57.trans s79).trans s10, s10 _ _ ec9, ?_, by omega, ?_, ?_, ?_, .inr (((s46.trans s7).trans s79).free n10)⟩
          · rw [esu, est, elast]
            show _ = [_, _, _, _, _, _, _, some (V.int (ks - ((srt (acc.1.carr ++ [q])).length : Int))), _, _, _, _, _, _, _]
            rw [srt_len, List.length_append]
            have : ks - (acc.1.carr.length : Int) - 1 = ks - ((acc.1.carr.length + [q].length : Nat) : Int) := by show _ = ks - ((acc.1.carr.length + 1 : Nat) : Int); omega
            rw [← this]
            rfl
          · rw [esu, est]
            exact (hpm.append_right [q]).trans (srt_perm _).symm
          · rw [esu, est]
            exact ⟨fun h => by omega, fun h => by cases h⟩
          · rw [esu, est]
            show EvAt H10 e10 t (evs ++ (acc.2.2 ++ [_] ++ [_]))
            rw [← List.append_assoc, ← List.append_assoc]
            exact hE10
          · rw [esu, est]
            show (acc.2.2 ++ [_] ++ [_]).length ≤ _
            rw [List.length_append, List.length_append]
            show _ + 1 + 1 ≤ _
            omega
        · rw [decide_eq_false hg0]
          have := stay' (leave_inj (.inr (by rw [hks]; omega)))
          rw [htk7] at this
          exact iteF this
    rintro σ H5 ⟨v10, v13, v14, e5, qC5, cl, tk, rfl, s5, eC5, hpm, htk0, htk, hE5, hz5, ne5⟩
    rw [List.length_map] at hpm htk hE5 hz5 ⊢
    rw [lvAcc_all] at hpm htk hE5 hz5 ⊢
    rw [List.take_length]
    have s45 := s4.trans s5
    refine ⟨_, rfl, qI, rfl, ⟨_, SqL.of (s45 _ _ eI)⟩, fun B hB => ?_⟩
    refine comp_filt (i := 13) (vs := [13]) (g := fun q => wants ws q) hB (SqL.of (s45 _ _ eI)) (by omega) (fun q H6 Qb hm s6 hq => ?_) (fun _ => rfl) (fun _ => rfl) (fun H6 s6 eB => ?_)
    · obtain ⟨q0, q1⟩ := hrg q hm
      exact ⟨_, rfl, _, rfl, D, _, _, _, rfl, rfl, SqL.of (s6 _ _ (s5 _ _ eD)), wants_ix q0 q1, _, rfl, hq H6 (Same.refl H6)⟩
    have est : c.home.filter (fun q => wants ws q) = (stay ws c).home := rfl
    rw [est] at eB
    have hap := accp (leaversOf ws c).length
    rw [lvAcc_all] at hap
    have hal : ((leaveAll (hdOf ts ks cs rs) t ws c).1.carr.length : Int) ≤ ks := hap.le
    have hcl := hpm.length_eq
    have s46 := s45.trans s6
    obtain ⟨z1, z2, z3, z4, z5, z6⟩ := dep_close (h := hdOf ts ks cs rs) (t := t) (ws := ws) hcs hle hpm htk (evs := evs) (r := _) rfl
    refine htt _ _ _ ⟨⟨_, _, _, _, _, _, t, e5, B, qO, qC5, _, c.opn, cl, (stay ws c).home, evs ++ (leaveAll (hdOf ts ks cs rs) t ws c).2.2, tk, (leaversOf ws c).getLast?, rfl, eB, s6 _ _ eC5, ?_, by omega, hE5.mono s6, ?_, fun H' r sc' e' qC' s7 n1 n2 a1 a2 a3 hE' ne' => ?_⟩⟩
    · rw [← est]; exact Nat.le_trans (List.length_filter_le _ _) (by omega)
    · rw [List.length_append]; omega
    rw [show (hdOf ts ks cs rs).ks = ks from rfl] at z1 z2 z3 z4
    refine k H' r sc' e' B qC' (s46.trans s7) (s46.free n1) (s45.free hB) (s46.free n2) a1 ⟨?_, ?_, ?_, ?_⟩ ?_ ?_
    · rw [a2, z1, z2]
    · rw [z5]; exact s7 _ _ eB
    · rw [z6]; exact s7 _ _ (s46 _ _ eO)
    · rw [a3, z3]
    · rw [← z4]; exact hE'
    · rcases ne' with ne' | ne'
      · rw [ne']; exact ne5
      · exact .inr (s46.free ne')
end
end Dk

set_option Elab.async false
set_option linter.all false
set_option maxRecDepth 100000
set_option maxHeartbeats 4000000
namespace Dk
open PySem PySem.Spec PyProof.Rows L2 TL
/-! ### pure: who comes -/
theorem filt_len (p : Int → Bool) : ∀ l : List Int, (l.filter p).length + (l.filter fun x => !p x).length = l.length
  | [] => rfl
  | a :: l => by
    have ih := filt_len p l
    rw [List.filter_cons, List.filter_cons]
    cases h : p a with
    | true => rw [if_pos rfl, if_neg (by decide), List.length_cons, List.length_cons]; omega
    | false => rw [if_neg (by decide), if_pos (by decide), List.length_cons, List.length_cons]; omega
theorem count_swap {A B : List Int} (ha : A.Nodup) (hb : B.Nodup) : (A.filter fun x => decide (x ∈ B)).length = (B.filter fun x => decide (x ∈ A)).length := by
  refine List.Perm.length_eq ((List.perm_ext_iff_of_nodup (ha.filter _) (hb.filter _)).mpr fun x => ?_)
  rw [List.mem_filter, List.mem_filter, decide_eq_true_eq, decide_eq_true_eq]
  exact And.comm
theorem comers_nodup (ws : List Bool) (home : List Int) : (comersOf ws home).Nodup := (up_nodup (rg_up _)).filter _
theorem filt_all {p : Int → Bool} : ∀ {l : List Int}, (∀ x ∈ l, p x = true) → l.filter p = l := fun h => List.filter_eq_self.mpr h
theorem any_filt (p : Int → Bool) (l : List Int) : (l.filter p).isEmpty = !(l.any p) := by
  induction l with
  | nil => rfl
  | cons a l ih =>
    rw [List.filter_cons, List.any_cons]
    cases h : p a with
    | true => rfl
    | false => rw [if_neg (by decide), ih]; rfl
theorem opn_home {n : Nat} {c : Cs} (g : Gd n c) : (c.opn && c.home.isEmpty) = c.opn := by
  cases h : c.opn with
  | false => rfl
  | true => rw [g.op h]; rfl
theorem srt_ne {l : List Int} (h : l ≠ []) : (srt l).isEmpty = false := by
  cases q : srt l with
  | nil =>
    have := srt_len l
    rw [q] at this
    cases l with
    | nil => exact absurd rfl h
    | cons a l => simp at this
  | cons a r => rfl
theorem arr_yes {n : Nat} {ws : List Bool} {c : Cs} {ks : Int} (g : Gd n c) (h : canEnter c (comersOf ws c.home) = true) :
    (arrive ws c).1 = ⟨srt (c.home ++ comersOf ws c.home), [], c.carr.filter (fun p => !decide (p ∈ comersOf ws c.home)), c.opn && (srt (c.home ++ comersOf ws c.home)).isEmpty⟩ ∧ (arrive ws c).2 = (comersOf ws c.home).map (fun p => (wEnter, V.int p)) ∧
    ks - (c.carr.length : Int) + (((comersOf ws c.home).filter fun p => decide (p ∈ c.carr)).length : Int) = ks - ((c.carr.filter (fun p => !decide (p ∈ comersOf ws c.home))).length : Int) := by
  have hn := comers_nodup ws c.home
  have hlen : ks - (c.carr.length : Int) + (((comersOf ws c.home).filter fun p => decide (p ∈ c.carr)).length : Int) = ks - ((c.carr.filter (fun p => !decide (p ∈ comersOf ws c.home))).length : Int) := by
    rw [count_swap hn (up_nodup g.cu)]
    have := filt_len (fun p => decide (p ∈ comersOf ws c.home)) c.carr
    omega
  refine ⟨?_, ?_, hlen⟩
  · unfold arrive
    dsimp only
    cases hc : comersOf ws c.home with
    | nil =>
      rw [if_pos (show ([] : List Int).isEmpty = true from rfl), List.append_nil, srt_self g.hu, filt_all (fun x _ => by simp), opn_home g]
    | cons a l =>
      rw [hc] at h
      rw [if_neg (by simp), if_pos h, srt_ne (by simp), Bool.and_false]
  · unfold arrive
    dsimp only
    cases hc : comersOf ws c.home with
    | nil => rw [if_pos (show ([] : List Int).isEmpty = true from rfl)]; rfl
    | cons a l =>
      rw [hc] at h
      rw [if_neg (by simp), if_pos h]
theorem arr_no {n : Nat} {ws : List Bool} {c : Cs} (g : Gd n c) (h : canEnter c (comersOf ws c.home) = false) :
    (arrive ws c).1 = ⟨c.home, comersOf ws c.home, c.carr, c.opn && c.home.isEmpty⟩ ∧ (arrive ws c).2 = (comersOf ws c.home).map (fun p => (wWait, V.int p)) := by
  rw [opn_home g]
  unfold arrive
  dsimp only
  cases hc : comersOf ws c.home with
  | nil => rw [if_pos (show ([] : List Int).isEmpty = true from rfl)]; exact ⟨rfl, rfl⟩
  | cons a l =>
    rw [hc] at h
    rw [if_neg (by simp), if_neg (by rw [h]; decide)]; exact ⟨rfl, rfl⟩
/-! ### the law's tick -/
abbrev nTickF : List Str := ["_law_parts_here", "_law_scene", "_law_tick_here", "_law_inside", "_law_outside", "_law_carrying", "_law_hanging", "_law_unlocked", "_law_wants", "_law_table_here", "_law_events", "_law_comers", "_law_k"]
structure TxtLv (K : PySem.W.Frag) (mg : Str → Option Value) (fLv : Addr) (fdLv : FuncData) : Prop where
  g : mg "_law_leave" = some (.ref fLv)
  F : Fun K "_law_leave" "_law_leave" sLeave fLv fdLv
  b : Binds K fdLv ["_law_parts_here", "_law_scene", "_law_tick_here", "_law_events"] []
structure CondTt (D : Ends) (σ : L2.St) (H : Hp) : Prop where
  ex : ∃ (pa qI qO qC e : Addr) (v1 v8 v9 v11 v12 : Option V) (t : Int) (op0 : Bool) (c : Cs) (ts : List Str) (ks : Int) (cs : List Int) (rs : List Pr) (evs : List Ev), σ = [some (.ref pa), v1, some (.int t), some (.ref qI), some (.ref qO), some (.ref qC), some (.int (ks - (c.carr.length : Int))), some (.bl op0), v8, v9, some (.ref e), v11, v12] ∧ PartsAt H pa ts ks cs rs ∧ Parts ts ks cs rs ∧
    H qI = some (.lst (c.home.map V.int)) ∧ H qO = some (.lst (c.wait.map V.int)) ∧ H qC = some (.lst (c.carr.map V.int)) ∧ (op0 && c.home.isEmpty) = c.opn ∧ Gd ts.length c ∧ (c.carr.length : Int) ≤ ks ∧ EvAt H e t evs ∧ evs.length ≤ 100 ∧
    ∀ (H' : Hp) (r sc' e' qI' qC' : Addr), Same H H' → H sc' = none → H qI' = none → H qC' = none → H' r = some (.tup [.ref sc', .ref e']) → ScL H' sc' qI' qO qC' ks (depart (hdOf ts ks cs rs) t (wishes ts t) c).1 → EvAt H' e' t (evs ++ (depart (hdOf ts ks cs rs) t (wishes ts t) c).2) → (e' = e ∨ H e' = none) → D.rt (.ref r) H'
section
variable {P : Program} {w : World} {K : PySem.W.Frag} {mg : Str → Option Value} {base : Heap} {fTb fLn fLv : Addr} {fdTb fdLn fdLv : FuncData}
theorem scTickF : FnScope nTickF ["_law_parts_here", "_law_scene", "_law_tick_here"] (defScope sTickF) := ⟨rfl, rfl, rfl, by decide +kernel, rfl, by decide +kernel, by decide +kernel⟩
theorem tick_tail {f : Addr} {cdv : Value} {A : Around} {outer : List Env} {s : Shared} {H : Hp} {E : XK} (T : TxtA mg) (D' : TxtD K mg fTb fLn fdTb fdLn) (L : TxtLv K mg fLv fdLv) (hr : Room 2 (A.deeper (envOfC (Str.ofString "_law_tick") (defScope sTickF) s.heap.objs.size f cdv))) :
    ∃ t, PSs (cxOf CX0 P w K mg base nTickF "_law_tick" (defScope sTickF) f cdv A outer s H E).nox ((defBody sTickF).drop 4) t ∧ ∀ D σ H2, CondTt D σ H2 → t D σ H2 := by
  have GL : FnOk P w K mg base CX0 2 fLv fdLv ["_law_parts_here", "_law_scene", "_law_tick_here", "_law_events"] spLeave := ok_leave L.F T D'
  have hu4 : (A.deeper (envOfC (Str.ofString "_law_tick") (defScope sTickF) s.heap.objs.size f cdv)).units + 64 < cLine := by have := hr.un; omega
  refine ⟨_, pss_cons (ps_set (i := 7) scTickF.nd rfl (.inl rfl) (pe_and (pv 7) (pe_one (pe_cmpR (op_eqD hu4) (pv 3) (pe_lst pa_nil) (nomark _)))))
    (pss_one (ps_ret (pe_call GL hr rfl L.g L.F.kp L.b .nil pass0 (pa_cons (pv 0) (pa_cons (pe_lst (pa_cons (pv 3) (pa_cons (pv 4) (pa_cons (pv 5) (pa_cons (pv 6) (pa_cons (pv 7) pa_nil)))))) (pa_cons (pv 2) (pa_cons (pv 10) pa_nil))))))), fun D σ H2 hc => ?_⟩
  obtain ⟨⟨pa, qI, qO, qC, e, v1, v8, v9, v11, v12, t, op0, c, ts, ks, cs, rs, evs, rfl, hpa, hP, eI, eO, eC, hop, hgd, hle, hE, hz, k⟩⟩ := hc
  have fin : ∀ (op1 : Bool) (H3 : Hp), op1 = c.opn → Same H2 H3 → ∀ sc, H3 sc = none → spLeave [.ref pa, .ref sc, .int t, .ref e] (upd H3 sc (.lst [.ref qI, .ref qO, .ref qC, .int (ks - (c.carr.length : Int)), .bl op1])) D.rt E0 := fun op1 H3 e1 s3 sc hsc => by
    subst e1
    have s4 := same_upd (o := .lst [.ref qI, .ref qO, .ref qC, .int (ks - (c.carr.length : Int)), .bl c.opn]) hsc
    have es : (upd H3 sc (.lst [.ref qI, .ref qO, .ref qC, .int (ks - (c.carr.length : Int)), .bl c.opn])) sc = some (.lst [.ref qI, .ref qO, .ref qC, .int (ks - (c.carr.length : Int)), .bl c.opn]) := upd_same
    have s34 := s3.trans s4
    generalize upd H3 sc (.lst [.ref qI, .ref qO, .ref qC, .int (ks - (c.carr.length : Int)), .bl c.opn]) = H4 at es s34
    refine ⟨pa, sc, e, qI, qO, qC, t, c, ts, ks, cs, rs, evs, rfl, hpa.mono fun a ys z => s34 _ _ z, hP, ⟨es, s34 _ _ eI, s34 _ _ eO, s34 _ _ eC⟩, hgd, hle, hE.mono s34, hz, fun H5 r sc' e' qI' qC' s5 n1 n2 n3 a1 a2 a3 a4 => ?_⟩
    exact k H5 r sc' e' qI' qC' (s34.trans s5) (s34.free n1) (s34.free n2) (s34.free n3) a1 a2 a3 (a4.imp id fun z => s34.free z)
  refine ⟨_, rfl, op0, rfl, ?_⟩
  cases op0 with
  | false => exact iteF ⟨_, rfl, _, rfl, _, rfl, _, rfl, _, rfl, _, rfl, by show 5 ≤ sizeLine; decide, fun sc hsc => ⟨_, rfl, _, rfl, fin false H2 hop (Same.refl _) sc hsc⟩⟩
  | true =>
    refine iteT ⟨_, rfl, Nat.zero_le _, fun l hl => ?_⟩
    have s1 := same_upd (o := .lst []) hl
    refine ⟨.list (dI c.home), .list [], ints_dp (s1 _ _ eI), .lst (SqL.of upd_same) .nil, ints_shaped _, by decide, ?_⟩
    rw [ints_nil]
    exact ⟨_, rfl, _, rfl, _, rfl, _, rfl, _, rfl, _, rfl, by show 5 ≤ sizeLine; decide, fun sc hsc => ⟨_, rfl, _, rfl, fin c.home.isEmpty _ hop s1 sc hsc⟩⟩
end
end Dk

set_option Elab.async false
set_option linter.all false
set_option maxRecDepth 100000
set_option maxHeartbeats 4000000
namespace Dk
open PySem PySem.Spec PyProof.Rows L2 TL
def tickY : List Stmt := match (defBody sTickF)[3]? with
  | some (Stmt.If _ a _ _) => a
  | _ => []
def tickN : List Stmt := match (defBody sTickF)[3]? with
  | some (Stmt.If _ _ b _) => b
  | _ => []
def holdN (cm carr : List Int) : Int := ((cm.filter fun p => decide (p ∈ carr)).length : Int)
section
variable {P : Program} {w : World} {K : PySem.W.Frag} {mg : Str → Option Value} {base : Heap}
theorem tick_yes {f : Addr} {cdv : Value} {A : Around} {outer : List Env} {s : Shared} {H0 : Hp} {E : XK} (hs : mg "sorted" = none) :
    ∃ tm, PSs (cxOf CX0 P w K mg base nTickF "_law_tick" (defScope sTickF) f cdv A outer s H0 E).nox tickY tm ∧ ∀ (D : Ends) (σ : L2.St) (H : Hp) (pa qI qO qC e dC : Addr) (v1 v8 v9 v12 : Option V) (t hg : Int) (op : Bool) (home carr cm : List Int),
      σ = [some (.ref pa), v1, some (.int t), some (.ref qI), some (.ref qO), some (.ref qC), some (.int hg), some (.bl op), v8, v9, some (.ref e), some (.ref dC), v12] → H qI = some (.lst (home.map V.int)) → H qC = some (.lst (carr.map V.int)) → H dC = some (.lst (cm.map V.int)) → H e = some (.lst []) → qI ≠ e → qC ≠ e → dC ≠ e → home.length ≤ 100 → carr.length ≤ 100 → cm.length ≤ 100 →
      (∀ (H' : Hp) (qI' qO' qC' : Addr) (v12' : Option V), Kp e H H' → H qI' = none → H qO' = none → H qC' = none → H' qI' = some (.lst ((srt (home ++ cm)).map V.int)) → H' qO' = some (.lst []) → H' qC' = some (.lst ((carr.filter fun p => !decide (p ∈ cm)).map V.int)) → EvAt H' e t (cm.map fun p => (wEnter, V.int p)) →
        D.nx [some (.ref pa), v1, some (.int t), some (.ref qI'), some (.ref qO'), some (.ref qC'), some (.int (hg + holdN cm carr)), some (.bl op), v8, v9, some (.ref e), some (.ref dC), v12'] H') → tm D σ H := by
  refine ⟨_, by
    exact pss_cons (ps_for PassesOwn.never rfl (pi_list (pv 11)) (pg_name (i := 12) scTickF.nd rfl (.inl rfl))
        (pss_cons (ps_expr (pe_bm PySem.F.plainAttrs_list PySem.F.slot_list_append PySem.F.type_list_append mt_append (pv 10) (pa_cons (pe_tup (pa_cons (pv 2) (pa_cons pe_str (pa_cons (pv 12) pa_nil)))) pa_nil)))
          (pss_one (ps_if (pt_cmpR op_in_seq (pv 12) (pv 5) (by rfl)) (pss_one (ps_set (i := 6) scTickF.nd rfl (.inl rfl) (pe_op op_add (pv 6) pe_int))) pss_nil))))
      (pss_cons (ps_set (i := 5) scTickF.nd rfl (.inr rfl) (pe_lc (own := [("_law_k", 12)]) (g := gName 12) (by rfl) scTickF.nd (pi_list (pv 5)) (blkOk_by (N := nTickF) (sc := defScope sTickF) (by decide +kernel))
          (fun _ _ _ _ _ => pg_name (i := 12) scTickF.nd rfl (Or.inl rfl)) (fun _ _ _ _ _ => pts_one (pt_cmpR (op_notIn_seqK (K := K) rfl) (pv 12) (pv 11) (by rfl))) (fun _ _ _ _ _ => pv 12)))
      (pss_one (ps_asg (pe_tup (pa_cons (pe_callB cr_sortedI (by rfl) hs (by decide +kernel) (pa_cons (pe_op op_cat (pv 3) (pv 11)) pa_nil)) (pa_cons (pe_lst pa_nil) pa_nil))) (pg_tup rfl (pgs_cons (pg_name (i := 3) scTickF.nd rfl (.inr rfl)) (pgs_cons (pg_name (i := 4) scTickF.nd rfl (.inl rfl)) pgs_nil)))))), ?_⟩
  intro D σ H pa qI qO qC e dC v1 v8 v9 v12 t hg op home carr cm hσ eI eC eD eE n1 n2 n3 z1 z2 z3 k
  subst hσ
  refine ⟨_, rfl, dC, rfl, ⟨_, SqL.of eD⟩, for_list (K := K) (a := dC) (xs := cm.map V.int)
      (fun i σ H' => ∃ (v12' : Option V) (xs : List V), σ = [some (.ref pa), v1, some (.int t), some (.ref qI), some (.ref qO), some (.ref qC), some (.int (hg + holdN (cm.take i) carr)), some (.bl op), v8, v9, some (.ref e), some (.ref dC), v12'] ∧ Kp e H H' ∧ H' e = some (.lst xs) ∧ Evs H' t xs ((cm.take i).map fun p => (wEnter, V.int p)))
      ⟨v12, [], by show _ = [_, _, _, _, _, _, some (V.int (hg + 0)), _, _, _, _, _, _]; rw [Int.add_zero], fun _ _ _ z => z, eE, .nil⟩ (fun i σ H' _ ⟨_, _, _, kk, _⟩ => SqL.of (kk _ _ n3 eD)) ?_ ?_⟩
  · rintro i y σ H5 hi ⟨v12', xs, rfl, kk, eE5, hE5⟩
    obtain ⟨q, eq, rfl⟩ := map_at hi
    have hi100 : i < 100 := by have := (List.getElem?_eq_some_iff.mp eq).1; omega
    have hlen := hE5.len
    have hl2 : ((cm.take i).map fun p => ((wEnter, V.int p) : Ev)).length ≤ 100 := by rw [List.length_map, List.length_take]; omega
    refine ⟨_, rfl, .inl ⟨rfl, _, SqL.of eE5⟩, _, rfl, _, rfl, by show 3 ≤ sizeLine; decide, fun u hu => ?_⟩
    have sU := same_upd (o := .tup [.int t, .str (Str.ofString "enter"), .int q]) hu
    have eu : (upd H5 u (.tup [.int t, .str (Str.ofString "enter"), .int q])) u = some (.tup [.int t, .str (Str.ofString "enter"), .int q]) := upd_same
    have eE6 := sU _ _ eE5
    have hE6 := hE5.mono fun a ys z => sU _ _ z
    have k6 : Kp e H (upd H5 u (.tup [.int t, .str (Str.ofString "enter"), .int q])) := kk.trans (sKp sU)
    generalize upd H5 u (.tup [.int t, .str (Str.ofString "enter"), .int q]) = H6 at eu eE6 hE6 k6
    refine ⟨e, _, _, rfl, rfl, eE6, ?_, ?_⟩
    · rw [hlen]; exact Nat.lt_of_le_of_lt hl2 (by decide)
    have kE : Kp e H6 (upd H6 e (.lst (xs ++ [.ref u]))) := kp_upd
    have tK : ∀ a ys, H6 a = some (.tup ys) → (upd H6 e (.lst (xs ++ [.ref u]))) a = some (.tup ys) := fun a ys z => kE _ _ (fun z' => by rw [z', eE6] at z; cases z) z
    have eE7 : (upd H6 e (.lst (xs ++ [.ref u]))) e = some (.lst (xs ++ [.ref u])) := upd_same
    have hE7 := (hE6.mono tK).snoc (e := (wEnter, .int q)) (tK _ _ eu)
    have k7 := k6.trans kE
    generalize upd H6 e (.lst (xs ++ [.ref u])) = H7 at eE7 hE7 k7
    have emap : ((cm.take i).map fun p => ((wEnter, V.int p) : Ev)) ++ [(wEnter, V.int q)] = (cm.take (i + 1)).map fun p => (wEnter, V.int p) := by rw [take_more eq, List.map_append]; rfl
    rw [emap] at hE7
    refine ⟨_, rfl, _, rfl, qC, _, rfl, .inl (SqL.of (k7 _ _ n2 eC)), rfl, by simp [flatV], ?_⟩
    show ∃ b, V.bl (inV (V.int q) (carr.map V.int)) = .bl b ∧ _
    rw [any_mem]
    refine ⟨_, rfl, ?_⟩
    have eh : holdN (cm.take (i + 1)) carr = holdN (cm.take i) carr + (if q ∈ carr then 1 else 0) := by
      unfold holdN
      rw [take_more eq, List.filter_append, List.length_append]
      by_cases hm : q ∈ carr
      · rw [filt1 (p := fun p => decide (p ∈ carr)) (decide_eq_true hm), if_pos hm]; rfl
      · rw [filt0 (p := fun p => decide (p ∈ carr)) (decide_eq_false hm), if_neg hm]; rfl
    by_cases hm : q ∈ carr
    · rw [decide_eq_true hm]
      rw [if_pos hm] at eh
      refine iteT ⟨_, rfl, _, _, rfl, rfl, some (.int q), _, ?_, k7, eE7, hE7⟩
      rw [eh, ← Int.add_assoc]
      rfl
    · rw [decide_eq_false hm]
      rw [if_neg hm, Int.add_zero] at eh
      refine iteF ⟨some (.int q), _, ?_, k7, eE7, hE7⟩
      rw [eh]
      rfl
  · rintro σ H5 ⟨v12', xs, rfl, kk, eE5, hE5⟩
    rw [List.length_map, List.take_length] at hE5 ⊢
    have eC5 := kk _ _ n2 eC
    have eD5 := kk _ _ n3 eD
    have eI5 := kk _ _ n1 eI
    have kn : ∀ a, H5 a = none → H a = none := fun a ha => by
      cases z : H a with
      | none => rfl
      | some o =>
        by_cases q : a = e
        · rw [q, eE5] at ha; cases ha
        · have := kk _ _ q z; rw [ha] at this; cases this
    refine ⟨_, rfl, qC, rfl, ⟨_, SqL.of eC5⟩, fun B hB => ?_⟩
    refine comp_filt (i := 12) (vs := [12]) (g := fun q => !decide (q ∈ cm)) hB (SqL.of eC5) (by omega) (fun q H6 Qb hm s6 hq => ?_) (fun _ => rfl) (fun _ => rfl) (fun H6 s6 eB => ?_)
    · refine ⟨_, rfl, _, rfl, dC, _, rfl, .inl (SqL.of (s6 _ _ eD5)), rfl, by simp [flatV], _, rfl, ?_⟩
      show Qb (!inV (V.int q) (cm.map V.int)) H6
      rw [any_mem]
      exact hq H6 (Same.refl H6)
    refine ⟨_, rfl, _, rfl, qI, dC, _, _, rfl, rfl, s6 _ _ eI5, s6 _ _ eD5, ?_, fun m hm => ?_⟩
    · rw [List.length_map, List.length_map]; exact Nat.le_trans (by omega : _ ≤ 200) (by decide)
    have s7 := same_upd (o := .lst (home.map V.int ++ cm.map V.int)) hm
    refine ⟨m, home ++ cm, rfl, SqL.of (by rw [upd_same, List.map_append]), fun ns' m2 hp' hs' hm2 => ?_⟩
    rw [srt_uniq hp' hs']
    have s8 := same_upd (o := .lst ((srt (home ++ cm)).map V.int)) hm2
    have e8 : (upd (upd H6 m (.lst (home.map V.int ++ cm.map V.int))) m2 (.lst ((srt (home ++ cm)).map V.int))) m2 = some (.lst ((srt (home ++ cm)).map V.int)) := upd_same
    have s68 := s7.trans s8
    have nm2 : H6 m2 = none := s7.free hm2
    generalize upd (upd H6 m (.lst (home.map V.int ++ cm.map V.int))) m2 (.lst ((srt (home ++ cm)).map V.int)) = H8 at s68 e8
    clear s7 s8 hm2 hm
    refine ⟨Nat.zero_le _, fun l hl => ⟨by show 2 ≤ sizeLine; decide, fun r hr => ⟨r, _, rfl, SqT.of upd_same, rfl, _, _, rfl, _, _, rfl, rfl, ?_⟩⟩⟩
    have s9 := same_upd (o := .lst []) hl
    have s10 := same_upd (o := .tup [.ref m2, .ref l]) hr
    have s5 := ((s6.trans s68).trans s9).trans s10
    exact k _ m2 l B _ (kk.trans (sKp s5)) (kn _ (s6.free nm2)) (kn _ ((s6.trans s68).free hl)) (kn _ hB) (s10 _ _ (s9 _ _ e8)) (s10 _ _ upd_same) (s10 _ _ (s9 _ _ (s68 _ _ eB))) ⟨xs, s5 _ _ eE5, hE5.mono fun a ys z => s5 _ _ z⟩
theorem tick_no {f : Addr} {cdv : Value} {A : Around} {outer : List Env} {s : Shared} {H0 : Hp} {E : XK} :
    ∃ tm, PSs (cxOf CX0 P w K mg base nTickF "_law_tick" (defScope sTickF) f cdv A outer s H0 E).nox tickN tm ∧ ∀ (D : Ends) (σ : L2.St) (H : Hp) (v0 v3 v5 v6 v7 v10 : Option V) (qO dC : Addr) (v1 v8 v9 v12 : Option V) (t : Int) (cm : List Int),
      σ = [v0, v1, some (.int t), v3, some (.ref qO), v5, v6, v7, v8, v9, v10, some (.ref dC), v12] → H dC = some (.lst (cm.map V.int)) → cm.length ≤ 100 →
      (∀ (H' : Hp) (e' : Addr) (v12' : Option V), Same H H' → H e' = none → EvAt H' e' t (cm.map fun p => (wWait, V.int p)) →
        D.nx [v0, v1, some (.int t), v3, some (.ref dC), v5, v6, v7, v8, v9, some (.ref e'), some (.ref dC), v12'] H') → tm D σ H := by
  refine ⟨_, by
    exact pss_cons (ps_set (i := 4) scTickF.nd rfl (.inl rfl) (pv 11))
      (pss_one (ps_setLc (own := [("_law_k", 12)]) (i := 10) (g := gName 12) (by rfl) scTickF.nd rfl rfl (sw_true rfl rfl (by rfl) (by rfl)) (pi_list (pv 11)) (blkOk_by (N := nTickF) (sc := defScope sTickF) (by decide +kernel))
        (fun _ _ _ _ _ => pg_name (i := 12) scTickF.nd rfl (Or.inl rfl)) (fun _ _ _ _ _ => pts_nil) (fun _ _ _ _ _ => pe_tup (pa_cons (pv 2) (pa_cons pe_str (pa_cons (pv 12) pa_nil)))))), ?_⟩
  intro D σ H v0 v3 v5 v6 v7 v10 qO dC v1 v8 v9 v12 t cm hσ eD z k
  subst hσ
  refine ⟨_, rfl, _, rfl, dC, rfl, ⟨_, SqL.of eD⟩, fun B hB => ?_⟩
  refine comp_evs (i := 12) (vs := [12]) (t := t) (g := fun q => (wWait, .int q)) hB (SqL.of eD) (by omega) (fun q H5 Q5 hm s5 hq => ?_) (fun _ => rfl) (fun H5 s5 hE => ?_)
  · refine ⟨_, rfl, _, rfl, by show 3 ≤ sizeLine; decide, fun u hu => ?_⟩
    exact hq _ u (same_upd hu) upd_same
  · exact k _ B _ s5 hB hE
end
end Dk

set_option Elab.async false
set_option linter.all false
set_option maxRecDepth 100000
set_option maxHeartbeats 4000000
namespace Dk
open PySem PySem.Spec PyProof.Rows L2 TL
theorem canEnter_eq (c : Cs) (cm : List Int) : canEnter c cm = (!c.home.isEmpty || (c.opn || !(cm.filter fun p => decide (p ∈ c.carr)).isEmpty)) := by
  unfold canEnter
  rw [any_filt, Bool.not_not]
  cases c.home.isEmpty <;> cases c.opn <;> rfl
def spTickL : Sp := fun vs H Q _ => ∃ (pa sc qI qO qC : Addr) (t : Int) (c : Cs) (ts : List Str) (ks : Int) (cs : List Int) (rs : List Pr), vs = [.ref pa, .ref sc, .int t] ∧ PartsAt H pa ts ks cs rs ∧ Parts ts ks cs rs ∧ ScL H sc qI qO qC ks c ∧ Gd ts.length c ∧ (c.carr.length : Int) ≤ ks ∧
  ∀ (H' : Hp) (r sc' e' qI' qO' qC' : Addr), Same H H' → H sc' = none → H e' = none → H qI' = none → H qO' = none → H qC' = none → H' r = some (.tup [.ref sc', .ref e']) → ScL H' sc' qI' qO' qC' ks (adv (hdOf ts ks cs rs) t c).1 → EvAt H' e' t (adv (hdOf ts ks cs rs) t c).2 → Q (.ref r) H'
section
variable {P : Program} {w : World} {K : PySem.W.Frag} {mg : Str → Option Value} {base : Heap} {fTb fLn fLv : Addr} {fdTb fdLn fdLv : FuncData}
theorem ok_tickL {f : Addr} {fd : FuncData} (F : Fun K "_law_tick" "_law_tick" sTickF f fd) (T : TxtA mg) (D' : TxtD K mg fTb fLn fdTb fdLn) (L : TxtLv K mg fLv fdLv) : FnOk P w K mg base CX0 3 f fd ["_law_parts_here", "_law_scene", "_law_tick_here"] spTickL := by
  refine F.ok scTickF (fun vs H Q E h => ?_) (fun cdv A outer s H vs Q E hr h => ?_)
  · obtain ⟨pa, sc, qI, qO, qC, t, c, ts, ks, cs, rs, rfl, _⟩ := h
    rfl
  · obtain ⟨pa, sc, qI, qO, qC, t, c, ts, ks, cs, rs, rfl, hpa, hP, ⟨es, eI, eO, eC⟩, hgd, hle, k⟩ := h
    obtain ⟨aT, aC, aR, xr, p1, p2, p3, p4, p5⟩ := id hpa
    have hu4 : (A.deeper (envOfC (Str.ofString "_law_tick") (defScope sTickF) s.heap.objs.size f cdv)).units + 64 < cLine := by have := hr.un; omega
    obtain ⟨tt, hpp, htt⟩ := tick_tail (P := P) (w := w) (K := K) (mg := mg) (base := base) (f := f) (cdv := cdv) (A := A) (outer := outer) (s := s) (H := H) (E := E) T D' L hr
    obtain ⟨tY, pY, hY⟩ := tick_yes (P := P) (w := w) (K := K) (mg := mg) (base := base) (f := f) (cdv := cdv) (A := A) (outer := outer) (s := s) (H0 := H) (E := E) D'.sorted
    obtain ⟨tN, pN, hN⟩ := tick_no (P := P) (w := w) (K := K) (mg := mg) (base := base) (f := f) (cdv := cdv) (A := A) (outer := outer) (s := s) (H0 := H) (E := E)
    refine ⟨_, pss_cons (ps_asg (pv 1) (pg_unl (n := 5) (by rfl) (pgs_cons (pg_name (i := 3) scTickF.nd rfl (.inr rfl)) (pgs_cons (pg_name (i := 4) scTickF.nd rfl (.inl rfl)) (pgs_cons (pg_name (i := 5) scTickF.nd rfl (.inr rfl)) (pgs_cons (pg_name (i := 6) scTickF.nd rfl (.inl rfl)) (pgs_cons (pg_name (i := 7) scTickF.nd rfl (.inl rfl)) pgs_nil)))))))
      (pss_cons (ps_set (i := 8) scTickF.nd rfl (.inr rfl) (pe_lc (own := [("_law_table_here", 9)]) (g := gName 9) (by rfl) scTickF.nd (pi_tup (pe_ix ix_tup (pv 0) pe_int (fun _ _ => rfl))) (blkOk_by (N := nTickF) (sc := defScope sTickF) (by decide +kernel))
        (fun _ _ _ _ _ => pg_name (i := 9) scTickF.nd rfl (Or.inl rfl)) (fun _ _ _ _ _ => pts_nil) (fun _ _ _ _ _ => by exact pe_cmpR op_eq (pe_item_str (pv 9) (pe_op op_mod (pv 2) (pe_callB call_len_str (by rfl) T.len PySem.boot_len (pa_cons (pv 9) pa_nil))) (fun _ _ => rfl)) pe_str (nomark _))))
      (pss_cons (ps_asg (pe_tup (pa_cons (pe_lst pa_nil) (pa_cons (pe_lc (own := [("_law_k", 12)]) (g := gName 12) (by rfl) scTickF.nd (pi_range1 rfl T.range (pa_cons (pe_callB call_len_seq (by rfl) T.len PySem.boot_len (pa_cons (pv 8) pa_nil)) pa_nil)) (blkOk_by (N := nTickF) (sc := defScope sTickF) (by decide +kernel))
          (fun _ _ _ _ _ => pg_name (i := 12) scTickF.nd rfl (Or.inl rfl)) (fun _ _ _ _ _ => pts_one (PW.pt (pw_and (pt_val (pe_ix (ix_listK (K := K) rfl) (pv 8) (pv 12) (fun _ _ => rfl))) (pw_and1 (pt_cmpR (op_notIn_seqK (K := K) rfl) (pv 12) (pv 3) (by rfl)))))) (fun _ _ _ _ _ => pv 12)) pa_nil)))
          (pg_tup rfl (pgs_cons (pg_name (i := 10) scTickF.nd rfl (.inl rfl)) (pgs_cons (pg_name (i := 11) scTickF.nd rfl (.inr rfl)) pgs_nil))))
      (pss_cons (ps_if (PW.pt (pw_or (pt_cmpR (op_neD hu4) (pv 3) (pe_lst pa_nil) (nomark _)) (pw_or (pt_val (pv 7)) (pw_or1 (pt_cmpR (op_neD hu4) (pe_lc (own := [("_law_k", 12)]) (g := gName 12) (by rfl) scTickF.nd (pi_list (pv 11)) (blkOk_by (N := nTickF) (sc := defScope sTickF) (by decide +kernel))
          (fun _ _ _ _ _ => pg_name (i := 12) scTickF.nd rfl (Or.inl rfl)) (fun _ _ _ _ _ => pts_one (pt_cmpR (op_in_seqK (K := K) rfl) (pv 12) (pv 5) (by rfl))) (fun _ _ _ _ _ => pv 12)) (pe_lst pa_nil) (nomark _)))))) pY pN) hpp))), ?_⟩
    refine ⟨_, rfl, sc, _, rfl, SqL.of es, rfl, _, _, rfl, _, _, rfl, _, _, rfl, _, _, rfl, _, _, rfl, rfl, ?_⟩
    refine ⟨_, rfl, pa, _, 0, _, rfl, rfl, SqT.of p1, at0, aT, rfl, ⟨_, SqT.of p2⟩, fun D hD => lc_tup (K := K) (a := aT) (xs := ts.map V.str)
      (fun i H3 => Same H H3 ∧ H3 D = some (.lst (((ts.take i).map fun x => homeL x t).map V.bl))) ⟨same_upd hD, upd_same⟩ (fun i H3 _ ⟨e, _⟩ => sSqT e (SqT.of p2)) ?_ ?_⟩
    · rintro i y H3 hi ⟨s3, eD⟩
      obtain ⟨x, hx, rfl⟩ := map_at hi
      have hil : i < ts.length := (List.getElem?_eq_some_iff.mp hx).1
      have hit := hP.tabs x (List.mem_of_getElem? hx)
      have hpz := hit.pos
      rw [← len_tl] at hpz
      have h0 : 0 ≤ t % (x.length : Int) := Int.emod_nonneg _ (by omega)
      have h1 : t % (x.length : Int) < (x.length : Int) := Int.emod_lt_of_pos _ (by omega)
      have hj : (t % (x.length : Int)).toNat < x.cps.size := by
        show _ < x.length
        omega
      refine ⟨rfl, _, rfl, _, rfl, _, rfl, _, rfl, hit.size, _, _, rfl, rfl, by show (0 : Int) < _; omega, x, _, x.cps[(t % (x.length : Int)).toNat], rfl, rfl, h0, by omega, h1, Array.getElem?_eq_getElem hj, rfl, ?_⟩
      rw [homeL_eq (Array.getElem?_eq_getElem hj)]
      refine ⟨_, eD, ?_, fun b o eb => ?_, ?_⟩
      · rw [List.length_map, List.length_map, List.length_take]
        have := hP.n6
        exact Nat.lt_of_le_of_lt (Nat.le_trans (Nat.min_le_left _ _) (by omega : i ≤ 100)) (by decide)
      · rw [upd_ne (ne_of_none eb hD)]; exact s3 _ _ eb
      · rw [upd_same, take_more hx, List.map_append, List.map_append]; rfl
    rintro H1 ⟨s1, eD⟩
    rw [List.length_map, List.take_length] at eD
    have ews : (ts.map fun x => homeL x t) = wishes ts t := rfl
    rw [ews] at eD
    have hwl := wishes_len ts t
    have eadv : adv (hdOf ts ks cs rs) t c = ((depart (hdOf ts ks cs rs) t (wishes ts t) (arrive (wishes ts t) c).1).1, (arrive (wishes ts t) c).2 ++ (depart (hdOf ts ks cs rs) t (wishes ts t) (arrive (wishes ts t) c).1).2) := rfl
    have l6 := hP.n6
    have k9 := hP.k9
    have hhl : c.home.length ≤ ts.length := up_len hgd.hu hgd.hi
    have hgd2 := gd_arrive hwl hgd
    have hale : (arrive (wishes ts t) c).1.carr.length ≤ c.carr.length := (arrive_in (n := ts.length) hwl hgd.hi).2.2
    have hal : (arrive (wishes ts t) c).2.length ≤ 6 := by
      have := comers_len (wishes ts t) c.home
      unfold arrive
      dsimp only
      split
      · exact Nat.zero_le _
      · split <;> (rw [List.length_map]; omega)
    -- nothing has happened; who comes
    refine ⟨Nat.zero_le _, fun le hle0 => ?_⟩
    have s2 := s1.trans (same_upd (o := .lst []) hle0)
    have eD := same_upd (o := .lst []) hle0 _ _ eD
    have eL : (upd H1 le (.lst [])) le = some (.lst []) := upd_same
    have nle : H le = none := s1.free hle0
    generalize upd H1 le (.lst []) = H2 at s2 eD eL
    refine ⟨_, rfl, D, _, rfl, .inl (SqL.of eD), _, rfl, by omega, by rw [List.length_map]; omega, fun D2 hD2 => lc_range (lo := 0) (n := ((((wishes ts t).map V.bl).length : Nat) : Int).toNat)
      (fun i H3 => Same H2 H3 ∧ H3 D2 = some (.lst (((rg i).filter fun q => wants (wishes ts t) q && !decide (q ∈ c.home)).map V.int)))
      ⟨same_upd hD2, upd_same⟩ ?_ ?_⟩
    · rintro i H3 hi ⟨s3, eD2⟩
      rw [List.length_map] at hi
      have hi2 : i < (wishes ts t).length := by omega
      have er : rg (i + 1) = rg i ++ [(0 : Int) + (i : Int)] := by rw [rg_succ, Int.zero_add]
      have no : (wants (wishes ts t) ((0 : Int) + (i : Int)) && !decide (((0 : Int) + (i : Int)) ∈ c.home)) = false → Same H2 H3 ∧ H3 D2 = some (.lst (((rg (i + 1)).filter fun q => wants (wishes ts t) q && !decide (q ∈ c.home)).map V.int)) := fun hn => by
        rw [er, List.filter_append, filt0 (p := fun q => wants (wishes ts t) q && !decide (q ∈ c.home)) hn, List.append_nil]
        exact ⟨s3, eD2⟩
      refine ⟨rfl, _, rfl, _, rfl, D, _, _, _, rfl, rfl, SqL.of (s3 _ _ eD), wants_ix (by omega) (by omega), _, rfl, ?_⟩
      cases hb : wants (wishes ts t) ((0 : Int) + (i : Int)) with
      | false => exact iteF (iteF (no (by rw [hb]; rfl)))
      | true =>
        refine iteT ⟨_, rfl, _, rfl, qI, _, rfl, .inl (SqL.of (s3 _ _ (s2 _ _ eI))), rfl, by simp [flatV], _, rfl, ?_⟩
        show (if (!inV (V.int ((0 : Int) + (i : Int))) (c.home.map V.int)) = true then _ else _)
        rw [any_mem]
        by_cases hm : ((0 : Int) + (i : Int)) ∈ c.home
        · rw [decide_eq_true hm]
          exact iteF (no (by rw [hb, decide_eq_true hm]; rfl))
        · rw [decide_eq_false hm]
          refine iteT ⟨_, rfl, _, eD2, ?_, fun b' o eb' => ?_, ?_⟩
          · rw [List.length_map]
            have := List.length_filter_le (fun q => wants (wishes ts t) q && !decide (q ∈ c.home)) (rg i)
            rw [rg_len] at this
            exact Nat.lt_of_le_of_lt (by omega : _ ≤ 100) (by decide)
          · rw [upd_ne (ne_of_none eb' hD2)]; exact s3 _ _ eb'
          · rw [upd_same, er, List.filter_append, filt1 (p := fun q => wants (wishes ts t) q && !decide (q ∈ c.home)) (by show (wants (wishes ts t) ((0 : Int) + (i : Int)) && !decide (((0 : Int) + (i : Int)) ∈ c.home)) = true; rw [hb, decide_eq_false hm]; rfl), List.map_append]; rfl
    rintro H3 ⟨s3, eD2⟩
    have eln : ((((wishes ts t).map V.bl).length : Nat) : Int).toNat = (wishes ts t).length := by rw [List.length_map]; exact Int.toNat_natCast _
    rw [eln] at eD2
    have ecm : (rg (wishes ts t).length).filter (fun q => wants (wishes ts t) q && !decide (q ∈ c.home)) = comersOf (wishes ts t) c.home := rfl
    rw [ecm] at eD2
    have hcz : (comersOf (wishes ts t) c.home).length ≤ 6 := by have := comers_len (wishes ts t) c.home; omega
    have ay := fun h => arr_yes (ws := wishes ts t) (ks := ks) hgd h
    have an := fun h => arr_no (ws := wishes ts t) hgd h
    refine ⟨by show 2 ≤ sizeLine; decide, fun u0 hu0 => ⟨u0, _, rfl, SqT.of upd_same, rfl, _, _, rfl, _, _, rfl, rfl, ?_⟩⟩
    have nD2 : H D2 = none := s2.free hD2
    have s4 := (s2.trans s3).trans (same_upd (o := .tup [.ref le, .ref D2]) hu0)
    have eD2 := same_upd (o := .tup [.ref le, .ref D2]) hu0 _ _ eD2
    have eL := same_upd (o := .tup [.ref le, .ref D2]) hu0 _ _ (s3 _ _ eL)
    generalize upd H3 u0 (.tup [.ref le, .ref D2]) = H4 at s4 eD2 eL
    generalize hcm : comersOf (wishes ts t) c.home = cm at eD2 hcz ay an
    have nlD : D2 ≠ le := (ne_of_none (by assumption : H2 le = some (.lst [])) hD2).symm
    have yes : canEnter c cm = true → ∀ (D0 : Ends) (v8 v9 v12 : Option V) (H5 : Hp), Same H4 H5 → (∀ σ' H', (∀ D1 : Ends, D1.rt = Q → CondTt D1 σ' H') → D0.nx σ' H') →
        tY D0 [some (.ref pa), some (.ref sc), some (.int t), some (.ref qI), some (.ref qO), some (.ref qC), some (.int (ks - (c.carr.length : Int))), some (.bl c.opn), v8, v9, some (.ref le), some (.ref D2), v12] H5 := fun hce D0 v8 v9 v12 H5 s5 hnx => by
      obtain ⟨y1, y2, y3⟩ := ay hce
      have s45 := s4.trans s5
      refine hY D0 _ H5 pa qI qO qC le D2 _ v8 v9 v12 t _ c.opn c.home c.carr cm rfl (s45 _ _ eI) (s45 _ _ eC) (s5 _ _ eD2) (s5 _ _ eL) (ne_of_none eI nle) (ne_of_none eC nle) nlD (by omega) (by omega) (by omega) (fun H' qI' qO' qC' v12' kk m1 m2 m3 f1 f2 f3 hE' => hnx _ _ fun D1 hD1 => ?_)
      have s6 : Same H H' := fun b o eb => kk _ _ (ne_of_none eb nle) (s45 _ _ eb)
      refine ⟨⟨pa, qI', qO', qC', le, some (.ref sc), v8, v9, some (.ref D2), v12', t, c.opn, (arrive (wishes ts t) c).1, ts, ks, cs, rs, (arrive (wishes ts t) c).2, ?_, hpa.mono fun a ys z => s6 _ _ z, hP, ?_, ?_, ?_, ?_, hgd2, by omega, ?_, by omega, fun H7 r sc' e' qI7 qC7 s7 n1 n2 n3 a1 a2 a3 a4 => ?_⟩⟩
      · rw [y1]
        show _ = [_, _, _, _, _, _, some (V.int (ks - ((c.carr.filter (fun p => !decide (p ∈ cm))).length : Int))), _, _, _, _, _, _]
        rw [← y3]
        rfl
      · rw [y1]; exact f1
      · rw [y1]; exact f2
      · rw [y1]; exact f3
      · rw [y1]
      · rw [y2]; exact hE'
      · rw [hD1]
        refine k H7 r sc' e' qI7 qO' qC7 (s6.trans s7) (s6.free n1) ?_ (s6.free n2) (s45.free m2) (s6.free n3) a1 ?_ ?_
        · rcases a4 with a4 | a4
          · rw [a4]; exact nle
          · exact s6.free a4
        · rw [eadv]; exact a2
        · rw [eadv]; exact a3
    have no : canEnter c cm = false → ∀ (D0 : Ends) (v8 v9 v12 : Option V) (H5 : Hp), Same H4 H5 → (∀ σ' H', (∀ D1 : Ends, D1.rt = Q → CondTt D1 σ' H') → D0.nx σ' H') →
        tN D0 [some (.ref pa), some (.ref sc), some (.int t), some (.ref qI), some (.ref qO), some (.ref qC), some (.int (ks - (c.carr.length : Int))), some (.bl c.opn), v8, v9, some (.ref le), some (.ref D2), v12] H5 := fun hce D0 v8 v9 v12 H5 s5 hnx => by
      obtain ⟨y1, y2⟩ := an hce
      have s45 := s4.trans s5
      refine hN D0 _ H5 _ _ _ _ _ _ qO D2 _ v8 v9 v12 t cm rfl (s5 _ _ eD2) (by omega) (fun H' e2 v12' s6 m1 hE' => hnx _ _ fun D1 hD1 => ?_)
      have s56 := s45.trans s6
      refine ⟨⟨pa, qI, D2, qC, e2, some (.ref sc), v8, v9, some (.ref D2), v12', t, c.opn, (arrive (wishes ts t) c).1, ts, ks, cs, rs, (arrive (wishes ts t) c).2, ?_, hpa.mono fun a ys z => s56 _ _ z, hP, ?_, ?_, ?_, ?_, hgd2, by omega, ?_, by omega, fun H7 r sc' e' qI7 qC7 s7 n1 n2 n3 a1 a2 a3 a4 => ?_⟩⟩
      · rw [y1]
      · rw [y1]; exact s56 _ _ eI
      · rw [y1]; exact s6 _ _ (s5 _ _ eD2)
      · rw [y1]; exact s56 _ _ eC
      · rw [y1]
      · rw [y2]; exact hE'
      · rw [hD1]
        refine k H7 r sc' e' qI7 D2 qC7 (s56.trans s7) (s56.free n1) ?_ (s56.free n2) nD2 (s56.free n3) a1 ?_ ?_
        · rcases a4 with a4 | a4
          · rw [a4]; exact s45.free m1
          · exact s56.free a4
        · rw [eadv]; exact a2
        · rw [eadv]; exact a3
    rw [canEnter_eq] at yes no
    refine ⟨_, rfl, Nat.zero_le _, fun l hl => ?_⟩
    have s5 := same_upd (o := .lst []) hl
    refine ⟨.list (dI c.home), .list [], ints_dp (s5 _ _ (s4 _ _ eI)), .lst (SqL.of upd_same) .nil, ints_shaped _, by decide, _, rfl, ?_⟩
    rw [ints_nil]
    cases q1 : c.home.isEmpty with
    | false => exact iteT (iteT (yes (by rw [q1]; rfl) _ _ _ _ _ s5 fun σ' H' hc => htt _ _ _ (hc _ rfl)))
    | true =>
      refine iteF ⟨_, rfl, _, rfl, ?_⟩
      cases q2 : c.opn with
      | true =>
        rw [q2] at yes
        exact iteT (iteT (yes (by rw [q1]; rfl) _ _ _ _ _ s5 fun σ' H' hc => htt _ _ _ (hc _ rfl)))
      | false =>
        rw [q2] at yes no
        generalize upd H4 l (.lst []) = H5 at s5
        refine iteF ⟨_, rfl, D2, rfl, ⟨_, SqL.of (s5 _ _ eD2)⟩, fun B hB => ?_⟩
        refine comp_filt (i := 12) (vs := [12]) (g := fun q => decide (q ∈ c.carr)) hB (SqL.of (s5 _ _ eD2)) (by omega) (fun q H6 Qb hm s6 hq => ?_) (fun _ => rfl) (fun _ => rfl) (fun H6 s6 eB => ?_)
        · refine ⟨_, rfl, _, rfl, qC, _, rfl, .inl (SqL.of (s6 _ _ (s5 _ _ (s4 _ _ eC)))), rfl, by simp [flatV], _, rfl, ?_⟩
          show Qb (inV (V.int q) (c.carr.map V.int)) H6
          rw [any_mem]
          exact hq H6 (Same.refl H6)
        refine ⟨Nat.zero_le _, fun l2 hl2 => ?_⟩
        have s7 := same_upd (o := .lst []) hl2
        refine ⟨.list (dI (cm.filter fun q => decide (q ∈ c.carr))), .list [], ints_dp (s7 _ _ eB), .lst (SqL.of upd_same) .nil, ints_shaped _, by decide, _, rfl, ?_⟩
        rw [ints_nil]
        have s47 := (s5.trans s6).trans s7
        cases q3 : (cm.filter fun q => decide (q ∈ c.carr)).isEmpty with
        | false => exact iteT (yes (by rw [q1, q3]; rfl) _ _ _ _ _ s47 fun σ' H' hc => htt _ _ _ (hc _ rfl))
        | true => exact iteF (no (by rw [q1, q3]; rfl) _ _ _ _ _ s47 fun σ' H' hc => htt _ _ _ (hc _ rfl))
end
end Dk

set_option Elab.async false
set_option linter.all false
set_option maxRecDepth 100000
set_option maxHeartbeats 4000000
namespace Dk
open PySem PySem.Spec PyProof.Rows L2 TL
abbrev nDays : List Str := ["_law_parts_here", "_law_ticks", "_law_scene", "_law_scenes", "_law_events", "_law_tick_here", "_law_some"]
/-- a scene apart from two lists -/
def ScA (Hb : Hp) (sl el : Addr) (H : Hp) (sc qI qO qC : Addr) (ks : Int) (c : Cs) : Prop := ScL H sc qI qO qC ks c ∧ (sc ≠ sl ∧ sc ≠ el ∧ Hb sc = none) ∧ (qI ≠ sl ∧ qI ≠ el ∧ Hb qI = none) ∧ (qO ≠ sl ∧ qO ≠ el ∧ Hb qO = none) ∧ (qC ≠ sl ∧ qC ≠ el ∧ Hb qC = none)
theorem ScA.kp {Hb : Hp} {sl el : Addr} {H H' : Hp} {sc qI qO qC : Addr} {ks : Int} {c : Cs} (h : ScA Hb sl el H sc qI qO qC ks c) (k : Kp2 sl el H H') : ScA Hb sl el H' sc qI qO qC ks c := by
  obtain ⟨⟨a1, a2, a3, a4⟩, n1, n2, n3, n4⟩ := h
  exact ⟨⟨k _ _ n1.1 n1.2.1 a1, k _ _ n2.1 n2.2.1 a2, k _ _ n3.1 n3.2.1 a3, k _ _ n4.1 n4.2.1 a4⟩, n1, n2, n3, n4⟩
def ScSs (Hb : Hp) (sl el : Addr) (H : Hp) (hd : Hd) (xs : List V) (n : Nat) : Prop := xs.length = n ∧ ∀ i, i < n → ∃ sc qI qO qC, xs[i]? = some (.ref sc) ∧ ScA Hb sl el H sc qI qO qC hd.ks (stt hd (i + 1))
theorem ScSs.kp {Hb : Hp} {sl el : Addr} {H H' : Hp} {hd : Hd} {xs : List V} {n : Nat} (h : ScSs Hb sl el H hd xs n) (k : Kp2 sl el H H') : ScSs Hb sl el H' hd xs n :=
  ⟨h.1, fun i hi => by
    obtain ⟨sc, qI, qO, qC, a, b⟩ := h.2 i hi
    exact ⟨sc, qI, qO, qC, a, b.kp k⟩⟩
theorem ScSs.snoc {Hb : Hp} {sl el : Addr} {H : Hp} {hd : Hd} {xs : List V} {n : Nat} {sc qI qO qC : Addr} (h : ScSs Hb sl el H hd xs n) (b : ScA Hb sl el H sc qI qO qC hd.ks (stt hd (n + 1))) : ScSs Hb sl el H hd (xs ++ [.ref sc]) (n + 1) := by
  obtain ⟨h1, h2⟩ := h
  refine ⟨by rw [List.length_append, h1]; rfl, fun i hi => ?_⟩
  by_cases e : i = n
  · subst e
    exact ⟨sc, qI, qO, qC, by rw [← h1]; simp, b⟩
  · obtain ⟨sc', qI', qO', qC', a, b'⟩ := h2 i (by omega)
    exact ⟨sc', qI', qO', qC', by rw [List.getElem?_append_left (by omega)]; exact a, b'⟩
def TupK (sl el : Addr) (H H' : Hp) : Prop := Kp2 sl el H H' ∧ ∀ a ys, H a = some (.tup ys) → H' a = some (.tup ys)
theorem tupK_same {sl el : Addr} {H H' : Hp} (s : Same H H') : TupK sl el H H' := ⟨Kp2.same s, fun a ys z => s _ _ z⟩
theorem tupK_upd1 {sl el : Addr} {H : Hp} {xs : List V} {o : HO} (e : H sl = some (.lst xs)) : TupK sl el H (upd H sl o) := ⟨fun b u n1 n2 h => by rw [upd_ne n1]; exact h, fun a ys z => by rw [upd_ne (fun q => by rw [q, e] at z; cases z)]; exact z⟩
theorem tupK_upd2 {sl el : Addr} {H : Hp} {xs : List V} {o : HO} (e : H el = some (.lst xs)) : TupK sl el H (upd H el o) := ⟨fun b u n1 n2 h => by rw [upd_ne n2]; exact h, fun a ys z => by rw [upd_ne (fun q => by rw [q, e] at z; cases z)]; exact z⟩
def evOf (h : Hd) (i : Nat) : List Ev := (adv h (i : Int) (stt h i)).2
def EvA (Hb : Hp) (sl el : Addr) (H : Hp) (e : Addr) (t : Int) (evs : List Ev) : Prop := EvAt H e t evs ∧ e ≠ sl ∧ e ≠ el ∧ Hb e = none
theorem EvA.kp {Hb : Hp} {sl el : Addr} {H H' : Hp} {e : Addr} {t : Int} {evs : List Ev} (h : EvA Hb sl el H e t evs) (k : TupK sl el H H') : EvA Hb sl el H' e t evs := by
  obtain ⟨⟨xs, b1, b2⟩, n1, n2, n3⟩ := h
  exact ⟨⟨xs, k.1 _ _ n1 n2 b1, b2.mono k.2⟩, n1, n2, n3⟩
def EvSs (Hb : Hp) (sl el : Addr) (H : Hp) (hd : Hd) (ys : List V) (n : Nat) : Prop := ys.length = n ∧ ∀ i, i < n → ∃ e, ys[i]? = some (.ref e) ∧ EvA Hb sl el H e (i : Int) (evOf hd i)
theorem EvSs.kp {Hb : Hp} {sl el : Addr} {H H' : Hp} {hd : Hd} {ys : List V} {n : Nat} (h : EvSs Hb sl el H hd ys n) (k : TupK sl el H H') : EvSs Hb sl el H' hd ys n :=
  ⟨h.1, fun i hi => by
    obtain ⟨e, a, b⟩ := h.2 i hi
    exact ⟨e, a, b.kp k⟩⟩
theorem EvSs.snoc {Hb : Hp} {sl el : Addr} {H : Hp} {hd : Hd} {ys : List V} {n : Nat} {e : Addr} (h : EvSs Hb sl el H hd ys n) (b : EvA Hb sl el H e (n : Int) (evOf hd n)) : EvSs Hb sl el H hd (ys ++ [.ref e]) (n + 1) := by
  obtain ⟨h1, h2⟩ := h
  refine ⟨by rw [List.length_append, h1]; rfl, fun i hi => ?_⟩
  by_cases q : i = n
  · subst q
    exact ⟨e, by rw [← h1]; simp, b⟩
  · obtain ⟨e', a, b'⟩ := h2 i (by omega)
    exact ⟨e', by rw [List.getElem?_append_left (by omega)]; exact a, b'⟩
def spDaysL : Sp := fun vs H Q _ => ∃ (pa : Addr) (n : Nat) (ts : List Str) (ks : Int) (cs : List Int) (rs : List Pr), vs = [.ref pa, .int (n : Int)] ∧ n ≤ 400000 ∧ PartsAt H pa ts ks cs rs ∧ Parts ts ks cs rs ∧
  ∀ (H' : Hp) (r sl el : Addr) (xs ys : List V), Same H H' → H' r = some (.tup [.ref sl, .ref el]) → H sl = none → H el = none → H' sl = some (.lst xs) → H' el = some (.lst ys) → ScSs H sl el H' (hdOf ts ks cs rs) xs n → EvSs H sl el H' (hdOf ts ks cs rs) ys n → Q (.ref r) H'
structure TxtTk2 (K : PySem.W.Frag) (mg : Str → Option Value) (fTl : Addr) (fdTl : FuncData) : Prop where
  g : mg "_law_tick" = some (.ref fTl)
  F : Fun K "_law_tick" "_law_tick" sTickF fTl fdTl
  b : Binds K fdTl ["_law_parts_here", "_law_scene", "_law_tick_here"] []
section
variable {P : Program} {w : World} {K : PySem.W.Frag} {mg : Str → Option Value} {base : Heap} {fTb fLn fLv fTl : Addr} {fdTb fdLn fdLv fdTl : FuncData}
end
end Dk

set_option Elab.async false
set_option linter.all false
set_option maxRecDepth 100000
set_option maxHeartbeats 1000000
namespace Dk
open PySem PySem.Spec PyProof.Rows L2 TL
/-! ### comprehensions by turns: keep k, Res k -/
theorem pair_snoc {α β : Type} {R : α → β → Prop} : ∀ {xs : List α} {ys : List β} {x : α} {y : β}, Paired R xs ys → R x y → Paired R (xs ++ [x]) (ys ++ [y])
  | [], [], _, _, .nil, h => .cons h .nil
  | _ :: _, _ :: _, _, _, .cons a q, h => .cons a (pair_snoc q h)
theorem pair_imp {α β : Type} {R S : α → β → Prop} (k : ∀ a b, R a b → S a b) : ∀ {xs : List α} {ys : List β}, Paired R xs ys → Paired S xs ys
  | [], [], .nil => .nil
  | _ :: _, _ :: _, .cons a q => .cons (k _ _ a) (pair_imp k q)
theorem pair_len {α β : Type} {R : α → β → Prop} : ∀ {xs : List α} {ys : List β}, Paired R xs ys → xs.length = ys.length
  | [], [], .nil => rfl
  | _ :: _, _ :: _, .cons _ q => by rw [List.length_cons, List.length_cons, pair_len q]
theorem pair_map {α β : Type} {f : α → β} : ∀ {xs : List α} {ys : List β}, Paired (fun a b => b = f a) xs ys → ys = xs.map f
  | [], [], .nil => rfl
  | _ :: _, _ :: _, .cons a q => by rw [List.map_cons, pair_map q, a]
theorem filt_succ (keep : Nat → Bool) (i : Nat) : (List.range (i + 1)).filter keep = (List.range i).filter keep ++ (if keep i = true then [i] else []) := by
  rw [List.range_succ, List.filter_append]
  congr 1
  by_cases c : keep i = true
  · rw [if_pos c]; simp [c]
  · rw [if_neg c]; simp [c]
section
variable {K : PySem.W.Frag} {H1 : Hp} {D : Addr} {σ : L2.St} {i : Nat} {vs : List Nat} {tt : TT} {te : TE} {Qd : Hp → Prop} {keep : Nat → Bool} {Res : Hp → Nat → V → Prop}
theorem comp_range {lo : Int} {n : Nat} (hD : H1 D = none) (hz : n ≤ 1000000) (keep : Nat → Bool) (Res : Hp → Nat → V → Prop) (hm : ∀ H H' k v, Kp D H H' → Res H k v → Res H' k v)
    (ht : ∀ k H2 Qb, k < n → Same H1 H2 → H2 D ≠ none → (∀ H3, Same H2 H3 → Qb (keep k) H3) → tt ((wipe σ vs).set i (some (.int (lo + (k : Nat))))) H2 Qb)
    (he : ∀ k H2 Q, k < n → keep k = true → Same H1 H2 → H2 D ≠ none → (∀ H3 y, Same H2 H3 → Res H3 k y → Q y H3) → te ((wipe σ vs).set i (some (.int (lo + (k : Nat))))) H2 Q)
    (hw : ∀ x : V, wipe ((wipe σ vs).set i (some x)) vs = wipe σ vs)
    (hd : ∀ H2 ys, Same H1 H2 → H2 D = some (.lst ys) → Paired (fun k y => Res H2 k y) ((List.range n).filter keep) ys → Qd H2) :
    ∃ W : Nat → Nat → Hp → Prop, (∃ m, W 0 m (upd H1 D (.lst []))) ∧ ∀ i' m H, W i' m H →
      ((Itr lo n).stop i' H ∧ Qd H) ∨ ((Itr lo n).go i' H ∧ ∃ Nx : Hp → Prop, (∀ H', Nx H' → ∃ m', m' < m ∧ W (i' + 1) m' H') ∧ ∀ x H', (Itr lo n).yld i' H x H' → gName i x (wipe σ vs) H' fun σ2 H2 => wipe σ2 vs = wipe σ vs ∧ tt σ2 H2 fun b H3 =>
        if b = true then te σ2 H3 fun y H4 => ∃ acc, H4 D = some (.lst acc) ∧ acc.length < sizeLine ∧ Nx (upd H4 D (.lst (acc ++ [y]))) else Nx H3) := by
  refine lc_range (lo := lo) (n := n) (g := gName i) (tt := tt) (te := te) (vs := vs) (σ := σ) (Qd := Qd)
    (fun i H3 => Same H1 H3 ∧ ∃ ys, H3 D = some (.lst ys) ∧ Paired (fun k y => Res H3 k y) ((List.range i).filter keep) ys) ⟨same_upd hD, [], upd_same, .nil⟩ ?_ ?_
  · rintro j H3 hj ⟨s3, ys, eD, hp⟩
    have dn : H3 D ≠ none := by rw [eD]; intro z; cases z
    refine ⟨hw _, ht j H3 _ hj s3 dn fun H4 s4 => ?_⟩
    have nD : ∀ b o, H1 b = some o → b ≠ D := fun b o e z => by rw [z, hD] at e; cases e
    have eD4 := s4 _ _ eD
    by_cases c : keep j = true
    · rw [if_pos c]
      refine he j H4 _ hj c (s3.trans s4) (by rw [eD4]; intro z; cases z) fun H5 y s5 hy => ⟨ys, s5 _ _ eD4, ?_, fun b o e => ?_, ys ++ [y], upd_same, ?_⟩
      · rw [← pair_len hp]
        have := List.length_filter_le keep (List.range j)
        rw [List.length_range] at this
        exact Nat.lt_of_le_of_lt (by omega : _ ≤ 1000000) (by decide)
      · rw [upd_ne (nD _ _ e)]; exact (s3.trans (s4.trans s5)) _ _ e
      · have k6 : Kp D H5 (upd H5 D (.lst (ys ++ [y]))) := fun b o n e => by rw [upd_ne n]; exact e
        rw [filt_succ, if_pos c]
        exact pair_snoc (pair_imp (fun k v r => hm _ _ k v ((sKp (s4.trans s5)).trans k6) r) hp) (hm _ _ _ _ k6 hy)
    · rw [if_neg c]
      refine ⟨s3.trans s4, ys, eD4, ?_⟩
      rw [filt_succ, if_neg c, List.append_nil]
      exact pair_imp (fun k v r => hm _ _ k v (sKp s4) r) hp
  · rintro H3 ⟨s3, ys, eD, hp⟩
    exact hd H3 ys s3 eD hp
theorem comp_list {l : Addr} {xs : List V} (hD : H1 D = none) (hl : SqL K H1 l xs) (hz : xs.length ≤ 1000000) (keep : Nat → Bool) (Res : Hp → Nat → V → Prop) (hm : ∀ H H' k v, Kp D H H' → Res H k v → Res H' k v)
    (ht : ∀ k x H2 Qb, xs[k]? = some x → Same H1 H2 → H2 D ≠ none → (∀ H3, Same H2 H3 → Qb (keep k) H3) → tt ((wipe σ vs).set i (some x)) H2 Qb)
    (he : ∀ k x H2 Q, xs[k]? = some x → keep k = true → Same H1 H2 → H2 D ≠ none → (∀ H3 y, Same H2 H3 → Res H3 k y → Q y H3) → te ((wipe σ vs).set i (some x)) H2 Q)
    (hw : ∀ x : V, wipe ((wipe σ vs).set i (some x)) vs = wipe σ vs)
    (hd : ∀ H2 ys, Same H1 H2 → H2 D = some (.lst ys) → Paired (fun k y => Res H2 k y) ((List.range xs.length).filter keep) ys → Qd H2) :
    ∃ W : Nat → Nat → Hp → Prop, (∃ m, W 0 m (upd H1 D (.lst []))) ∧ ∀ i' m H, W i' m H →
      ((Itl K l).stop i' H ∧ Qd H) ∨ ((Itl K l).go i' H ∧ ∃ Nx : Hp → Prop, (∀ H', Nx H' → ∃ m', m' < m ∧ W (i' + 1) m' H') ∧ ∀ x H', (Itl K l).yld i' H x H' → gName i x (wipe σ vs) H' fun σ2 H2 => wipe σ2 vs = wipe σ vs ∧ tt σ2 H2 fun b H3 =>
        if b = true then te σ2 H3 fun y H4 => ∃ acc, H4 D = some (.lst acc) ∧ acc.length < sizeLine ∧ Nx (upd H4 D (.lst (acc ++ [y]))) else Nx H3) := by
  refine lc_list (K := K) (a := l) (xs := xs) (g := gName i) (tt := tt) (te := te) (vs := vs) (σ := σ) (Qd := Qd)
    (fun i H3 => Same H1 H3 ∧ ∃ ys, H3 D = some (.lst ys) ∧ Paired (fun k y => Res H3 k y) ((List.range i).filter keep) ys) ⟨same_upd hD, [], upd_same, .nil⟩ (fun i H3 _ ⟨e, _⟩ => e.seq hl) ?_ ?_
  · rintro j x H3 hj ⟨s3, ys, eD, hp⟩
    have hj' : j < xs.length := (List.getElem?_eq_some_iff.mp hj).1
    have dn : H3 D ≠ none := by rw [eD]; intro z; cases z
    refine ⟨hw _, ht j x H3 _ hj s3 dn fun H4 s4 => ?_⟩
    have nD : ∀ b o, H1 b = some o → b ≠ D := fun b o e z => by rw [z, hD] at e; cases e
    have eD4 := s4 _ _ eD
    by_cases c : keep j = true
    · rw [if_pos c]
      refine he j x H4 _ hj c (s3.trans s4) (by rw [eD4]; intro z; cases z) fun H5 y s5 hy => ⟨ys, s5 _ _ eD4, ?_, fun b o e => ?_, ys ++ [y], upd_same, ?_⟩
      · rw [← pair_len hp]
        have := List.length_filter_le keep (List.range j)
        rw [List.length_range] at this
        exact Nat.lt_of_le_of_lt (by omega : _ ≤ 1000000) (by decide)
      · rw [upd_ne (nD _ _ e)]; exact (s3.trans (s4.trans s5)) _ _ e
      · have k6 : Kp D H5 (upd H5 D (.lst (ys ++ [y]))) := fun b o n e => by rw [upd_ne n]; exact e
        rw [filt_succ, if_pos c]
        exact pair_snoc (pair_imp (fun k v r => hm _ _ k v ((sKp (s4.trans s5)).trans k6) r) hp) (hm _ _ _ _ k6 hy)
    · rw [if_neg c]
      refine ⟨s3.trans s4, ys, eD4, ?_⟩
      rw [filt_succ, if_neg c, List.append_nil]
      exact pair_imp (fun k v r => hm _ _ k v (sKp s4) r) hp
  · rintro H3 ⟨s3, ys, eD, hp⟩
    exact hd H3 ys s3 eD hp
theorem comp_tup {l : Addr} {xs : List V} (hD : H1 D = none) (hl : SqT K H1 l xs) (hz : xs.length ≤ 1000000) (keep : Nat → Bool) (Res : Hp → Nat → V → Prop) (hm : ∀ H H' k v, Kp D H H' → Res H k v → Res H' k v)
    (ht : ∀ k x H2 Qb, xs[k]? = some x → Same H1 H2 → H2 D ≠ none → (∀ H3, Same H2 H3 → Qb (keep k) H3) → tt ((wipe σ vs).set i (some x)) H2 Qb)
    (he : ∀ k x H2 Q, xs[k]? = some x → keep k = true → Same H1 H2 → H2 D ≠ none → (∀ H3 y, Same H2 H3 → Res H3 k y → Q y H3) → te ((wipe σ vs).set i (some x)) H2 Q)
    (hw : ∀ x : V, wipe ((wipe σ vs).set i (some x)) vs = wipe σ vs)
    (hd : ∀ H2 ys, Same H1 H2 → H2 D = some (.lst ys) → Paired (fun k y => Res H2 k y) ((List.range xs.length).filter keep) ys → Qd H2) :
    ∃ W : Nat → Nat → Hp → Prop, (∃ m, W 0 m (upd H1 D (.lst []))) ∧ ∀ i' m H, W i' m H →
      ((Itt K l).stop i' H ∧ Qd H) ∨ ((Itt K l).go i' H ∧ ∃ Nx : Hp → Prop, (∀ H', Nx H' → ∃ m', m' < m ∧ W (i' + 1) m' H') ∧ ∀ x H', (Itt K l).yld i' H x H' → gName i x (wipe σ vs) H' fun σ2 H2 => wipe σ2 vs = wipe σ vs ∧ tt σ2 H2 fun b H3 =>
        if b = true then te σ2 H3 fun y H4 => ∃ acc, H4 D = some (.lst acc) ∧ acc.length < sizeLine ∧ Nx (upd H4 D (.lst (acc ++ [y]))) else Nx H3) := by
  refine lc_tup (K := K) (a := l) (xs := xs) (g := gName i) (tt := tt) (te := te) (vs := vs) (σ := σ) (Qd := Qd)
    (fun i H3 => Same H1 H3 ∧ ∃ ys, H3 D = some (.lst ys) ∧ Paired (fun k y => Res H3 k y) ((List.range i).filter keep) ys) ⟨same_upd hD, [], upd_same, .nil⟩ (fun i H3 _ ⟨e, _⟩ => sSqT e hl) ?_ ?_
  · rintro j x H3 hj ⟨s3, ys, eD, hp⟩
    have hj' : j < xs.length := (List.getElem?_eq_some_iff.mp hj).1
    have dn : H3 D ≠ none := by rw [eD]; intro z; cases z
    refine ⟨hw _, ht j x H3 _ hj s3 dn fun H4 s4 => ?_⟩
    have nD : ∀ b o, H1 b = some o → b ≠ D := fun b o e z => by rw [z, hD] at e; cases e
    have eD4 := s4 _ _ eD
    by_cases c : keep j = true
    · rw [if_pos c]
      refine he j x H4 _ hj c (s3.trans s4) (by rw [eD4]; intro z; cases z) fun H5 y s5 hy => ⟨ys, s5 _ _ eD4, ?_, fun b o e => ?_, ys ++ [y], upd_same, ?_⟩
      · rw [← pair_len hp]
        have := List.length_filter_le keep (List.range j)
        rw [List.length_range] at this
        exact Nat.lt_of_le_of_lt (by omega : _ ≤ 1000000) (by decide)
      · rw [upd_ne (nD _ _ e)]; exact (s3.trans (s4.trans s5)) _ _ e
      · have k6 : Kp D H5 (upd H5 D (.lst (ys ++ [y]))) := fun b o n e => by rw [upd_ne n]; exact e
        rw [filt_succ, if_pos c]
        exact pair_snoc (pair_imp (fun k v r => hm _ _ k v ((sKp (s4.trans s5)).trans k6) r) hp) (hm _ _ _ _ k6 hy)
    · rw [if_neg c]
      refine ⟨s3.trans s4, ys, eD4, ?_⟩
      rw [filt_succ, if_neg c, List.append_nil]
      exact pair_imp (fun k v r => hm _ _ k v (sKp s4) r) hp
  · rintro H3 ⟨s3, ys, eD, hp⟩
    exact hd H3 ys s3 eD hp
end
end Dk

set_option Elab.async false
set_option linter.all false
set_option maxRecDepth 100000
set_option maxHeartbeats 1000000
namespace Dk
open PySem PySem.Spec PyProof.Rows L2 TL
section
variable {K : PySem.W.Frag} {H1 : Hp} {D : Addr} {σ : L2.St} {i : Nat} {vs : List Nat} {tt : TT} {te : TE} {Qd : Hp → Prop}
/-- [x for x in range(..) if ..] -/
theorem comp_rangeI {lo : Int} {n : Nat} (hD : H1 D = none) (hz : n ≤ 1000000) (keep : Nat → Bool)
    (ht : ∀ k H2 Qb, k < n → Same H1 H2 → (∀ H3, Same H2 H3 → Qb (keep k) H3) → tt ((wipe σ vs).set i (some (.int (lo + (k : Nat))))) H2 Qb)
    (hv : ∀ x : V, ((wipe σ vs).set i (some x))[i]? = some (some x)) (hw : ∀ x : V, wipe ((wipe σ vs).set i (some x)) vs = wipe σ vs)
    (hd : ∀ H2, Same H1 H2 → H2 D = some (.lst (((List.range n).filter keep).map fun k : Nat => V.int (lo + (k : Nat)))) → Qd H2) :
    ∃ W : Nat → Nat → Hp → Prop, (∃ m, W 0 m (upd H1 D (.lst []))) ∧ ∀ i' m H, W i' m H →
      ((Itr lo n).stop i' H ∧ Qd H) ∨ ((Itr lo n).go i' H ∧ ∃ Nx : Hp → Prop, (∀ H', Nx H' → ∃ m', m' < m ∧ W (i' + 1) m' H') ∧ ∀ x H', (Itr lo n).yld i' H x H' → gName i x (wipe σ vs) H' fun σ2 H2 => wipe σ2 vs = wipe σ vs ∧ tt σ2 H2 fun b H3 =>
        if b = true then tVar i σ2 H3 fun y H4 => ∃ acc, H4 D = some (.lst acc) ∧ acc.length < sizeLine ∧ Nx (upd H4 D (.lst (acc ++ [y]))) else Nx H3) :=
  comp_range hD hz keep (fun _ k v => v = .int (lo + (k : Nat))) (fun _ _ _ _ _ r => r) (fun k H2 Qb hk s _ q => ht k H2 Qb hk s q)
    (fun k H2 Q hk _ s _ q => ⟨_, hv _, q H2 _ (Same.refl H2) rfl⟩) hw fun H2 ys s e p => hd H2 s (by rw [e, pair_map p])
theorem filt_idx' {α : Type} (g : α → Bool) (ns : List α) : ∀ n, n ≤ ns.length → ((List.range n).filter fun k => (ns[k]?.map g).getD false).filterMap (fun k => ns[k]?) = (ns.take n).filter g
  | 0, _ => rfl
  | n + 1, h => by
    have hn : n < ns.length := h
    have e : ns[n]? = some ns[n] := List.getElem?_eq_getElem hn
    rw [filt_succ, List.filterMap_append, filt_idx' g ns n (by omega), List.take_succ, List.filter_append, e]
    congr 1
    by_cases c : g ns[n] = true
    · simp [c, List.filterMap_cons, e]
    · simp [c]
theorem filt_idx {α : Type} (g : α → Bool) (ns : List α) : ((List.range ns.length).filter fun k => (ns[k]?.map g).getD false).filterMap (fun k => ns[k]?) = ns.filter g := by
  rw [filt_idx' g ns _ (Nat.le_refl _), List.take_length]
/-- [x for x in xs if ..] over a list of numbers -/
theorem comp_listI {l : Addr} {ns : List Int} (hD : H1 D = none) (hl : SqL K H1 l (ns.map V.int)) (hz : ns.length ≤ 1000000) (g : Int → Bool)
    (ht : ∀ (p : Int) (H2 : Hp) (Qb : Bool → Hp → Prop), p ∈ ns → Same H1 H2 → (∀ H3, Same H2 H3 → Qb (g p) H3) → tt ((wipe σ vs).set i (some (.int p))) H2 Qb)
    (hv : ∀ x : V, ((wipe σ vs).set i (some x))[i]? = some (some x)) (hw : ∀ x : V, wipe ((wipe σ vs).set i (some x)) vs = wipe σ vs)
    (hd : ∀ H2, Same H1 H2 → H2 D = some (.lst ((ns.filter g).map V.int)) → Qd H2) :
    ∃ W : Nat → Nat → Hp → Prop, (∃ m, W 0 m (upd H1 D (.lst []))) ∧ ∀ i' m H, W i' m H →
      ((Itl K l).stop i' H ∧ Qd H) ∨ ((Itl K l).go i' H ∧ ∃ Nx : Hp → Prop, (∀ H', Nx H' → ∃ m', m' < m ∧ W (i' + 1) m' H') ∧ ∀ x H', (Itl K l).yld i' H x H' → gName i x (wipe σ vs) H' fun σ2 H2 => wipe σ2 vs = wipe σ vs ∧ tt σ2 H2 fun b H3 =>
        if b = true then tVar i σ2 H3 fun y H4 => ∃ acc, H4 D = some (.lst acc) ∧ acc.length < sizeLine ∧ Nx (upd H4 D (.lst (acc ++ [y]))) else Nx H3) := by
  have at_ : ∀ {k : Nat} {x : V}, (ns.map V.int)[k]? = some x → ∃ p, ns[k]? = some p ∧ x = .int p := fun {k x} h => by
    rw [List.getElem?_map] at h
    cases q : ns[k]? with
    | none => rw [q] at h; cases h
    | some p => rw [q] at h; exact ⟨p, rfl, (Option.some.inj h).symm⟩
  refine comp_list hD hl (by rw [List.length_map]; exact hz) (fun k => (ns[k]?.map g).getD false) (fun _ k v => ns[k]?.map V.int = some v) (fun _ _ _ _ _ r => r) (fun k x H2 Qb hx s _ q => ?_) (fun k x H2 Q hx _ s _ q => ?_) hw fun H2 ys s e p => hd H2 s ?_
  · obtain ⟨p, hp, rfl⟩ := at_ hx
    refine ht p H2 Qb (List.mem_of_getElem? hp) s fun H3 s3 => ?_
    have := q H3 s3
    rw [hp] at this
    exact this
  · obtain ⟨p, hp, rfl⟩ := at_ hx
    exact ⟨_, hv _, q H2 _ (Same.refl H2) (by rw [hp]; rfl)⟩
  · rw [e, ← filt_idx g ns]
    rw [List.length_map] at p
    clear e
    generalize (List.range ns.length).filter (fun k => (ns[k]?.map g).getD false) = ks at p
    have key : ∀ (ks : List Nat) (ys : List V), Paired (fun k y => ns[k]?.map V.int = some y) ks ys → ys = (ks.filterMap fun k => ns[k]?).map V.int := by
      intro ks
      induction ks with
      | nil => intro ys p; cases p; rfl
      | cons k ks ih =>
        intro ys p
        cases p with
        | cons h t =>
          cases q : ns[k]? with
          | none => rw [q] at h; cases h
          | some x =>
            rw [q] at h
            rw [List.filterMap_cons, q, List.map_cons, ← ih _ t]
            cases h
            rfl
    rw [key ks ys p]
end
end Dk

set_option Elab.async false
set_option linter.all false
set_option maxRecDepth 100000
set_option maxHeartbeats 2000000
namespace Dk
open PySem PySem.Spec PyProof.Rows L2 TL
/-! ### the ticks that have a mark -/
theorem rep_uniq0 {h : Hd} {n m : Nat} (a : IsRep h n) (b : IsRep h m) (l : n < m) : False := by
  obtain ⟨i, hi, e⟩ := List.mem_map.mp a.re
  have hi := List.mem_range.mp hi
  have nd := b.nd
  rw [List.nodup_iff_pairwise_ne] at nd
  have key := List.pairwise_iff_getElem.mp nd i n (by simp; omega) (by simp; omega) hi
  simp at key
  exact key e
theorem rep_eq {h : Hd} {n m : Nat} (a : IsRep h n) (b : IsRep h m) : n = m := by
  rcases Nat.lt_trichotomy n m with l | l | l
  · exact (rep_uniq0 a b l).elim
  · exact l
  · exact (rep_uniq0 b a l).elim
theorem cyc_eq {h : Hd} {b n b' n' : Nat} (c : IsCyc h b n) (d : IsCyc h b' n') : b = b' ∧ n = n' := by
  have e := rep_eq c.rp d.rp
  subst e
  refine ⟨?_, rfl⟩
  rcases Nat.lt_trichotomy b b' with l | l | l
  · exact (d.ne b l c.eq).elim
  · exact l
  · exact (c.ne b' l d.eq).elim
/-- the marked ticks before the cycle, and in it -/
def eT (f : Nat → Bool) (b : Nat) : List Nat := (List.range b).filter f
def cT (f : Nat → Bool) (b n : Nat) : List Nat := ((List.range (n - b)).filter fun k => f (b + k)).map (b + ·)
def nV (l : List Nat) : List V := l.map fun k : Nat => V.int (k : Int)
theorem nV_map (l : List Nat) : nV l = (l.map fun k : Nat => (k : Int)).map V.int := by unfold nV; rw [List.map_map]; rfl
theorem nV_len (l : List Nat) : (nV l).length = l.length := List.length_map ..
theorem eT_len (f : Nat → Bool) (b : Nat) : (eT f b).length ≤ b := by
  have := List.length_filter_le f (List.range b)
  rw [List.length_range] at this
  exact this
theorem cT_len (f : Nat → Bool) (b n : Nat) : (cT f b n).length ≤ n - b := by
  unfold cT
  rw [List.length_map]
  have := List.length_filter_le (fun k => f (b + k)) (List.range (n - b))
  rw [List.length_range] at this
  exact this
/-- a person waits after a tick; the house is open after a tick -/
def waitsB (h : Hd) (p : Int) (m : Nat) : Bool := decide (p ∈ (stt h (m + 1)).wait)
def opensB (h : Hd) (m : Nat) : Bool := (stt h (m + 1)).opn
end Dk

set_option Elab.async false
set_option linter.all false
set_option maxRecDepth 100000
set_option maxHeartbeats 2000000
namespace Dk
open PySem PySem.Spec PyProof.Rows L2 TL
/-! ### numbers of ticks -/
def cntF (f : Nat → Bool) (m : Nat) : Nat := ((List.range m).filter f).length
theorem cntF_succ (f : Nat → Bool) (m : Nat) : cntF f (m + 1) = cntF f m + (if f m = true then 1 else 0) := by
  unfold cntF
  rw [filt_succ, List.length_append]
  split <;> rfl
theorem cntF_add (f : Nat → Bool) (a : Nat) : ∀ x, cntF f (a + x) = cntF f a + cntF (fun k => f (a + k)) x
  | 0 => rfl
  | x + 1 => by rw [← Nat.add_assoc, cntF_succ, cntF_add f a x, cntF_succ]; omega
theorem cntF_congr {f g : Nat → Bool} {m : Nat} (h : ∀ k, k < m → f k = g k) : cntF f m = cntF g m := by
  unfold cntF
  rw [List.filter_congr fun k hk => h k (List.mem_range.mp hk)]
theorem cntF_le (f : Nat → Bool) (m : Nat) : cntF f m ≤ m := by
  have := List.length_filter_le f (List.range m)
  rw [List.length_range] at this
  exact this
theorem cntF_mono (f : Nat → Bool) {a b : Nat} (h : a ≤ b) : cntF f a ≤ cntF f b := by
  obtain ⟨x, rfl⟩ := Nat.exists_eq_add_of_le h
  rw [cntF_add]; omega
theorem cntF_rounds {g : Nat → Bool} {l : Nat} (h : ∀ k, g (l + k) = g k) (r : Nat) : ∀ q, cntF g (q * l + r) = q * cntF g l + cntF g r
  | 0 => by rw [Nat.zero_mul, Nat.zero_mul, Nat.zero_add, Nat.zero_add]
  | q + 1 => by
    have e : (q + 1) * l + r = l + (q * l + r) := by rw [Nat.succ_mul]; omega
    have e2 : (q + 1) * cntF g l = q * cntF g l + cntF g l := Nat.succ_mul ..
    rw [e, cntF_add, cntF_congr (fun k _ => h k), cntF_rounds h r q, e2]
    omega
theorem cnt_take (f : Nat → Bool) {m b : Nat} (h : m ≤ b) : ((eT f b).filter fun k => decide (k < m)).length = cntF f m := by
  unfold eT
  rw [List.filter_filter]
  obtain ⟨x, rfl⟩ := Nat.exists_eq_add_of_le h
  show cntF (fun k => decide (k < m) && f k) (m + x) = _
  rw [cntF_add]
  have e1 : cntF (fun k => decide (k < m) && f k) m = cntF f m := cntF_congr fun k hk => by rw [decide_eq_true hk]; rfl
  have e2 : cntF (fun k => decide (m + k < m) && f (m + k)) x = 0 := by
    have : cntF (fun k => decide (m + k < m) && f (m + k)) x = cntF (fun _ => false) x := cntF_congr fun k _ => by rw [decide_eq_false (by omega)]; rfl
    rw [this]
    unfold cntF
    simp
  rw [e1, e2]; rfl
theorem cT_cnt (f : Nat → Bool) (b n : Nat) : (cT f b n).length = cntF (fun k => f (b + k)) (n - b) := by
  unfold cT cntF
  rw [List.length_map]
theorem cT_take (f : Nat → Bool) {b n r : Nat} (h : r ≤ n - b) : ((cT f b n).filter fun k => decide (k < b + r)).length = cntF (fun k => f (b + k)) r := by
  unfold cT
  rw [List.filter_map, List.length_map, ← cnt_take (fun k => f (b + k)) h]
  unfold eT
  congr 2
  funext k
  show decide (b + k < b + r) = decide (k < r)
  by_cases c : k < r
  · rw [decide_eq_true c, decide_eq_true (by omega)]
  · rw [decide_eq_false c, decide_eq_false (by omega)]
theorem stt_near2 {h : Hd} (hT : Tabs h.ts) {b n : Nat} (cy : IsCyc h b n) {t : Nat} (ht : b ≤ t) : stt h (b + (t - b) % (n - b) + 1) = stt h (t + 1) := by
  by_cases q : b < t
  · exact stt_near hT cy.eq cy.lt q
  · have : t = b := by omega
    subst this
    simp
theorem stt_round {h : Hd} (hT : Tabs h.ts) {b n : Nat} (cy : IsCyc h b n) (k : Nat) : stt h (b + (n - b + k) + 1) = stt h (b + k + 1) := by
  have lt := cy.lt
  have h1 := stt_near2 hT cy (t := b + (n - b + k)) (by omega)
  have h2 := stt_near2 hT cy (t := b + k) (by omega)
  rw [← h1, ← h2]
  congr 2
  rw [show b + (n - b + k) - b = n - b + k by omega, show b + k - b = k by omega, Nat.add_mod_left]
/-- of a mark that the state tells -/
theorem cnt_far {h : Hd} (hT : Tabs h.ts) {b n : Nat} (cy : IsCyc h b n) {f : Nat → Bool} {F : Cs → Bool} (hf : ∀ m, f m = F (stt h (m + 1))) {m : Nat} (hm : b ≤ m) :
    cntF f m = (eT f b).length + (m - b) / (n - b) * (cT f b n).length + ((cT f b n).filter fun k => decide (k < b + (m - b) % (n - b))).length := by
  have lt := cy.lt
  have hr := Nat.mod_lt (m - b) (show 0 < n - b by omega)
  rw [cT_take f (Nat.le_of_lt hr), cT_cnt]
  have e : m = b + ((m - b) / (n - b) * (n - b) + (m - b) % (n - b)) := by
    have := Nat.mod_add_div (m - b) (n - b)
    rw [Nat.mul_comm] at this
    omega
  have hp : ∀ k, (fun k => f (b + k)) (n - b + k) = (fun k => f (b + k)) k := fun k => by
    show f (b + (n - b + k)) = f (b + k)
    rw [hf, hf, stt_round hT cy]
  conv => lhs; rw [e, cntF_add, cntF_rounds hp]
  have : cntF f b = (eT f b).length := rfl
  rw [this]
  omega
end Dk

set_option Elab.async false
set_option linter.all false
set_option maxRecDepth 100000
set_option maxHeartbeats 1000000
namespace Dk
open PySem PySem.Spec PyProof.Rows L2 TL
/-! ### heaps with a table -/
/-- all is as it was but d and the tables -/
def KpN (d : Addr) (H H' : Hp) : Prop := ∀ b o, b ≠ d → H b = some o → (∀ ps, o ≠ .tbl ps) → H' b = some o
theorem KpN.of {d : Addr} {H H' : Hp} (k : Kp d H H') : KpN d H H' := fun b o n e _ => k b o n e
theorem KpN.same {d : Addr} {H H' : Hp} (s : Same H H') : KpN d H H' := fun b o _ e _ => s b o e
theorem KpN.ext {d : Addr} {H H' : Hp} (s : LamX.ExtN H H') : KpN d H H' := fun b o _ e n => s b o e n
theorem KpN.refl {d : Addr} {H : Hp} : KpN d H H := fun _ _ _ e _ => e
theorem KpN.trans {d : Addr} {H H1 H2 : Hp} (a : KpN d H H1) (b : KpN d H1 H2) : KpN d H H2 := fun c o n e q => b c o n (a c o n e q) q
theorem KpN.tup {d : Addr} {H H' : Hp} {xs : List V} (k : KpN d H H') (hd : H d = some (.lst xs)) : ∀ t ys, H t = some (.tup ys) → H' t = some (.tup ys) := fun t ys h => k t _ (fun e => by rw [e, hd] at h; cases h) h fun ps z => by cases z
theorem tabs_kp {T : List (Addr × Str)} {d : Addr} {H H' : Hp} {xs : List V} (t : LamX.Tabs T H) (k : Kp d H H') (hd : H d = some (.lst xs)) : LamX.Tabs T H' := fun p hp => by
  obtain ⟨ps, h1, h2, h3⟩ := t p hp
  refine ⟨ps, k _ _ (fun e => by rw [e, hd] at h1; cases h1) h1, h2, fun pos cv hc => ?_⟩
  obtain ⟨c, e1, e2⟩ := h3 pos cv hc
  exact ⟨c, e1, k _ _ (fun e => by rw [e, hd] at e2; unfold LamX.CodeO at e2; cases e2) e2⟩
theorem tabs_same {T : List (Addr × Str)} {H H' : Hp} (t : LamX.Tabs T H) (s : Same H H') : LamX.Tabs T H' := t.ext s
theorem extN_same {H H' : Hp} (s : Same H H') : LamX.ExtN H H' := fun b o e _ => s b o e
theorem ExtN_lst {H H' : Hp} {a : Addr} {xs : List V} (e : LamX.ExtN H H') (h : H a = some (.lst xs)) : H' a = some (.lst xs) := e _ _ h fun ps z => by cases z
theorem ExtN_tup {H H' : Hp} {a : Addr} {xs : List V} (e : LamX.ExtN H H') (h : H a = some (.tup xs)) : H' a = some (.tup xs) := e _ _ h fun ps z => by cases z
end Dk

set_option Elab.async false
set_option linter.all false
set_option maxRecDepth 100000
set_option maxHeartbeats 4000000
namespace Dk
open PySem PySem.Spec PyProof.Rows L2 TL
/-- the scenes of many ticks, apart from d -/
def ScD (d : Addr) (H : Hp) (kk : Int) (h : Hd) (ys : List V) (m : Nat) : Prop := ys.length = m ∧ ∀ t, t < m → ∃ sc qI qO qC, ys[t]? = some (.ref sc) ∧ ScL H sc qI qO qC kk (stt h (t + 1)) ∧ sc ≠ d ∧ qI ≠ d ∧ qO ≠ d ∧ qC ≠ d
theorem ScD.kp {d : Addr} {H H' : Hp} {kk : Int} {h : Hd} {ys : List V} {m : Nat} (x : ScD d H kk h ys m) (k : Kp d H H') : ScD d H' kk h ys m := ⟨x.1, fun t ht => by
  obtain ⟨sc, qI, qO, qC, e, ⟨c1, c2, c3, c4⟩, n1, n2, n3, n4⟩ := x.2 t ht
  exact ⟨sc, qI, qO, qC, e, ⟨k _ _ n1 c1, k _ _ n2 c2, k _ _ n3 c3, k _ _ n4 c4⟩, n1, n2, n3, n4⟩⟩
theorem ScD.ext {d : Addr} {H H' : Hp} {kk : Int} {h : Hd} {ys : List V} {m : Nat} (x : ScD d H kk h ys m) (k : LamX.ExtN H H') : ScD d H' kk h ys m := ⟨x.1, fun t ht => by
  obtain ⟨sc, qI, qO, qC, e, ⟨c1, c2, c3, c4⟩, n⟩ := x.2 t ht
  exact ⟨sc, qI, qO, qC, e, ⟨k _ _ c1 (fun ps z => by cases z), k _ _ c2 (fun ps z => by cases z), k _ _ c3 (fun ps z => by cases z), k _ _ c4 (fun ps z => by cases z)⟩, n⟩⟩
theorem home_round {h : Hd} (hT : Tabs h.ts) {b n : Nat} (cy : IsCyc h b n) {t : Nat} (ht : b ≤ t) (R : Nat) : stt h (t + R * (n - b) + 1) = stt h (t + 1) := by
  rw [← stt_near2 hT cy (t := t + R * (n - b)) (by omega), ← stt_near2 hT cy ht]
  rw [show t + R * (n - b) - b = (t - b) + R * (n - b) by omega, Nat.add_mul_mod_self_right]
theorem scD_of {Hb H' : Hp} {sl el d : Addr} {ts : List Str} {kk : Int} {cs : List Int} {rs : List Pr} {xs : List V} {n : Nat} {st : List V} (x : ScSs Hb sl el H' (hdOf ts kk cs rs) xs n) (hd : Hb d = some (.lst st)) : ScD d H' kk (hdOf ts kk cs rs) xs n := ⟨x.1, fun t ht => by
  obtain ⟨sc, qI, qO, qC, e, c, n1, n2, n3, n4⟩ := x.2 t ht
  have ne : ∀ a, Hb a = none → a ≠ d := fun a z w => by rw [w, hd] at z; cases z
  exact ⟨sc, qI, qO, qC, e, c, ne _ n1.2.2, ne _ n2.2.2, ne _ n3.2.2, ne _ n4.2.2⟩⟩

/-- a cycle of the law: its scenes, and where it begins -/
def CyAt (d : Addr) (H : Hp) (v : V) (kk : Int) (h : Hd) (b n : Nat) : Prop := ∃ cy sl xs, v = .ref cy ∧ H cy = some (.tup [.ref sl, .int (b : Int)]) ∧ H sl = some (.lst xs) ∧ sl ≠ d ∧ ScD d H kk h xs n ∧ IsCyc h b n
theorem CyAt.kp {d : Addr} {H H' : Hp} {v : V} {kk : Int} {h : Hd} {b n : Nat} {st : List V} (x : CyAt d H v kk h b n) (k : Kp d H H') (hd : H d = some (.lst st)) : CyAt d H' v kk h b n := by
  obtain ⟨cy, sl, xs, e, h1, h2, h3, h4, h5⟩ := x
  exact ⟨cy, sl, xs, e, k _ _ (fun z => by rw [z, hd] at h1; cases h1) h1, k _ _ h3 h2, h3, h4.kp k, h5⟩
theorem CyAt.ext {d : Addr} {H H' : Hp} {v : V} {kk : Int} {h : Hd} {b n : Nat} (x : CyAt d H v kk h b n) (k : LamX.ExtN H H') : CyAt d H' v kk h b n := by
  obtain ⟨cy, sl, xs, e, h1, h2, h3, h4, h5⟩ := x
  exact ⟨cy, sl, xs, e, k _ _ h1 (fun ps z => by cases z), k _ _ h2 (fun ps z => by cases z), h3, h4.ext k, h5⟩
theorem CyAt.mono {d : Addr} {H H' : Hp} {v : V} {kk : Int} {h : Hd} {b n : Nat} (x : CyAt d H v kk h b n) (k : Same H H') : CyAt d H' v kk h b n := x.ext (extN_same k)
end Dk

set_option Elab.async false
set_option linter.all false
set_option maxRecDepth 100000
set_option maxHeartbeats 2000000
namespace Dk
open PySem PySem.Spec PyProof.Rows L2 TL
/-! ### two rounds that agree long enough agree for ever -/
theorem agree_all {α : Type} {f g : Nat → α} {B p q : Nat} (hp : 0 < p) (hq : 0 < q) (pf : ∀ t, B ≤ t → f (t + p) = f t) (pg : ∀ t, B ≤ t → g (t + q) = g t) (h : ∀ t, t < B + (p + q) → f t = g t) : ∀ t, f t = g t := by
  intro t
  induction t using Nat.strongRecOn with
  | ind t ih =>
    by_cases c : t < B + (p + q)
    · exact h t c
    · obtain ⟨k, rfl⟩ : ∃ k, t = B + k + p + q := ⟨t - (B + (p + q)), by omega⟩
      have e1 : f (B + k + p + q) = f (B + k + q) := by
        have := pf (B + k + q) (by omega)
        rw [show B + k + q + p = B + k + p + q by omega] at this
        exact this
      have e2 : f (B + k + q) = g (B + k + q) := ih _ (by omega)
      have e3 : g (B + k + q) = g (B + k) := pg (B + k) (by omega)
      have e4 : f (B + k) = g (B + k) := ih _ (by omega)
      have e5 : f (B + k + p) = f (B + k) := pf (B + k) (by omega)
      have e6 : f (B + k + p) = g (B + k + p) := ih _ (by omega)
      have e7 : g (B + k + p + q) = g (B + k + p) := pg (B + k + p) (by omega)
      rw [e1, e2, e3, ← e4, ← e5, e6, ← e7]
/-- who waits after tick t -/
def waitAt (h : Hd) (t : Nat) : List Int := (stt h (t + 1)).wait
theorem wait_rounds {h : Hd} (hT : Tabs h.ts) {b n : Nat} (cy : IsCyc h b n) (t : Nat) (ht : b ≤ t) : waitAt h (t + (n - b)) = waitAt h t := by
  have := same_later hT cy.eq (t - b)
  have lt := cy.lt
  unfold waitAt
  rw [show t + (n - b) + 1 = n + 1 + (t - b) by omega, show t + 1 = b + 1 + (t - b) by omega, this]
/-! ### whoever waits stands before a locked door -/
theorem wait_locked {h : Hd} (t : Int) (c : Cs) : (adv h t c).1.wait = [] ∨ (adv h t c).1.opn = false := by
  have ha : (arrive (wishes h.ts t) c).1.wait = [] ∨ ((arrive (wishes h.ts t) c).1.home = [] ∧ (arrive (wishes h.ts t) c).1.opn = false) := by
    unfold arrive
    dsimp only
    split
    · exact .inl rfl
    · split
      · exact .inl rfl
      · rename_i hce
        right
        unfold canEnter at hce
        split at hce
        · exact absurd rfl hce
        · rename_i ho
          simp only [Bool.or_eq_true, Bool.not_eq_true', not_or, Bool.not_eq_false, Bool.not_eq_true] at ho
          exact ⟨List.isEmpty_iff.mp ho.1, ho.2⟩
  show (depart h t (wishes h.ts t) (arrive (wishes h.ts t) c).1).1.wait = [] ∨ (depart h t (wishes h.ts t) (arrive (wishes h.ts t) c).1).1.opn = false
  generalize (arrive (wishes h.ts t) c).1 = c1 at ha
  rcases ha with ha | ⟨ha, ho⟩
  · left
    have tk : ∀ c q, (takeKey h.ks c q).1.wait = c.wait := fun c q => by unfold takeKey; split <;> rfl
    have key : ∀ (lv : List Int) (a : Cs × Bool × List Ev), (lv.foldl (leaveStep h t) a).1.wait = a.1.wait := by
      intro lv
      induction lv with
      | nil => intro a; rfl
      | cons q r ih =>
        intro a
        have : (leaveStep h t a q).1.wait = a.1.wait := by
          unfold leaveStep
          split
          · split <;> exact tk _ _
          · rfl
        exact (ih (leaveStep h t a q)).trans this
    have hc : ∀ c q, (closeC h.ks c q).1.wait = c.wait := fun c q => by
      unfold closeC; split
      · exact tk _ _
      · rfl
    have hl : (leaveAll h t (wishes h.ts t) c1).1.wait = [] := (key _ _).trans ha
    unfold depart
    split
    · split
      · exact (hc _ _).trans hl
      · exact hl
    · exact hl
  · right
    have lv : leaversOf (wishes h.ts t) c1 = [] := by unfold leaversOf; rw [ha]; rfl
    unfold depart
    rw [lv]
    show (leaveAll h t (wishes h.ts t) c1).1.opn = false
    unfold leaveAll
    rw [lv]
    exact ho
def fewSc : List Sc := (rg 24).flatMap fun m => ((subs (rg 3)).flatMap fun a => (subs (rg 3)).map fun b => (m, a, b, false)) ++ (subs (rg 3)).map fun b => (m, [], b, true)
theorem fewSc_len : fewSc.length = 1728 := by
  have s3 : (subs (rg 3)).length = 8 := by rw [subs_len, rg_len]
  unfold fewSc
  rw [fm_len _ 72, rg_len]
  intro m
  rw [List.length_append, List.length_map, s3, fm_len _ 8, s3]
  intro a
  rw [List.length_map, s3]
theorem up_subs3 {n : Nat} {l : List Int} (h : Up l) (i : InN n l) (h3 : n ≤ 3) : l ∈ subs (rg 3) := by
  have i3 : InN 3 l := fun q hq => by have := i q hq; omega
  rw [up_filt h i3]
  exact filt_subs _ _
theorem scn_few {h : Hd} (hT : Tabs h.ts) (h3 : h.ts.length ≤ 3) (i : Nat) : scn h i ∈ fewSc := by
  have g := gd_stt h (i + 1)
  have hp := per_pos hT
  have hl := per_le hT
  have hw : (stt h (i + 1)).wait = [] ∨ (stt h (i + 1)).opn = false := wait_locked (h := h) (i : Int) (stt h i)
  unfold scn scOf fewSc
  refine List.mem_flatMap.mpr ⟨(i : Int) % ((per h.ts : Nat) : Int), rg_mem.mpr ⟨Int.emod_nonneg _ (by omega), ?_⟩, ?_⟩
  · have := Int.emod_lt_of_pos (i : Int) (show (0 : Int) < ((per h.ts : Nat) : Int) by omega)
    omega
  · have hwS := up_subs3 g.wu g.wi h3
    have hcS := up_subs3 g.cu g.ci h3
    cases ho : (stt h (i + 1)).opn with
    | false => exact List.mem_append_left _ (List.mem_flatMap.mpr ⟨_, hwS, List.mem_map.mpr ⟨_, hcS, rfl⟩⟩)
    | true =>
      have hw : (stt h (i + 1)).wait = [] := hw.resolve_right (by rw [ho]; decide)
      rw [hw]
      exact List.mem_append_right _ (List.mem_map.mpr ⟨_, hcS, rfl⟩)
theorem cyc_few {h : Hd} (hT : Tabs h.ts) (h3 : h.ts.length ≤ 3) {b n : Nat} (cy : IsCyc h b n) : n ≤ 1728 := by
  have := nodup_le cy.rp.nd (m := fewSc) fun x hx => by
    obtain ⟨i, _, rfl⟩ := List.mem_map.mp hx
    exact scn_few hT h3 i
  rw [List.length_map, List.length_range, fewSc_len] at this
  exact this
/-- two houses of at most three persons whose waiters are alike for 3,456 ticks are alike for ever -/
theorem wait_alike {h g : Hd} (hT : Tabs h.ts) (gT : Tabs g.ts) (h3 : h.ts.length ≤ 3) (g3 : g.ts.length ≤ 3) {b n b' n' : Nat} (cy : IsCyc h b n) (cy' : IsCyc g b' n') (al : ∀ t, t < 3456 → waitAt h t = waitAt g t) : ∀ t, waitAt h t = waitAt g t := by
  have l1 := cyc_few hT h3 cy
  have l2 := cyc_few gT g3 cy'
  have lt := cy.lt
  have lt' := cy'.lt
  refine agree_all (B := max b b') (p := n - b) (q := n' - b') (by omega) (by omega) (fun t ht => wait_rounds hT cy t (by omega)) (fun t ht => wait_rounds gT cy' t (by omega)) fun t ht => al t (by omega)
end Dk

set_option Elab.async false
set_option linter.all false
set_option maxRecDepth 100000
set_option maxHeartbeats 4000000
namespace Dk
open PySem PySem.Spec PyProof.Rows L2 TL
/-! ### _law_at -/
def spLawAt : Sp := fun vs H Q _ => ∃ (c : V) (t : Nat) (d : Addr) (kk : Int) (h : Hd) (b n : Nat), vs = [c, .int (t : Int)] ∧ CyAt d H c kk h b n ∧ Tabs h.ts ∧ ∀ (H' : Hp) (a : Addr), Same H H' → H a = none → H' a = some (.tup ((waitAt h t).map V.int)) → Q (.ref a) H'
abbrev nLawAt : List Str := ["_law_cycle_here", "_law_tick_here", "_law_scenes", "_law_start"]
section
variable {P : Program} {w : World} {K : PySem.W.Frag} {mg : Str → Option Value} {base : Heap}
theorem scLawAt : FnScope nLawAt ["_law_cycle_here", "_law_tick_here"] (defScope sLawAt) := ⟨rfl, rfl, rfl, by decide +kernel, rfl, by decide +kernel, by decide +kernel⟩
theorem ok_lawat {f : Addr} {fd : FuncData} (F : Fun K "_law_at" "_law_at" sLawAt f fd) (T : TxtA mg) (tup : mg "tuple" = none) : FnOk P w K mg base CX0 1 f fd ["_law_cycle_here", "_law_tick_here"] spLawAt := by
  refine F.ok scLawAt (fun vs H Q E h => ?_) (fun cdv A outer s H vs Q E hr h => ?_)
  · obtain ⟨c, t, d, kk, h, b, n, rfl, _⟩ := h
    rfl
  · obtain ⟨c, t, d, kk, h, b, n, rfl, hc, hT, k⟩ := h
    obtain ⟨cy, sl, xs, rfl, e1, e2, nsd, hsc, hcy⟩ := hc
    refine ⟨_, pss_cons (ps_asg (pv 0) (pg_tup rfl (pgs_cons (pg_name (i := 2) scLawAt.nd rfl (.inl rfl)) (pgs_cons (pg_name (i := 3) scLawAt.nd rfl (.inl rfl)) pgs_nil))))
      (pss_one (ps_ret (pe_callTy call_tuple_of (by rfl) tup (by decide +kernel) (pa_cons (pe_ix ix_list (pe_ix ix_list (pv 2) (pe_ifExp (pt_cmpR op_lt (pv 1) (pv 3) (nomark _)) (pv 1) (pe_op op_add (pv 3) (pe_op op_mod (pe_op op_sub (pv 1) (pv 3)) (pe_op op_sub (pe_callB call_len_seq (by rfl) T.len PySem.boot_len (pa_cons (pv 2) pa_nil)) (pv 3))))) (fun _ _ => rfl)) pe_int (fun _ _ => rfl)) pa_nil)))), ?_⟩
    have lt := hcy.lt
    have le := hcy.le
    refine ⟨_, rfl, cy, _, rfl, SqT.of e1, rfl, _, _, rfl, _, _, rfl, rfl, ?_⟩
    refine ⟨_, rfl, _, rfl, _, rfl, _, _, rfl, rfl, _, rfl, ite2 (fun c => ?_) (fun c => ?_)⟩
    · have c : (t : Int) < (b : Int) := of_decide_eq_true c
      obtain ⟨sc, qI, qO, qC, ex, ⟨c1, c2, c3, c4⟩, _⟩ := hsc.2 t (by omega)
      exact ⟨_, rfl, sl, xs, (t : Int), _, rfl, rfl, SqL.of e2, atI_nat ex, sc, _, 1, _, rfl, rfl, SqL.of c1, at1, qO, _, rfl, .inl ⟨SqL.of c3, fun l hl => k _ l (same_upd hl) hl upd_same⟩⟩
    · have c : ¬ (t : Int) < (b : Int) := fun y => c (decide_eq_true y)
      have hm := Nat.mod_lt (t - b) (show 0 < n - b by omega)
      obtain ⟨sc, qI, qO, qC, ex, ⟨c1, c2, c3, c4⟩, _⟩ := hsc.2 (b + (t - b) % (n - b)) (by omega)
      rw [stt_near2 hT hcy (by omega)] at c1 c2 c3 c4
      have ei : (b : Int) + ((t : Int) - (b : Int)) % (((xs.length : Nat) : Int) - (b : Int)) = ((b + (t - b) % (n - b) : Nat) : Int) := by
        rw [hsc.1, show (t : Int) - (b : Int) = ((t - b : Nat) : Int) by omega, show ((n : Nat) : Int) - (b : Int) = ((n - b : Nat) : Int) by omega]
        rfl
      refine ⟨_, rfl, _, rfl, _, rfl, _, _, rfl, rfl, _, rfl, sl, xs, rfl, .inl (SqL.of e2), _, rfl, _, _, rfl, rfl, _, _, rfl, rfl, by rw [hsc.1]; omega, _, _, rfl, rfl, ?_⟩
      exact ⟨sl, xs, _, _, rfl, rfl, SqL.of e2, by rw [ei]; exact atI_nat ex, sc, _, 1, _, rfl, rfl, SqL.of c1, at1, qO, _, rfl, .inl ⟨SqL.of c3, fun l hl => k _ l (same_upd hl) hl upd_same⟩⟩
end
end Dk

set_option Elab.async false
set_option linter.all false
set_option maxRecDepth 100000
set_option maxHeartbeats 2000000
namespace Dk
open PySem PySem.Spec PyProof.Rows L2 TL
section
variable {K : PySem.W.Frag} {H1 : Hp} {D : Addr} {σ : L2.St} {i : Nat} {vs : List Nat} {tt : TT} {te : TE} {Qd : Hp → Prop} {keep : Nat → Bool} {Res : Hp → Nat → V → Prop}
theorem comp_listL {l : Addr} {xs : List V} (hD : H1 D = none) (hl : SqL K H1 l xs) (hz : xs.length ≤ 1000000) (keep : Nat → Bool) (Res : Hp → Nat → V → Prop) (hm : ∀ H H' k v, Kp D H H' → Res H k v → Res H' k v)
    (ht : ∀ k x H2 Qb, xs[k]? = some x → Same H1 H2 → (∃ zs, H2 D = some (.lst zs)) → (∀ H3, Same H2 H3 → Qb (keep k) H3) → tt ((wipe σ vs).set i (some x)) H2 Qb)
    (he : ∀ k x H2 Q, xs[k]? = some x → keep k = true → Same H1 H2 → (∃ zs, H2 D = some (.lst zs)) → (∀ H3 y, Same H2 H3 → Res H3 k y → Q y H3) → te ((wipe σ vs).set i (some x)) H2 Q)
    (hw : ∀ x : V, wipe ((wipe σ vs).set i (some x)) vs = wipe σ vs)
    (hd : ∀ H2 ys, Same H1 H2 → H2 D = some (.lst ys) → Paired (fun k y => Res H2 k y) ((List.range xs.length).filter keep) ys → Qd H2) :
    ∃ W : Nat → Nat → Hp → Prop, (∃ m, W 0 m (upd H1 D (.lst []))) ∧ ∀ i' m H, W i' m H →
      ((Itl K l).stop i' H ∧ Qd H) ∨ ((Itl K l).go i' H ∧ ∃ Nx : Hp → Prop, (∀ H', Nx H' → ∃ m', m' < m ∧ W (i' + 1) m' H') ∧ ∀ x H', (Itl K l).yld i' H x H' → gName i x (wipe σ vs) H' fun σ2 H2 => wipe σ2 vs = wipe σ vs ∧ tt σ2 H2 fun b H3 =>
        if b = true then te σ2 H3 fun y H4 => ∃ acc, H4 D = some (.lst acc) ∧ acc.length < sizeLine ∧ Nx (upd H4 D (.lst (acc ++ [y]))) else Nx H3) := by
  refine lc_list (K := K) (a := l) (xs := xs) (g := gName i) (tt := tt) (te := te) (vs := vs) (σ := σ) (Qd := Qd)
    (fun i H3 => Same H1 H3 ∧ ∃ ys, H3 D = some (.lst ys) ∧ Paired (fun k y => Res H3 k y) ((List.range i).filter keep) ys) ⟨same_upd hD, [], upd_same, .nil⟩ (fun i H3 _ ⟨e, _⟩ => e.seq hl) ?_ ?_
  · rintro j x H3 hj ⟨s3, ys, eD, hp⟩
    have hj' : j < xs.length := (List.getElem?_eq_some_iff.mp hj).1
    refine ⟨hw _, ht j x H3 _ hj s3 ⟨_, eD⟩ fun H4 s4 => ?_⟩
    have nD : ∀ b o, H1 b = some o → b ≠ D := fun b o e z => by rw [z, hD] at e; cases e
    have eD4 := s4 _ _ eD
    by_cases c : keep j = true
    · rw [if_pos c]
      refine he j x H4 _ hj c (s3.trans s4) ⟨_, eD4⟩ fun H5 y s5 hy => ⟨ys, s5 _ _ eD4, ?_, fun b o e => ?_, ys ++ [y], upd_same, ?_⟩
      · rw [← pair_len hp]
        have := List.length_filter_le keep (List.range j)
        rw [List.length_range] at this
        exact Nat.lt_of_le_of_lt (by omega : _ ≤ 1000000) (by decide)
      · rw [upd_ne (nD _ _ e)]; exact (s3.trans (s4.trans s5)) _ _ e
      · have k6 : Kp D H5 (upd H5 D (.lst (ys ++ [y]))) := fun b o n e => by rw [upd_ne n]; exact e
        rw [filt_succ, if_pos c]
        exact pair_snoc (pair_imp (fun k v r => hm _ _ k v ((sKp (s4.trans s5)).trans k6) r) hp) (hm _ _ _ _ k6 hy)
    · rw [if_neg c]
      refine ⟨s3.trans s4, ys, eD4, ?_⟩
      rw [filt_succ, if_neg c, List.append_nil]
      exact pair_imp (fun k v r => hm _ _ k v (sKp s4) r) hp
  · rintro H3 ⟨s3, ys, eD, hp⟩
    exact hd H3 ys s3 eD hp
theorem comp_tupL {l : Addr} {xs : List V} (hD : H1 D = none) (hl : SqT K H1 l xs) (hz : xs.length ≤ 1000000) (keep : Nat → Bool) (Res : Hp → Nat → V → Prop) (hm : ∀ H H' k v, Kp D H H' → Res H k v → Res H' k v)
    (ht : ∀ k x H2 Qb, xs[k]? = some x → Same H1 H2 → (∃ zs, H2 D = some (.lst zs)) → (∀ H3, Same H2 H3 → Qb (keep k) H3) → tt ((wipe σ vs).set i (some x)) H2 Qb)
    (he : ∀ k x H2 Q, xs[k]? = some x → keep k = true → Same H1 H2 → (∃ zs, H2 D = some (.lst zs)) → (∀ H3 y, Same H2 H3 → Res H3 k y → Q y H3) → te ((wipe σ vs).set i (some x)) H2 Q)
    (hw : ∀ x : V, wipe ((wipe σ vs).set i (some x)) vs = wipe σ vs)
    (hd : ∀ H2 ys, Same H1 H2 → H2 D = some (.lst ys) → Paired (fun k y => Res H2 k y) ((List.range xs.length).filter keep) ys → Qd H2) :
    ∃ W : Nat → Nat → Hp → Prop, (∃ m, W 0 m (upd H1 D (.lst []))) ∧ ∀ i' m H, W i' m H →
      ((Itt K l).stop i' H ∧ Qd H) ∨ ((Itt K l).go i' H ∧ ∃ Nx : Hp → Prop, (∀ H', Nx H' → ∃ m', m' < m ∧ W (i' + 1) m' H') ∧ ∀ x H', (Itt K l).yld i' H x H' → gName i x (wipe σ vs) H' fun σ2 H2 => wipe σ2 vs = wipe σ vs ∧ tt σ2 H2 fun b H3 =>
        if b = true then te σ2 H3 fun y H4 => ∃ acc, H4 D = some (.lst acc) ∧ acc.length < sizeLine ∧ Nx (upd H4 D (.lst (acc ++ [y]))) else Nx H3) := by
  refine lc_tup (K := K) (a := l) (xs := xs) (g := gName i) (tt := tt) (te := te) (vs := vs) (σ := σ) (Qd := Qd)
    (fun i H3 => Same H1 H3 ∧ ∃ ys, H3 D = some (.lst ys) ∧ Paired (fun k y => Res H3 k y) ((List.range i).filter keep) ys) ⟨same_upd hD, [], upd_same, .nil⟩ (fun i H3 _ ⟨e, _⟩ => sSqT e hl) ?_ ?_
  · rintro j x H3 hj ⟨s3, ys, eD, hp⟩
    have hj' : j < xs.length := (List.getElem?_eq_some_iff.mp hj).1
    refine ⟨hw _, ht j x H3 _ hj s3 ⟨_, eD⟩ fun H4 s4 => ?_⟩
    have nD : ∀ b o, H1 b = some o → b ≠ D := fun b o e z => by rw [z, hD] at e; cases e
    have eD4 := s4 _ _ eD
    by_cases c : keep j = true
    · rw [if_pos c]
      refine he j x H4 _ hj c (s3.trans s4) ⟨_, eD4⟩ fun H5 y s5 hy => ⟨ys, s5 _ _ eD4, ?_, fun b o e => ?_, ys ++ [y], upd_same, ?_⟩
      · rw [← pair_len hp]
        have := List.length_filter_le keep (List.range j)
        rw [List.length_range] at this
        exact Nat.lt_of_le_of_lt (by omega : _ ≤ 1000000) (by decide)
      · rw [upd_ne (nD _ _ e)]; exact (s3.trans (s4.trans s5)) _ _ e
      · have k6 : Kp D H5 (upd H5 D (.lst (ys ++ [y]))) := fun b o n e => by rw [upd_ne n]; exact e
        rw [filt_succ, if_pos c]
        exact pair_snoc (pair_imp (fun k v r => hm _ _ k v ((sKp (s4.trans s5)).trans k6) r) hp) (hm _ _ _ _ k6 hy)
    · rw [if_neg c]
      refine ⟨s3.trans s4, ys, eD4, ?_⟩
      rw [filt_succ, if_neg c, List.append_nil]
      exact pair_imp (fun k v r => hm _ _ k v (sKp s4) r) hp
  · rintro H3 ⟨s3, ys, eD, hp⟩
    exact hd H3 ys s3 eD hp
end
end Dk

set_option Elab.async false
set_option linter.all false
set_option maxRecDepth 100000
set_option maxHeartbeats 2000000
namespace Dk
open PySem PySem.Spec PyProof.Rows L2 TL
/-! ### rules told with the law's own K, for blocks -/
section
variable {X : Cx} {K : PySem.W.Frag}
theorem pi_listK {tg l : Expr} {tl : TE} (h : X.K = K) (hl : PE X l tl) : PI X tg l (iList K tl) := by subst h; exact pi_list hl
theorem pi_tupK {tg l : Expr} {tl : TE} (h : X.K = K) (hl : PE X l tl) : PI X tg l (iTup K tl) := by subst h; exact pi_tup hl
theorem ix_tupK (h : X.K = K) : IxR X (rIxT K) := by subst h; exact ix_tup
theorem call_len_seqK (h : X.K = K) : CallR X (.builtin "len") (fun xs H Q => ∃ p ys, xs = [.ref p] ∧ (SqL K H p ys ∨ SqT K H p ys) ∧ Q (.int ys.length) H) := by subst h; exact call_len_seq
theorem op_eqDK (h : X.K = K) (hu : X.A.units + 64 < cLine) : OpR X (compareOp .Eq) (rEqD K) := by subst h; exact op_eqD hu
theorem op_neDK (h : X.K = K) (hu : X.A.units + 64 < cLine) : OpR X (compareOp .NotEq) (rNeD K) := by subst h; exact op_neD hu
end
/-! ### lists of ticks as data -/
def dN (l : List Nat) : List PyData := dI (l.map fun k : Nat => (k : Int))
theorem nV_dp {K : PySem.W.Frag} {H : Hp} {a : Addr} {l : List Nat} (h : H a = some (.lst (nV l))) : Dp K H (.ref a) (.list (dN l)) := by
  rw [nV_map] at h
  exact .lst (SqL.of h) (dpAll_dI _)
theorem dN_len (l : List Nat) : (dN l).length = l.length := by unfold dN dI; simp
theorem nV_in (l : List Nat) (k : Nat) : inV (.int (k : Int)) (nV l) = decide (k ∈ l) := by
  rw [nV_map, any_mem]
  by_cases c : k ∈ l
  · rw [decide_eq_true c]
    exact decide_eq_true (List.mem_map.mpr ⟨k, c, rfl⟩)
  · rw [decide_eq_false c]
    refine decide_eq_false fun z => ?_
    obtain ⟨j, hj, e⟩ := List.mem_map.mp z
    have : j = k := by omega
    exact c (this ▸ hj)
theorem nV_flat (l : List Nat) : (nV l).all flatV = true := by
  unfold nV
  rw [List.all_map]
  exact List.all_eq_true.mpr fun _ _ => rfl
/-! ### the marked ticks by the whole list -/
theorem eT_early (f : Nat → Bool) {b n : Nat} (h : b ≤ n) : (eT f n).filter (fun k => decide (k < b)) = eT f b := by
  obtain ⟨x, rfl⟩ := Nat.exists_eq_add_of_le h
  unfold eT
  rw [List.filter_filter, List.range_add, List.filter_append]
  have e1 : (List.range b).filter (fun k => decide (k < b) && f k) = (List.range b).filter f := List.filter_congr fun k hk => by rw [decide_eq_true (List.mem_range.mp hk)]; rfl
  have e2 : ((List.range x).map fun y => b + y).filter (fun k => decide (k < b) && f k) = [] := by
    rw [List.filter_eq_nil_iff]
    intro k hk
    obtain ⟨y, _, rfl⟩ := List.mem_map.mp hk
    rw [decide_eq_false (by omega)]; simp
  rw [e1, e2, List.append_nil]
theorem eT_late (f : Nat → Bool) {b n : Nat} (h : b ≤ n) : (eT f n).filter (fun k => decide (b ≤ k)) = cT f b n := by
  obtain ⟨x, rfl⟩ := Nat.exists_eq_add_of_le h
  unfold eT cT
  rw [List.filter_filter, List.range_add, List.filter_append, Nat.add_sub_cancel_left]
  have e1 : (List.range b).filter (fun k => decide (b ≤ k) && f k) = [] := by
    rw [List.filter_eq_nil_iff]
    intro k hk
    have := List.mem_range.mp hk
    simp; omega
  have e2 : ((List.range x).map fun y => b + y).filter (fun k => decide (b ≤ k) && f k) = ((List.range x).filter fun k => f (b + k)).map (b + ·) := by
    rw [List.filter_map]
    congr 1
    refine List.filter_congr fun k _ => ?_
    show (decide (b ≤ b + k) && f (b + k)) = f (b + k)
    rw [decide_eq_true (by omega)]; rfl
  rw [e1, e2, List.nil_append]
theorem nat_list_filt (l : List Nat) (g : Int → Bool) (g' : Nat → Bool) (e : ∀ k : Nat, g (k : Int) = g' k) : ((l.map fun k : Nat => (k : Int)).filter g).map V.int = nV (l.filter g') := by
  unfold nV
  rw [List.filter_map, List.map_map]
  congr 1
  exact List.filter_congr fun k _ => e k
theorem mem_eT {f : Nat → Bool} {n k : Nat} : k ∈ eT f n ↔ k < n ∧ f k = true := by unfold eT; rw [List.mem_filter, List.mem_range]
theorem idx_wait {h : Hd} (hT : Tabs h.ts) {b n : Nat} (cy : IsCyc h b n) (p : Int) {t : Nat} (ht : b ≤ t) : waitsB h p (b + (t - b) % (n - b)) = waitsB h p t := by
  unfold waitsB
  rw [stt_near2 hT cy ht]
theorem dI_shaped (l : List Int) : SeqAt.shaped (.list (dI l)) = true := by
  obtain ⟨h1, h2⟩ := dI_lay l
  unfold SeqAt.shaped
  rw [show PyData.canLay0 (.list (dI l)) = true from h1, decide_eq_true (show PyData.depth (.list (dI l)) ≤ 64 by show PyData.depthAll (dI l) + 1 ≤ 64; omega)]
  rfl
theorem dN_nil (l : List Nat) : PyData.eqv (.list (dN l)) (.list []) = l.isEmpty := by cases l <;> rfl
theorem nV_last {l : List Nat} (h : l ≠ []) : ∃ t, t ∈ l ∧ atI (nV l) (-1) = some (.int ((t : Nat) : Int)) := by
  have hl : 0 < l.length := List.length_pos_iff.mpr h
  refine ⟨l[l.length - 1], List.getElem_mem _, ?_⟩
  have e1 : ixN (nV l).length (-1) = some (l.length - 1) := by
    unfold ixN
    rw [if_neg (by decide), nV_len, if_pos (by omega)]
    congr 1
    omega
  unfold atI
  rw [e1]
  show (nV l)[l.length - 1]? = _
  unfold nV
  rw [List.getElem?_map, List.getElem?_eq_getElem (by omega)]
  rfl
theorem dec_le (b k : Nat) : decide ((b : Int) ≤ (k : Int)) = decide (b ≤ k) := by
  by_cases z : b ≤ k
  · rw [decide_eq_true z, decide_eq_true (by omega)]
  · rw [decide_eq_false z, decide_eq_false (by omega)]
theorem dec_lt (b k : Nat) : decide ((b : Int) < (k : Int)) = decide (b < k) := by
  by_cases z : b < k
  · rw [decide_eq_true z, decide_eq_true (by omega)]
  · rw [decide_eq_false z, decide_eq_false (by omega)]
theorem cT_in {f : Nat → Bool} {b n : Nat} (k : Nat) : k ∈ cT f b n → b ≤ k := by
  unfold cT
  intro h
  obtain ⟨y, _, rfl⟩ := List.mem_map.mp h
  omega
end Dk

set_option Elab.async false
set_option linter.all false
set_option maxRecDepth 100000
set_option maxHeartbeats 2000000
namespace Gf
open PySem PySem.Spec PyProof.Rows L2
/-! ### for in a generator's body -/
def tGFor (wi : TI) (g : TG) (tb : TGn) : TGn := fun D ys σ H => wi σ H fun J H1 => ∃ W : Nat → Nat → List V → L2.St → Hp → Prop, (∃ m, W 0 m ys σ H1) ∧ ∀ i m ys σ H, W i m ys σ H → (J.stop i H ∧ D.nx ys σ H) ∨
  (J.go i H ∧ ∃ N : List V → L2.St → Hp → Prop, (∀ ys' σ' H', N ys' σ' H' → ∃ m', m' < m ∧ W (i + 1) m' ys' σ' H') ∧ ∀ x H', J.yld i H x H' → g x σ H' fun σ2 H2 => tb { nx := N, rt := D.rt, bk := D.nx, ct := N } ys σ2 H2)
def pinsOf (h : Heap) (fp : List Addr) : List (Addr × Obj) := fp.filterMap fun b => (h.get? b).map fun o => (b, o)
theorem pinsOf_mem {h : Heap} {fp : List Addr} {p : Addr × Obj} (hp : p ∈ pinsOf h fp) : p.1 ∈ fp ∧ h.get? p.1 = some p.2 := by
  unfold pinsOf at hp
  obtain ⟨b, hb, e⟩ := List.mem_filterMap.mp hp
  cases q : h.get? b with
  | none => rw [q] at e; cases e
  | some o =>
    rw [q] at e
    cases e
    exact ⟨hb, q⟩
theorem mem_pinsOf {h : Heap} {fp : List Addr} {b : Addr} {o : Obj} (hb : b ∈ fp) (e : h.get? b = some o) : (b, o) ∈ pinsOf h fp :=
  List.mem_filterMap.mpr ⟨b, hb, by rw [e]; rfl⟩
theorem inv_less {X : Cx} {pins pins' : List (Addr × Obj)} {σ : L2.St} {H : Hp} {s : Shared} (I : L2.Inv X pins σ H s) (h : ∀ p ∈ pins', p ∈ pins) : L2.Inv X pins' σ H s :=
  { I with pin := fun p hp => I.pin p (by
      rcases List.mem_append.mp hp with hp | hp
      · exact List.mem_append.mpr (.inl hp)
      · exact List.mem_append.mpr (.inr (h p hp))) }
theorem gs_for {X : Cx} {tg iter : Expr} {body : List Stmt} {wi : TI} {g : TG} {tb : TGn} {pos : Pos} (hp : PassesOwn (model X.prog X.w) X.A X.env X.xe) (hc : X.calm = true) (hi : PI X tg iter wi) (hg : PG X tg g) (hb : GSs X body tb)
    (hs : ∀ x, foldedSetIterable iter X.env x = pure x := by intro x; rfl) : GS X (.For tg iter body [] pos) (tGFor wi g tb) := by
  refine ⟨fun A S ip R n ys s₀ c fs K J gd lv s σ H D gc hn k hI ht => ?_⟩
  obtain ⟨acc, cc, rv, I⟩ := hI
  unfold exec
  refine seg_bind_wrap (wpAny_standAt ?_)
  refine seg_bind_wrap ?_
  rw [gc.over]
  refine wpAny_mono (hi.run ((S, lstObj acc cc) :: ip) s σ H _ I ht) (fun v s1 h1 => ?_) (fun e s' he => k.exc n s₀ e s' he)
  refine seg_bind_wrap ?_
  rw [hs, gc.over]
  refine wpAny_pure ?_
  refine seg_bind_wrap (wpAny_standAt ?_)
  refine seg_bind_wrap ?_
  rw [gc.over]
  refine wpAny_holding (wpAny_mono h1 (fun itv s2 h2 => ?_) (fun e s' he => k.exc n s₀ e s' he))
  obtain ⟨it, fp, tn, Jt, H2, rfl, I2, T, st2, f2, W, ⟨m0, w0⟩, turn⟩ := h2
  refine seg_call fun p => ?_
  have gl : ∀ {ip' : List (Addr × Obj)}, (∀ p ∈ ip', p.1 ≠ S) → ∀ (kk : Result → Sem PySem.Fin), GC X S ip' A (Code.forLoop tg (.ref it) body [] X.env) (Frame.ret kk none (gd false) (lv []) c p [] :: fs) id := fun hip kk =>
    gc_loop ⟨gc.pn, hip, gc.apart, gc.over, gc.split, gc.guard, gc.gd⟩ rfl rfl
  have key : ∀ m i n ys s₀ s σ H, n + ys.length = sizeLine → W i m ys σ H → GI X S ip ys σ H s → tn i s.heap → (∀ b ∈ fp, H b = none) →
      Seg (model X.prog X.w) A R (GY X S) n s₀ (Code.forLoop tg (.ref it) body [] X.env) ((model X.prog X.w).den (Code.forLoop tg (.ref it) body [] X.env)) (Frame.ret (fun r => Sem.wrap K J gd lv ((match r with
          | Except.ok f => Sem.pure f
          | Except.error e => Sem.raise e).onRaise (cameBack X.env))) none (gd false) (lv []) c p [] :: fs) s := by
    intro m
    induction m using Nat.strongRecOn with
    | ind m ih =>
      intro i n ys s₀ s σ H hn w hI st hf
      obtain ⟨acc, cc, rv, I⟩ := hI
      have fpk : ∀ b ∈ fp, FpOk X ((S, lstObj acc cc) :: ip) H b := fun b hb' => by
        obtain ⟨q1, q2, q3, q4, q5, q6⟩ := f2 b hb'
        refine ⟨hf b hb', q2, q3, q4, q5, fun p' hp' => ?_⟩
        rcases List.mem_append.mp hp' with z | z
        · exact q6 p' (List.mem_append.mpr (.inl z))
        · rcases List.mem_cons.mp z with z | z
          · have q7 := q6 _ (List.mem_append.mpr (.inr (List.mem_cons_self ..)))
            rw [z]; exact q7
          · exact q6 p' (List.mem_append.mpr (.inr (List.mem_cons_of_mem _ z)))
      have fpS : ∀ b ∈ fp, b ≠ S := fun b hb' e => (fpk b hb').2.2.2.2.2 (S, lstObj acc cc) (List.mem_append.mpr (.inr (List.mem_cons_self ..))) e.symm
      have ee : ∀ n s₀ e s', X.xe e s' → Seg (model X.prog X.w) A R (GY X S) n s₀ (Code.forLoop tg (.ref it) body [] X.env) ((do noteFrame e X.env; theTreesLotGoes e : Sem Unit).bind fun _ => Sem.raise e) (Frame.ret (fun r => Sem.wrap K J gd lv ((match r with
          | Except.ok f => Sem.pure f
          | Except.error e => Sem.raise e).onRaise (cameBack X.env))) none (gd false) (lv []) c p [] :: fs) s' := fun n s₀ e s' he => by
        refine seg_bind ?_
        rw [(gl gc.ip _).over]
        exact wpAny_bind (wpAny_mono (hp e s' he) (fun _ s'' hcb => wpAny_theTreesLotGoes (seg_leaf (Except.error e) (seg_cameBack gc k hcb))) (fun y s'' hcb => seg_leaf (Except.error y) (seg_cameBack gc k hcb)))
      show Seg _ A R _ n s₀ _ ((forTurn tg (.ref it) body [] X.env).onRaise (fun x => do noteFrame x X.env; theTreesLotGoes x)) _ s
      rw [Sem.onRaise_eq_wrap]
      unfold forTurn
      refine seg_bind_wrap (wpAny_standAt ?_)
      refine seg_bind_wrap ?_
      rw [(gl gc.ip _).over]
      refine wpAny_onRaise ?_
      rcases turn i m ys σ H w with ⟨hstop, hnx⟩ | ⟨hgo, N, hN, hy⟩
      · refine wpAny_mono (T.done X rfl rfl rfl hc i ((S, lstObj acc cc) :: ip) s σ H (fun _ _ => False) I fpk st hstop) (fun r s1 hr => ?_) (fun _ _ z => z.elim)
        obtain ⟨rfl, I1⟩ := hr
        refine seg_again rfl ?_
        show Seg _ A R _ n s₀ _ (do let f ← (execs [] X.env).onRaise (fun x => do noteFrame x X.env; theTreesLotGoes x); pure (Fin.done f)) _ s1
        refine seg_bind ?_
        refine wpAny_onRaise ?_
        refine wpAny_pure ?_
        exact seg_leaf (Except.ok Flow.next) (k.ok n ys s₀ s1 Flow.next hn ⟨σ, H, ⟨acc, cc, rv, I1⟩, hnx⟩)
      · refine wpAny_mono (T.item X rfl rfl rfl hc i ((S, lstObj acc cc) :: ip) s σ H (fun _ _ => False) I fpk st hgo) (fun r s1 hr => ?_) (fun _ _ z => z.elim)
        obtain ⟨u, rfl, h2⟩ := hr
        refine seg_bind_wrap ?_
        rw [(gl gc.ip _).over]
        refine wpAny_mono h2 (fun _ s2 hh => ?_) (fun _ _ z => z.elim)
        obtain ⟨x, H', I', hx, hyl, st', hf'⟩ := hh
        have I'' : L2.Inv X ((S, lstObj acc cc) :: (pinsOf s2.heap fp ++ ip)) σ H' s2 := by
          refine { I' with pin := fun p' hp' => ?_ }
          rcases List.mem_append.mp hp' with z | z
          · exact I'.pin p' (List.mem_append.mpr (.inl z))
          · rcases List.mem_cons.mp z with z | z
            · exact I'.pin p' (List.mem_append.mpr (.inr (by rw [z]; exact List.mem_cons_self ..)))
            · rcases List.mem_append.mp z with z | z
              · obtain ⟨m1, m2⟩ := pinsOf_mem z
                obtain ⟨_, q2, q3, _⟩ := fpk _ m1
                obtain ⟨o, eo, no⟩ := T.obj _ _ st' _ m1
                rw [m2] at eo
                cases eo
                exact ⟨m2, hf' _ m1, q2, q3, no⟩
              · exact I'.pin p' (List.mem_append.mpr (.inr (List.mem_cons_of_mem _ z)))
        have hip : ∀ p' ∈ pinsOf s2.heap fp ++ ip, p'.1 ≠ S := fun p' hp' => by
          rcases List.mem_append.mp hp' with z | z
          · exact fpS _ (pinsOf_mem z).1
          · exact gc.ip p' z
        have back : ∀ {ys' : List V} {σ' : L2.St} {H3 : Hp} {s3 : Shared}, GI X S (pinsOf s2.heap fp ++ ip) ys' σ' H3 s3 → GI X S ip ys' σ' H3 s3 ∧ tn (i + 1) s3.heap ∧ ∀ b ∈ fp, H3 b = none := fun hI3 => by
          obtain ⟨acc3, cc3, rv3, I3⟩ := hI3
          have hpin : ∀ b ∈ fp, ∀ o, s2.heap.get? b = some o → _ := fun b hb' o eo => I3.pin (b, o) (List.mem_append.mpr (.inr (List.mem_cons_of_mem _ (List.mem_append.mpr (.inl (mem_pinsOf hb' eo))))))
          refine ⟨⟨acc3, cc3, rv3, inv_less I3 fun p' hp' => ?_⟩, T.keep _ _ _ st' fun b hb' o eo => (hpin b hb' o eo).1, fun b hb' => ?_⟩
          · rcases List.mem_cons.mp hp' with z | z
            · rw [z]; exact List.mem_cons_self ..
            · exact List.mem_cons_of_mem _ (List.mem_append.mpr (.inr z))
          · obtain ⟨o, eo, _⟩ := T.obj _ _ st' b hb'
            exact (hpin b hb' o eo).2.1
        refine seg_bind_wrap ?_
        rw [(gl gc.ip _).over]
        refine wpAny_mono (hg.run _ s2 σ H' x u _ I'' hx (hy x H' hyl)) (fun _ s3 h3 => ?_) (fun e s' he => ee n s₀ e s' he)
        obtain ⟨σ3, H3, I3, h3⟩ := h3
        rw [Sem.bind_eq_wrap', Sem.wrap_wrap]
        refine hb.run A S (pinsOf s2.heap fp ++ ip) R n ys s₀ _ _ _ _ _ _ s3 σ3 H3 { nx := N, rt := D.rt, bk := D.nx, ct := N } (gl hip _) hn ⟨fun n' ys' s₀' s' f hn' hq => ?_, fun n' s₀' e s' he => ee n' s₀' e s' he⟩ ⟨acc, cc, rv, I3⟩ h3
        cases f with
        | next =>
          obtain ⟨σ', H4, hI4, hn4⟩ := hq
          obtain ⟨m', hm, w'⟩ := hN ys' σ' H4 hn4
          obtain ⟨g1, g2, g3⟩ := back hI4
          exact seg_again rfl (ih m' hm (i + 1) n' ys' s₀' s' σ' H4 hn' w' g1 g2 g3)
        | cont =>
          obtain ⟨σ', H4, hI4, hn4⟩ := hq
          obtain ⟨m', hm, w'⟩ := hN ys' σ' H4 hn4
          obtain ⟨g1, g2, g3⟩ := back hI4
          exact seg_again rfl (ih m' hm (i + 1) n' ys' s₀' s' σ' H4 hn' w' g1 g2 g3)
        | brk =>
          obtain ⟨σ', H4, hI4, hn4⟩ := hq
          exact seg_leaf (Except.ok Flow.next) (k.ok n' ys' s₀' s' Flow.next hn' ⟨σ', H4, (back hI4).1, hn4⟩)
        | ret v =>
          obtain ⟨v', σ', H4, hI4, hv, hr⟩ := hq
          exact seg_leaf (Except.ok (Flow.ret v)) (k.ok n' ys' s₀' s' (Flow.ret v) hn' ⟨v', σ', H4, (back hI4).1, hv, hr⟩)
  exact key m0 0 n ys s₀ s2 σ H2 hn w0 ⟨acc, cc, rv, I2⟩ st2 fun b hb => (f2 b hb).1
end Gf

set_option Elab.async false
set_option linter.all false
set_option maxRecDepth 100000
set_option maxHeartbeats 2000000
namespace Gf
open PySem PySem.Spec PyProof.Rows L2
theorem close_list : typeLookup (Value.type "list_iterator") (Str.ofString "close") = pure none := by
  rw [typeLookup_type, builtinLookup_eq_fast]
  rfl
theorem special_list_item {prog : Program} {w : World} {A : Around} {E : Value → Shared → Prop} {s : Shared} {it l : Addr} {i : Nat} {items : Array Value} {x : Value} {Q : Option Value → Shared → Prop}
    (hit : s.heap.IsListIter it l i) (hl : s.heap.IsList l items) (hx : items[i]? = some x)
    (hQ : ∀ h' : Heap, h'.IsListIter it l (i + 1) → Heap.SameBut it s.heap h' → Q (some x) { heap := h', gens := s.gens, drawn := s.drawn, toks := s.toks, os := s.os }) :
    wpAny (model prog w) A (callSpecial? (Value.ref it) (Str.ofString "__next__")) Q E s := by
  obtain ⟨o, ho, hc, hd⟩ := id hit
  obtain ⟨ol, hol, hcl, nl, hdl⟩ := hl
  refine wpAny_callSpecial?_slot (Heap.IsListIter.typeIs hit) slot_listiter_next (wpAny_call_entry slot_listiter_next (Heap.IsListIter.typeIs hit) entry_listiter_next ?_ (args_listiter_next _))
  refine wpAny_bind (wpAny_pure (a := (Value.ref it, [])) ?_)
  refine wpAny_bind (wpAny_field ho hd rfl ?_)
  show wpAny _ _ (if _ then _ else _) _ _ _
  rw [if_neg (by intro h; cases h)]
  refine wpAny_bind (wpAny_field ho hd rfl ?_)
  refine wpAny_bind (wpAny_seqItems hol hdl ?_)
  show wpAny _ _ (match items[((i : Int)).toNat]? with | some x => _ | none => _) _ _ _
  rw [Int.toNat_natCast, hx]
  refine wpAny_bind (wpAny_setField ho hd (by simp) (wpAny_pure ⟨x, rfl, ?_⟩))
  refine hQ _ ⟨_, Heap.get?_update_self _ ho (Obj.isFreed_of_fields (Obj.data_mapFields hd _)), (Obj.cls_mapFields o _).trans hc, ?_⟩ (Heap.SameBut.update _ _ _)
  rw [Obj.data_mapFields hd]
  rfl
end Gf
namespace Gf
open PySem PySem.Spec PyProof.Rows L2
theorem special_list_end {prog : Program} {w : World} {A : Around} {E : Value → Shared → Prop} {s : Shared} {it l : Addr} {i : Nat} {items : Array Value} {Q : Option Value → Shared → Prop} (hh : A.handled = none)
    (hit : s.heap.IsListIter it l i) (hl : s.heap.IsList l items) (hx : items[i]? = none)
    (hE : ∀ (e : Value) (h' : Heap), StopX e h' → Heap.ExtBut it s.heap h' → E e { heap := h', gens := s.gens, drawn := s.drawn, toks := s.toks, os := s.os }) :
    wpAny (model prog w) A (callSpecial? (Value.ref it) (Str.ofString "__next__")) Q E s := by
  obtain ⟨o, ho, hc, hd⟩ := id hit
  obtain ⟨ol, hol, hcl, nl, hdl⟩ := hl
  refine wpAny_callSpecial?_slot (Heap.IsListIter.typeIs hit) slot_listiter_next (wpAny_call_entry slot_listiter_next (Heap.IsListIter.typeIs hit) entry_listiter_next ?_ (args_listiter_next _))
  refine wpAny_bind (wpAny_pure (a := (Value.ref it, [])) ?_)
  refine wpAny_bind (wpAny_field ho hd rfl ?_)
  show wpAny _ _ (if _ then _ else _) _ _ _
  rw [if_neg (by intro h; cases h)]
  refine wpAny_bind (wpAny_field ho hd rfl ?_)
  refine wpAny_bind (wpAny_seqItems hol hdl ?_)
  show wpAny _ _ (match items[((i : Int)).toNat]? with | some x => _ | none => _) _ _ _
  rw [Int.toNat_natCast, hx]
  refine wpAny_bind (wpAny_rule ?_)
  refine wpAny_bind (wpAny_setField ho hd (by simp) ?_)
  refine wpAny_bind ?_
  show wpAny _ _ (newExc (Value.type "StopIteration") []) _ _ _
  unfold newExc
  refine wpAny_bind ?_
  refine wpAny_newObj_type ?_
  refine wpAny_bind (wpAny_of_eq rfl ?_)
  refine wpAny_newObj_type ?_
  refine wpAny_raiseNew_none hh ?_
  refine hE _ _ ⟨_, _, _, rfl, Heap.get?_push_size _ rfl, rfl, rfl, by rfl⟩ (fun b o' hb e => ?_)
  have e1 : (s.heap.update it (Obj.mapFields fun x => x.setIfInBounds 0 Value.none)).get? b = some o' := by
    rw [(Heap.SameBut.update s.heap it _).2 b hb]; exact e
  exact Heap.get?_push_of_some _ (Heap.get?_push_of_some _ e1)
end Gf

set_option Elab.async false
set_option linter.all false
set_option maxRecDepth 100000
set_option maxHeartbeats 2000000
namespace Gf
open PySem PySem.Spec PyProof.Rows L2
def tYfL (te : TE) : TYf := fun σ H Q => te σ H fun x H1 => ∃ a xs, x = V.ref a ∧ H1 a = some (HO.lst xs) ∧ Q xs H1
theorem yf_list {X : Cx} {e : Expr} {te : TE} (he : PE X e te) : YfE X e (tYfL te) := by
  refine ⟨fun pins s σ H Q I h => ?_⟩
  refine thn (he.run pins s σ H (fun x H1 => ∃ a xs, x = V.ref a ∧ H1 a = some (HO.lst xs) ∧ Q xs H1) I h) fun v s1 hx => ?_
  obtain ⟨x, H1, I1, r1, a, xs, ex, ha, hq⟩ := hx
  subst ex
  have ev : v = Value.ref a := r1
  subst ev
  obtain ⟨hlen, its, nn, rits, hget⟩ := I1.hok a (HO.lst xs) ha
  have ht : s1.heap.IsList a its.toArray := ⟨_, hget, rfl, nn, rfl⟩
  have ksz := fun b o (e : s1.heap.get? b = some o) => Nat.ne_of_lt (Heap.lt_size e)
  refine ⟨"list", Heap.IsList.typeIs ht, by decide, ?_⟩
  refine PySem.Flt.iter_list_ ht fun s₂ es hh hb hne => ?_
  subst es
  have kp := fun b o (e : s1.heap.get? b = some o) => Heap.get?_push_of_some { cls := Value.type "list_iterator", data := Data.fields #[Value.ref a, Value.int 0 0] } e
  refine ⟨s1.heap.objs.size, H1, xs, fun j h => h.IsListIter s1.heap.objs.size a j ∧ h.IsList a its.toArray, rfl, Inv.kept I1 kp, .inr (Inv.sz I1), Nat.ne_of_gt (Inv.lt I1), fun y c hy => ?_, HOk.fresh I1.hok (Nat.le_refl _), fun p hp => ksz _ _ (I1.pin p hp).1, hh, ?_, hq⟩
  · obtain ⟨v, o, ho, _⟩ := I1.cell y c hy
    exact ksz _ _ ho
  · refine ⟨⟨"list_iterator", fun j h q => ?_, close_list, by decide⟩, fun j h h' q hk => ?_, fun A' j x s2 Q' E' hA hx q hQ => ?_, fun A' s2 Q' E' hA q hE => ?_⟩
    · obtain ⟨⟨o, ho, hc, _⟩, _⟩ := q
      exact ⟨o, ho, hc⟩
    · obtain ⟨⟨o, ho, r⟩, ⟨o2, ho2, r2⟩⟩ := q
      exact ⟨⟨o, hk _ _ (.inl rfl) ho, r⟩, ⟨o2, hk _ _ (.inr (by rw [ha]; exact fun z => by cases z)) ho2, r2⟩⟩
    · obtain ⟨q1, q2⟩ := q
      obtain ⟨u, hu, ru⟩ := Vals.get rits hx
      have hne' : a ≠ s1.heap.objs.size := hne
      refine special_list_item q1 q2 (by rw [List.getElem?_toArray]; exact hu) fun h' q1' hs => ?_
      refine hQ u h' s2.toks ru ⟨q1', ?_⟩ fun b o hb eb => by rw [hs.2 b hb]; exact eb
      obtain ⟨o2, ho2, r2⟩ := q2
      exact ⟨o2, by rw [hs.2 a hne']; exact ho2, r2⟩
    · obtain ⟨q1, q2⟩ := q
      have hnone : its.toArray[xs.length]? = none := by
        have e := Vals.length rits
        rw [List.getElem?_toArray]
        exact List.getElem?_eq_none_iff.mpr (by omega)
      exact special_list_end hA q1 q2 hnone fun e h' hS hk => hE e h' s2.toks hS fun b o hb eb => hk b o hb eb
end Gf

set_option Elab.async false
set_option linter.all false
set_option maxRecDepth 100000
set_option maxHeartbeats 2000000
namespace Dk
open PySem PySem.Spec PyProof.Rows L2 TL
/-! ### what happens in a tick, and quiet periods -/
def evIn (h : Hd) (i : Nat) : List Ev := (adv h (i : Int) (stt h i)).2
theorem adv_perE {h : Hd} (hT : Tabs h.ts) {i j : Int} (e : i % ((per h.ts : Nat) : Int) = j % ((per h.ts : Nat) : Int)) (c : Cs) : adv h i c = adv h j c := by
  have ew := wishes_per hT e
  have es : leaveStep h i = leaveStep h j := by
    funext a p
    unfold leaveStep
    rw [thinks_per e]
  unfold adv depart leaveAll
  rw [ew, es]
theorem leave_grows (h : Hd) (t : Int) : ∀ (l : List Int) (a : Cs × Bool × List Ev), a.2.2.length + l.length ≤ (l.foldl (leaveStep h t) a).2.2.length ∧ (l.foldl (leaveStep h t) a).2.2.length ≤ a.2.2.length + 2 * l.length
  | [], a => ⟨Nat.le_refl _, Nat.le_refl _⟩
  | q :: r, a => by
    have ih := leave_grows h t r (leaveStep h t a q)
    have h1 : a.2.2.length + 1 ≤ (leaveStep h t a q).2.2.length ∧ (leaveStep h t a q).2.2.length ≤ a.2.2.length + 2 := by
      unfold leaveStep
      split
      · split
        · show _ ≤ (a.2.2 ++ [_] ++ [_]).length ∧ (a.2.2 ++ [_] ++ [_]).length ≤ _
          rw [List.length_append, List.length_append]
          show _ ≤ a.2.2.length + 1 + 1 ∧ a.2.2.length + 1 + 1 ≤ _
          omega
        · show _ ≤ (a.2.2 ++ [_]).length ∧ (a.2.2 ++ [_]).length ≤ _
          rw [List.length_append]
          show _ ≤ a.2.2.length + 1 ∧ a.2.2.length + 1 ≤ _
          omega
      · show _ ≤ (a.2.2 ++ [_]).length ∧ (a.2.2 ++ [_]).length ≤ _
        rw [List.length_append]
        show _ ≤ a.2.2.length + 1 ∧ a.2.2.length + 1 ≤ _
        omega
    show a.2.2.length + (r.length + 1) ≤ (r.foldl (leaveStep h t) (leaveStep h t a q)).2.2.length ∧ (r.foldl (leaveStep h t) (leaveStep h t a q)).2.2.length ≤ a.2.2.length + 2 * (r.length + 1)
    omega
/-- at most 20 things happen in a tick -/
theorem dep_len (h : Hd) (t : Int) (ws : List Bool) (c : Cs) : (leaversOf ws c).length ≤ (depart h t ws c).2.length ∧ (depart h t ws c).2.length ≤ 2 * (leaversOf ws c).length + 1 := by
  have g := leave_grows h t (leaversOf ws c) (stay ws c, false, [])
  have e : (leaversOf ws c).foldl (leaveStep h t) (stay ws c, false, []) = leaveAll h t ws c := rfl
  rw [e] at g
  have g1 : (leaversOf ws c).length ≤ (leaveAll h t ws c).2.2.length := by have := g.1; simpa using this
  have g2 : (leaveAll h t ws c).2.2.length ≤ 2 * (leaversOf ws c).length := by have := g.2; simpa using this
  unfold depart
  split
  · split
    · show _ ≤ ((leaveAll h t ws c).2.2 ++ [_]).length ∧ ((leaveAll h t ws c).2.2 ++ [_]).length ≤ _
      rw [List.length_append]
      show _ ≤ _ + 1 ∧ _ + 1 ≤ _
      omega
    · show _ ≤ (leaveAll h t ws c).2.2.length ∧ (leaveAll h t ws c).2.2.length ≤ _
      omega
  · show _ ≤ (leaveAll h t ws c).2.2.length ∧ (leaveAll h t ws c).2.2.length ≤ _
    omega
theorem adv_len {h : Hd} {t : Int} {c : Cs} (g : Gd h.ts.length c) (h6 : h.ts.length ≤ 6) : (adv h t c).2.length ≤ 20 := by
  have hw := wishes_len h.ts t
  have g2 := gd_arrive hw g
  have a1 : (arrive (wishes h.ts t) c).2.length ≤ 6 := by
    have := comers_len (wishes h.ts t) c.home
    unfold arrive
    dsimp only
    split
    · exact Nat.zero_le _
    · split <;> (rw [List.length_map]; omega)
  have a2 := (dep_len h t (wishes h.ts t) (arrive (wishes h.ts t) c).1).2
  have a3 : (leaversOf (wishes h.ts t) (arrive (wishes h.ts t) c).1).length ≤ 6 := by
    have := List.length_filter_le (fun p => !wants (wishes h.ts t) p) (arrive (wishes h.ts t) c).1.home
    have b := up_len g2.hu g2.hi
    unfold leaversOf; omega
  show ((arrive (wishes h.ts t) c).2 ++ (depart h t (wishes h.ts t) (arrive (wishes h.ts t) c).1).2).length ≤ 20
  rw [List.length_append]
  omega
/-- a tick in which nothing happens only empties the waiters -/
def still (c : Cs) : Cs := { c with wait := [] }
theorem filt_none {p : Int → Bool} {l : List Int} (h : l.filter (fun x => !p x) = []) : l.filter p = l := List.filter_eq_self.mpr fun x hx => by
  cases q : p x with
  | true => rfl
  | false => exact absurd ((List.mem_filter (p := fun x => !p x)).mpr ⟨hx, by show (!p x) = true; rw [q]; rfl⟩) (by rw [h]; exact List.not_mem_nil)
theorem quiet_is {h : Hd} {t : Int} {c : Cs} (q : (adv h t c).2 = []) : adv h t c = (still c, []) := by
  have q' : (arrive (wishes h.ts t) c).2 ++ (depart h t (wishes h.ts t) (arrive (wishes h.ts t) c).1).2 = [] := q
  obtain ⟨q1, q2⟩ := List.append_eq_nil_iff.mp q'
  have ea : arrive (wishes h.ts t) c = (still c, []) := by
    unfold arrive at q1 ⊢
    dsimp only at q1 ⊢
    by_cases e : (comersOf (wishes h.ts t) c.home).isEmpty = true
    · rw [if_pos e]; rfl
    · rw [if_neg e] at q1
      exfalso
      have hne : comersOf (wishes h.ts t) c.home ≠ [] := fun z => e (by rw [z]; rfl)
      split at q1
      · exact hne (List.map_eq_nil_iff.mp q1)
      · exact hne (List.map_eq_nil_iff.mp q1)
  rw [ea] at q2
  have hl : leaversOf (wishes h.ts t) (still c) = [] := by
    have := (dep_len h t (wishes h.ts t) (still c)).1
    rw [q2] at this
    exact List.eq_nil_of_length_eq_zero (Nat.le_zero.mp this)
  have es : stay (wishes h.ts t) (still c) = still c := by
    unfold stay
    rw [filt_none hl]
  have ed : depart h t (wishes h.ts t) (still c) = (still c, []) := by
    unfold depart leaveAll
    rw [hl, es]
    rfl
  show ((depart h t (wishes h.ts t) (arrive (wishes h.ts t) c).1).1, (arrive (wishes h.ts t) c).2 ++ (depart h t (wishes h.ts t) (arrive (wishes h.ts t) c).1).2) = _
  rw [ea, ed]
  rfl
theorem adv_still (h : Hd) (t : Int) (c : Cs) : adv h t (still c) = adv h t c := rfl
theorem still_state {h : Hd} {t0 n : Nat} (q : ∀ j, j < n → evIn h (t0 + j) = []) : ∀ j, j < n → stt h (t0 + (j + 1)) = still (stt h t0)
  | 0, hj => by
    have := quiet_is (q 0 hj)
    show (adv h ((t0 + 0 : Nat) : Int) (stt h (t0 + 0))).1 = _
    rw [this]; rfl
  | j + 1, hj => by
    have ih := still_state q j (by omega)
    have := quiet_is (q (j + 1) hj)
    show (adv h ((t0 + (j + 1) : Nat) : Int) (stt h (t0 + (j + 1)))).1 = _
    rw [this, ih]; rfl
/-- whoever does nothing in a whole period never does anything again -/
theorem quiet_for_ever {h : Hd} (hT : Tabs h.ts) {t0 : Nat} (q : ∀ j, j < per h.ts → evIn h (t0 + j) = []) : ∀ k, evIn h (t0 + k) = [] := by
  have hp := per_pos hT
  have res : ∀ k, (adv h ((t0 + k : Nat) : Int) (stt h t0)).2 = [] := fun k => by
    have e : ((t0 + k : Nat) : Int) % ((per h.ts : Nat) : Int) = ((t0 + k % per h.ts : Nat) : Int) % ((per h.ts : Nat) : Int) := by
      show (((t0 + k) % per h.ts : Nat) : Int) = (((t0 + k % per h.ts) % per h.ts : Nat) : Int)
      rw [Nat.add_mod t0 k, Nat.add_mod t0 (k % per h.ts), Nat.mod_mod]
    rw [adv_perE hT e]
    have hj := Nat.mod_lt k hp
    have hq := q (k % per h.ts) hj
    unfold evIn at hq
    cases hk : k % per h.ts with
    | zero => rw [hk] at hq; exact hq
    | succ m =>
      rw [hk] at hq hj
      have es := still_state q m (by omega)
      rw [es, adv_still] at hq
      exact hq
  have st : ∀ k, stt h (t0 + (k + 1)) = still (stt h t0) := fun k => by
    induction k with
    | zero =>
      have := quiet_is (res 0)
      show (adv h ((t0 + 0 : Nat) : Int) (stt h (t0 + 0))).1 = _
      rw [Nat.add_zero] at this ⊢
      rw [this]
    | succ k ih =>
      have := quiet_is (res (k + 1))
      show (adv h ((t0 + (k + 1) : Nat) : Int) (stt h (t0 + (k + 1)))).1 = _
      rw [ih, adv_still, this]
  intro k
  cases k with
  | zero => have := res 0; exact this
  | succ k =>
    unfold evIn
    rw [st k, adv_still]
    exact res (k + 1)
end Dk

set_option Elab.async false
set_option linter.all false
set_option maxRecDepth 100000
set_option maxHeartbeats 4000000
namespace Dk
open PySem PySem.Spec PyProof.Rows L2 TL
def EvT (H : Hp) (ys : List V) (l : List (Int × Ev)) : Prop := Paired (fun v (p : Int × Ev) => ∃ a, v = .ref a ∧ H a = some (.tup [.int p.1, .str p.2.1, p.2.2])) ys l
theorem EvT.mono {H H' : Hp} : ∀ {ys : List V} {l : List (Int × Ev)}, EvT H ys l → (∀ a zs, H a = some (.tup zs) → H' a = some (.tup zs)) → EvT H' ys l
  | [], [], .nil, _ => .nil
  | _ :: _, _ :: _, .cons ⟨a, e, h⟩ q, s => .cons ⟨a, e, s _ _ h⟩ (EvT.mono q s)
theorem EvT.app {H : Hp} : ∀ {xs : List V} {l : List (Int × Ev)} {ys : List V} {m : List (Int × Ev)}, EvT H xs l → EvT H ys m → EvT H (xs ++ ys) (l ++ m)
  | [], [], _, _, .nil, h => h
  | _ :: _, _ :: _, _, _, .cons a q, h => .cons a (EvT.app q h)
theorem EvT.len {H : Hp} {ys : List V} {l : List (Int × Ev)} (h : EvT H ys l) : ys.length = l.length := Paired.length h
theorem Evs.evT {H : Hp} {t : Int} : ∀ {xs : List V} {evs : List Ev}, Evs H t xs evs → EvT H xs (evs.map fun e => (t, e))
  | [], [], .nil => .nil
  | _ :: _, _ :: _, .cons ⟨a, e, h⟩ q => .cons ⟨a, e, h⟩ (Evs.evT q)
def evL (h : Hd) (first n : Nat) : List (Int × Ev) := (List.range n).flatMap fun j => (evIn h (first + j)).map fun e => (((first + j : Nat) : Int), e)
theorem evL_succ (h : Hd) (first n : Nat) : evL h first (n + 1) = evL h first n ++ (evIn h (first + n)).map fun e => (((first + n : Nat) : Int), e) := by
  unfold evL
  rw [List.range_succ, List.flatMap_append]
  simp
theorem evL_more {h : Hd} {first i : Nat} : ∀ k, (∀ j, j < k → evIn h (first + (i + j)) = []) → evL h first (i + k) = evL h first i
  | 0, _ => rfl
  | k + 1, q => by
    have ih := evL_more k fun j hj => q j (by omega)
    show evL h first ((i + k) + 1) = _
    rw [evL_succ, ih, q k (by omega)]
    simp
def spEvents (K : PySem.W.Frag) (CH : Addr) : SpG := fun vs H Q _ => ∃ (hp : Addr) (h : Hd) (first n : Nat), vs = [.ref hp, .int (first : Int), .int ((first : Int) + (n : Int) - 1)] ∧ HoAt K CH H hp h ∧ Tabs h.ts ∧ h.ts.length ≤ 6 ∧ (first : Int) ≤ lastT ∧ 0 ≤ (first : Int) + (n : Int) - 1 ∧ (first : Int) + (n : Int) - 1 ≤ lastT ∧ n ≤ 1000 ∧
  ∀ (H' : Hp) (ys : List V), Same H H' → EvT H' ys (evL h first n) → Q ys H'
abbrev nEv : List Str := ["house", "first", "last", "course", "quiet", "_", "events"]
section
variable {P : Program} {w : World} {K : PySem.W.Frag} {mg : Str → Option Value} {base : Heap} {CC CH fCi fAd fSn : Addr} {fdCi fdAd fdSn : FuncData} {fSo fFc : Addr} {fdSo fdFc : FuncData} {fHL : Addr} {fdHL : FuncData} {fII fIB fHO : Addr} {fdII fdIB fdHO : FuncData} {fCt fCa : Addr} {fdCt fdCa : FuncData}
end
end Dk

set_option Elab.async false
set_option linter.all false
set_option maxRecDepth 100000
set_option maxHeartbeats 4000000
namespace Dk
open PySem PySem.Spec PyProof.Rows L2 TL
/-! ### what happens, as data -/
def VOk (v : V) : Prop := v = .non ∨ ∃ q : Int, v = .int q
def vD : V → PyData
  | .int i => .int i
  | _ => .none
def evD (p : Int × Ev) : PyData := .tuple [.int p.1, .str p.2.1, vD p.2.2]
theorem leave_ok (h : Hd) (t : Int) : ∀ (l : List Int) (a : Cs × Bool × List Ev), (∀ e ∈ a.2.2, VOk e.2) → ∀ e ∈ (l.foldl (leaveStep h t) a).2.2, VOk e.2
  | [], _, k => k
  | q :: r, a, k => leave_ok h t r (leaveStep h t a q) (by
      unfold leaveStep
      split
      · split
        · intro e he
          rcases List.mem_append.mp he with he | he
          · rcases List.mem_append.mp he with he | he
            · exact k e he
            · rw [List.mem_singleton.mp he]; exact .inr ⟨q, rfl⟩
          · rw [List.mem_singleton.mp he]; exact .inr ⟨q, rfl⟩
        · intro e he
          rcases List.mem_append.mp he with he | he
          · exact k e he
          · rw [List.mem_singleton.mp he]; exact .inr ⟨q, rfl⟩
      · intro e he
        rcases List.mem_append.mp he with he | he
        · exact k e he
        · rw [List.mem_singleton.mp he]; exact .inr ⟨q, rfl⟩)
theorem adv_ok (h : Hd) (t : Int) (c : Cs) : ∀ e ∈ (adv h t c).2, VOk e.2 := by
  intro e he
  have he : e ∈ (arrive (wishes h.ts t) c).2 ++ (depart h t (wishes h.ts t) (arrive (wishes h.ts t) c).1).2 := he
  rcases List.mem_append.mp he with he | he
  · unfold arrive at he
    dsimp only at he
    split at he
    · cases he
    · split at he
      · obtain ⟨q, _, rfl⟩ := List.mem_map.mp he
        exact .inr ⟨q, rfl⟩
      · obtain ⟨q, _, rfl⟩ := List.mem_map.mp he
        exact .inr ⟨q, rfl⟩
  · generalize (arrive (wishes h.ts t) c).1 = c1 at he
    have hl : ∀ e ∈ (leaveAll h t (wishes h.ts t) c1).2.2, VOk e.2 := leave_ok h t _ _ (fun e he => by cases he)
    unfold depart at he
    split at he
    · split at he
      · rcases List.mem_append.mp he with he | he
        · exact hl e he
        · rw [List.mem_singleton.mp he]
          unfold closeC
          split
          · exact .inr ⟨_, rfl⟩
          · exact .inl rfl
      · exact hl e he
    · exact hl e he
theorem evL_ok {h : Hd} {f n : Nat} : ∀ p ∈ evL h f n, VOk p.2.2 := fun p hp => by
  obtain ⟨j, _, hj⟩ := List.mem_flatMap.mp hp
  obtain ⟨e, he, rfl⟩ := List.mem_map.mp hj
  exact adv_ok _ _ _ e he
theorem evL_len {h : Hd} (h6 : h.ts.length ≤ 6) (f : Nat) : ∀ n, (evL h f n).length ≤ 20 * n
  | 0 => Nat.le_refl _
  | n + 1 => by
    rw [evL_succ, List.length_append, List.length_map]
    have := evL_len h6 f n
    have := adv_len (h := h) (t := ((f + n : Nat) : Int)) (gd_stt h (f + n)) h6
    have e : (evIn h (f + n)).length ≤ 20 := this
    omega
theorem EvT.dp {K : PySem.W.Frag} {H : Hp} : ∀ {ys : List V} {l : List (Int × Ev)}, EvT H ys l → (∀ p ∈ l, VOk p.2.2) → DpAll K H ys (l.map evD)
  | [], [], .nil, _ => .nil
  | _ :: _, p :: _, .cons ⟨a, e, h⟩ q, k => by
    rw [e]
    refine .cons (.tup (SqT.of h) (.cons (.int _) (.cons (.str _) (.cons ?_ .nil)))) (EvT.dp q fun p' hp => k p' (List.mem_cons_of_mem _ hp))
    rcases k p (List.mem_cons_self ..) with z | ⟨i, z⟩
    · rw [z]; exact .non
    · rw [z]; exact .int _
theorem ev_flat {l : List (Int × Ev)} (hl : l.length ≤ 1000) (k : ∀ p ∈ l, VOk p.2.2) : Flat 3 (.list (l.map evD)) := by
  refine ⟨by rw [List.length_map]; exact hl, fun d hd => ?_⟩
  obtain ⟨p, hp, rfl⟩ := List.mem_map.mp hd
  refine ⟨by show 3 ≤ 1000; decide, fun y hy => ?_⟩
  simp only [List.mem_cons, List.not_mem_nil, or_false] at hy
  rcases hy with rfl | rfl | rfl
  · trivial
  · trivial
  · rcases k p hp with z | ⟨i, z⟩ <;> rw [z] <;> trivial
end Dk

set_option Elab.async false
set_option linter.all false
set_option maxRecDepth 100000
set_option maxHeartbeats 4000000
namespace Dk
open PySem PySem.Spec PyProof.Rows L2 TL
/-! ### what happens, as data that may be compared -/
def WOk (x : Str) : Prop := PySem.PyData.strOk x = true
theorem wok1 : WOk wEnter := by unfold WOk; decide +kernel
theorem wok2 : WOk wWait := by unfold WOk; decide +kernel
theorem wok3 : WOk wLeave := by unfold WOk; decide +kernel
theorem wok4 : WOk wTake := by unfold WOk; decide +kernel
theorem wok5 : WOk wOpen := by unfold WOk; decide +kernel
theorem leave_w (h : Hd) (t : Int) : ∀ (l : List Int) (a : Cs × Bool × List Ev), (∀ e ∈ a.2.2, WOk e.1) → ∀ e ∈ (l.foldl (leaveStep h t) a).2.2, WOk e.1
  | [], _, k => k
  | q :: r, a, k => leave_w h t r (leaveStep h t a q) (by
      unfold leaveStep
      split
      · split
        · intro e he
          rcases List.mem_append.mp he with he | he
          · rcases List.mem_append.mp he with he | he
            · exact k e he
            · rw [List.mem_singleton.mp he]; exact wok3
          · rw [List.mem_singleton.mp he]; exact wok4
        · intro e he
          rcases List.mem_append.mp he with he | he
          · exact k e he
          · rw [List.mem_singleton.mp he]; exact wok3
      · intro e he
        rcases List.mem_append.mp he with he | he
        · exact k e he
        · rw [List.mem_singleton.mp he]; exact wok3)
theorem adv_w (h : Hd) (t : Int) (c : Cs) : ∀ e ∈ (adv h t c).2, WOk e.1 := by
  intro e he
  have he : e ∈ (arrive (wishes h.ts t) c).2 ++ (depart h t (wishes h.ts t) (arrive (wishes h.ts t) c).1).2 := he
  rcases List.mem_append.mp he with he | he
  · unfold arrive at he
    dsimp only at he
    split at he
    · cases he
    · split at he
      · obtain ⟨q, _, rfl⟩ := List.mem_map.mp he
        exact wok1
      · obtain ⟨q, _, rfl⟩ := List.mem_map.mp he
        exact wok2
  · generalize (arrive (wishes h.ts t) c).1 = c1 at he
    have hl : ∀ e ∈ (leaveAll h t (wishes h.ts t) c1).2.2, WOk e.1 := leave_w h t _ _ (fun e he => by cases he)
    unfold depart at he
    split at he
    · split at he
      · rcases List.mem_append.mp he with he | he
        · exact hl e he
        · rw [List.mem_singleton.mp he]
          unfold closeC
          split
          · exact wok4
          · exact wok5
      · exact hl e he
    · exact hl e he
theorem evL_w {h : Hd} {f n : Nat} : ∀ p ∈ evL h f n, WOk p.2.1 := fun p hp => by
  obtain ⟨j, _, hj⟩ := List.mem_flatMap.mp hp
  obtain ⟨e, he, rfl⟩ := List.mem_map.mp hj
  exact adv_w _ _ _ e he
theorem evDs_lay : ∀ l : List (Int × Ev), (∀ p ∈ l, WOk p.2.1) → PyData.canLayAll0 (l.map evD) = true ∧ PyData.depthAll (l.map evD) ≤ 1
  | [], _ => ⟨rfl, by show 0 ≤ 1; decide⟩
  | p :: l, k => by
    obtain ⟨h1, h2⟩ := evDs_lay l fun q hq => k q (List.mem_cons_of_mem _ hq)
    have kp : PySem.PyData.strOk p.2.1 = true := k p (List.mem_cons_self ..)
    have hv : PyData.canLay0 (vD p.2.2) = true ∧ PyData.depth (vD p.2.2) = 0 := by
      unfold vD
      split <;> exact ⟨rfl, rfl⟩
    refine ⟨?_, ?_⟩
    · show ((true && (PySem.PyData.strOk p.2.1 && (PyData.canLay0 (vD p.2.2) && true))) && PyData.canLayAll0 (l.map evD)) = true
      rw [h1, hv.1, kp]; rfl
    · show max (max 0 (max 0 (max (PyData.depth (vD p.2.2)) 0)) + 1) (PyData.depthAll (l.map evD)) ≤ 1
      rw [hv.2]
      have : max 0 (max 0 (max 0 0)) + 1 = 1 := by decide
      omega
theorem evDs_shaped {l : List (Int × Ev)} (k : ∀ p ∈ l, WOk p.2.1) : SeqAt.shaped (.list (l.map evD)) = true := by
  obtain ⟨h1, h2⟩ := evDs_lay l k
  unfold SeqAt.shaped
  rw [show PyData.canLay0 (.list (l.map evD)) = true from h1, decide_eq_true (show PyData.depth (.list (l.map evD)) ≤ 64 by show PyData.depthAll (l.map evD) + 1 ≤ 64; omega)]
  rfl
theorem evDs_eqv {l : List (Int × Ev)} (k : ∀ p ∈ l, WOk p.2.1) : PyData.eqv (.list (l.map evD)) (.list (l.map evD)) = true := PySem.SeqAt.eqv_refl _ (show PyData.canLay0 (.list (l.map evD)) = true from (evDs_lay l k).1)
/-- numbers that are the same, as a list and as a tuple -/
theorem eq_ints {K : PySem.W.Frag} {H : Hp} {a b : Addr} {l : List Int} (ha : H a = some (.lst (l.map V.int))) (hb : H b = some (.lst (l.map V.int))) : ∃ d e, Dp K H (.ref a) d ∧ Dp K H (.ref b) e ∧ SeqAt.shaped d = true ∧ SeqAt.shaped e = true ∧ PyData.eqv d e = true := by
  obtain ⟨h1, h2⟩ := dI_lay l
  have sh : SeqAt.shaped (.list (dI l)) = true := by
    unfold SeqAt.shaped
    rw [show PyData.canLay0 (.list (dI l)) = true from h1, decide_eq_true (show PyData.depth (.list (dI l)) ≤ 64 by show PyData.depthAll (dI l) + 1 ≤ 64; omega)]
    rfl
  exact ⟨.list (dI l), .list (dI l), .lst (SqL.of ha) (dpAll_dI l), .lst (SqL.of hb) (dpAll_dI l), sh, sh, PySem.SeqAt.eqv_refl _ (show PyData.canLay0 (.list (dI l)) = true from h1)⟩
theorem eq_intsT {K : PySem.W.Frag} {H : Hp} {a b : Addr} {l : List Int} (ha : H a = some (.tup (l.map V.int))) (hb : H b = some (.tup (l.map V.int))) : ∃ d e, Dp K H (.ref a) d ∧ Dp K H (.ref b) e ∧ SeqAt.shaped d = true ∧ SeqAt.shaped e = true ∧ PyData.eqv d e = true := by
  obtain ⟨h1, h2⟩ := dI_lay l
  have sh : SeqAt.shaped (.tuple (dI l)) = true := by
    unfold SeqAt.shaped
    rw [show PyData.canLay0 (.tuple (dI l)) = true from h1, decide_eq_true (show PyData.depth (.tuple (dI l)) ≤ 64 by show PyData.depthAll (dI l) + 1 ≤ 64; omega)]
    rfl
  exact ⟨.tuple (dI l), .tuple (dI l), .tup (SqT.of ha) (dpAll_dI l), .tup (SqT.of hb) (dpAll_dI l), sh, sh, PySem.SeqAt.eqv_refl _ (show PyData.canLay0 (.tuple (dI l)) = true from h1)⟩
end Dk

set_option Elab.async false
set_option linter.all false
set_option maxRecDepth 100000
set_option maxHeartbeats 2000000
namespace Dk
open PySem PySem.Spec PyProof.Rows L2 TL
/-- numbers in a tuple -/
def spGroup (K : PySem.W.Frag) : Sp := fun vs H Q _ => ∃ (a : Addr) (ns : List Int), vs = [.ref a] ∧ H a = some (.tup (ns.map V.int)) ∧ ns.length ≤ 1000 ∧ ∀ H', Same H H' → Q (.bl true) H'
/-- a log of what happened -/
def spFirstE (K : PySem.W.Frag) (CH : Addr) : Sp := fun vs H Q _ => ∃ (hp l : Addr) (h : Hd) (xs : List V), vs = [.ref hp, .ref l] ∧ HoAt K CH H hp h ∧ Tabs h.ts ∧ h.ts.length ≤ 6 ∧ H l = some (.lst xs) ∧ xs.length ≤ 100000 ∧
  (∀ i x, xs[i]? = some x → ∃ a, x = .ref a ∧ H a = some (.tup ((stt h (i + 1)).wait.map V.int))) ∧ ∀ H', Same H H' → Q .non H'
structure TxtFe (K : PySem.W.Frag) (mg : Str → Option Value) (fFe fIg : Addr) (fdFe fdIg : FuncData) : Prop where
  gFe : mg "first_error" = some (.ref fFe)
  FFe : Fun K "first_error" "first_error" sFirstE fFe fdFe
  bFe : Binds K fdFe ["house", "log"] []
  gIg : mg "is_group" = some (.ref fIg)
  FIg : Fun K "is_group" "is_group" sIsGroup fIg fdIg
  bIg : Binds K fdIg ["item"] []
  list : mg "list" = none
  enumerate : mg "enumerate" = none
theorem pair_all {α β : Type} {R : α → β → Prop} {S : β → Prop} : ∀ {xs : List α} {ys : List β}, Paired R xs ys → (∀ a b, R a b → S b) → ∀ y ∈ ys, S y
  | _, _, .nil, _, y, hy => by cases hy
  | _, _, .cons a q, k, y, hy => by
    rcases List.mem_cons.mp hy with rfl | hy
    · exact k _ _ a
    · exact pair_all q k y hy
abbrev nFirstE : List Str := ["house", "log", "course", "index", "item"]
section
variable {P : Program} {w : World} {K : PySem.W.Frag} {mg : Str → Option Value} {base : Heap} {CC CH fCi fAd fSn : Addr} {fdCi fdAd fdSn : FuncData} {fSo fFc : Addr} {fdSo fdFc : FuncData} {fHL : Addr} {fdHL : FuncData} {fII fIB fHO : Addr} {fdII fdIB fdHO : FuncData} {fFe fIg : Addr} {fdFe fdIg : FuncData}
theorem scGroup : FnScope ["item", "person"] ["item"] (defScope sIsGroup) := ⟨rfl, rfl, rfl, by decide +kernel, rfl, by decide +kernel, by decide +kernel⟩
theorem scFirstE : FnScope nFirstE ["house", "log"] (defScope sFirstE) := ⟨rfl, rfl, rfl, by decide +kernel, rfl, by decide +kernel, by decide +kernel⟩
theorem ok_group (FE : TxtFe K mg fFe fIg fdFe fdIg) (TF : TxtF K mg fII fIB fHO fdII fdIB fdHO) : FnOk P w K mg base CX0 2 fIg fdIg ["item"] (spGroup K) := by
  have GI : FnOk P w K mg base CX0 1 fII fdII ["value"] (spIsInt K) := ok_isint TF
  refine FE.FIg.ok scGroup (fun vs H Q E h => ?_) (fun cdv A outer s H vs Q E hr h => ?_)
  · obtain ⟨a, ns, rfl, _⟩ := h
    rfl
  · obtain ⟨a, ns, rfl, ea, hn, k⟩ := h
    refine ⟨_, pss_one (ps_ret (pe_and (pe_callB call_isi (by rfl) TF.isinstance (by decide +kernel) (pa_cons (pv 0) (pa_cons (pe_bltn (v := .ty "tuple") (by rfl) TF.tuple (by decide +kernel) rfl) pa_nil)))
      (pe_one (pe_callB (cr_all rfl) (by rfl) TF.all (by decide +kernel) (pa_cons (pe_lc (own := [("person", 1)]) (g := gName 1) (by rfl) scGroup.nd (pi_tup (pv 0)) (blkOk_by (N := ["item", "person"]) (sc := defScope sIsGroup) (by decide +kernel)) (fun _ _ _ _ _ => pg_name (i := 1) scGroup.nd rfl (Or.inl rfl)) (fun _ _ _ _ _ => pts_nil)
        (fun _ _ _ _ _ => pe_call GI hr rfl TF.gII TF.FII.kp TF.bII .nil pass0 (pa_cons (pv 1) pa_nil))) pa_nil))))), ?_⟩
    have hd : Dp K H (.ref a) (.tuple (dI ns)) := .tup (SqT.of ea) (dpAll_dI ns)
    refine ⟨_, rfl, _, _, _, _, _, rfl, .ty "tuple", tyx hd, kit_ty (kit_tup _), _, rfl, iteT ?_⟩
    refine ⟨_, rfl, a, rfl, ⟨_, SqT.of ea⟩, fun D hD => comp_tup (i := 1) (xs := ns.map V.int) hD (SqT.of ea) (by rw [List.length_map]; omega) (fun _ => true) (fun _ _ v => v = .bl true) (fun _ _ _ _ _ r => r) (te := tCall (spIsInt K) [] E0 (tCons (tVar 1) tNil)) (fun k x H5 Qb _ _ _ q => q _ (fun _ _ e => e)) (fun k x H5 Q5 hx _ s5 _ q => ?_) (fun _ => rfl) fun H5 ys s5 eD pr => ?_⟩
    · rw [List.getElem?_map] at hx
      obtain ⟨p, _, rfl⟩ := Option.map_eq_some_iff.mp hx
      exact ⟨_, rfl, _, .int p, rfl, .int p, q H5 _ (Same.refl H5) rfl⟩
    · have e : ys = (List.replicate ys.length true).map V.bl := by
        rw [List.map_replicate, List.eq_replicate_iff]
        exact ⟨rfl, fun y hy => (pair_all (R := fun _ v => v = V.bl true) pr (fun _ _ r => r)) y hy⟩
      rw [e] at eD
      refine ⟨D, _, rfl, SqL.of eD, ?_⟩
      rw [show (List.replicate ys.length true).all id = true by simp]
      exact k _ s5
theorem ok_firste (FE : TxtFe K mg fFe fIg fdFe fdIg) (TF : TxtF K mg fII fIB fHO fdII fdIB fdHO) (Z : TxtSc P w K mg base CC CH fCi fAd fSn fdCi fdAd fdSn) (C' : TxtCo K mg CC CH fHL fdHL) : FnOk P w K mg base CX0 6 fFe fdFe ["house", "log"] (spFirstE K CH) := by
  have GG : FnOk P w K mg base CX0 2 fIg fdIg ["item"] (spGroup K) := ok_group FE TF
  refine FE.FFe.ok scFirstE (fun vs H Q E h => ?_) (fun cdv A outer s H vs Q E hr h => ?_)
  · obtain ⟨hp, l, h, xs, rfl, _⟩ := h
    rfl
  · obtain ⟨hp, l, h, xs, rfl, hho, hT, h6, el, hn, hx, k⟩ := h
    have hr4 : Room 4 (A.deeper (envOfC (Str.ofString "first_error") (defScope sFirstE) s.heap.objs.size fFe cdv)) := hr.mono (by decide)
    have hr2 : Room 2 (A.deeper (envOfC (Str.ofString "first_error") (defScope sFirstE) s.heap.objs.size fFe cdv)) := hr.mono (by decide)
    have hu64 : (A.deeper (envOfC (Str.ofString "first_error") (defScope sFirstE) s.heap.objs.size fFe cdv)).units + 64 < cLine := by have := hr.un; omega
    refine ⟨_, pss_cons (ps_if (pt_not (pt_val (pe_callB call_isi (by rfl) TF.isinstance (by decide +kernel) (pa_cons (pv 1) (pa_cons (pe_bltn (v := .ty "list") (by rfl) FE.list (by decide +kernel) rfl) pa_nil))))) (pss_one (ps_ret pe_int)) pss_nil)
      (pss_cons (ps_set (i := 2) scFirstE.nd rfl (.inl rfl) (pe_make Z.M Z.GI hr rfl Z.gC Z.bI .nil pass0 (pa_cons (pv 0) pa_nil)))
      (pss_cons (ps_for PassesOwn.never rfl (pi_enum (by rfl) FE.enumerate (pa_cons (pv 1) pa_nil)) (pg_tup rfl (pgs_cons (pg_name (i := 3) scFirstE.nd rfl (.inl rfl)) (pgs_cons (pg_name (i := 4) scFirstE.nd rfl (.inl rfl)) pgs_nil)))
        (pss_cons (ps_expr (pe_meth0 (pv 2) Z.cl Z.mAd Z.GA hr4 Z.bAd .nil pass0))
        (pss_one (ps_if (PW.pt (pw_or (pt_not (pt_val (pe_call GG hr2 rfl FE.gIg FE.FIg.kp FE.bIg .nil pass0 (pa_cons (pv 4) pa_nil)))) (pw_or1 (pt_cmpR (op_neD hu64) (pv 4) (pe_callTy call_tuple_of (by rfl) TF.tuple (by decide +kernel) (pa_cons (pe_fld (pv 2) rfl) pa_nil)) (nomark _))))) (pss_one (ps_ret (pv 3))) pss_nil))))
      (pss_one (ps_ret pe_non)))), ?_⟩
    refine ⟨_, rfl, _, _, _, _, _, rfl, .ty "list", .base (.lst el), kit_ty (by decide +kernel : kitB "list" "list" = some true), _, rfl, iteF ?_⟩
    refine ⟨_, rfl, fun p dx hpn hdx npd => ?_⟩
    have sN : Same H (upd (upd H dx (.own p)) p (.ins CC dx [])) := fun b o e => by
      rw [upd_ne (ne_of_none e hpn), upd_ne (ne_of_none e hdx)]; exact e
    have nhp : hp ≠ p := by
      obtain ⟨⟨d, _, _, _, _, e1, _⟩⟩ := hho
      exact ne_of_none e1 hpn
    refine ⟨p, dx, hp, h, rfl, upd_same, hho.mono sN, nhp, hT, h6, fun H2 k2 co2 hm2 => ⟨rfl, ?_⟩⟩
    have ho2 := (hho.mono sN).kp k2 upd_same nhp
    have s2 : Same H H2 := fun b o e => k2 b o (ne_of_none e hpn) (sN _ _ e)
    have co2' : CoAt CC H2 p hp ((per h.ts : Nat) : Int) (((0 : Nat) : Int) - 1) (stt h 0) := co2
    clear k2 co2 hm2
    have hhl : ∀ n, (stt h n).home.length ≤ 50 ∧ (stt h n).carr.length ≤ 50 ∧ (stt h n).wait.length ≤ 1000 := fun n => by
      have g := gd_stt h n
      have a1 := up_len g.hu g.hi
      have a2 := up_len g.cu g.ci
      have a3 := up_len g.wu g.wi
      omega
    refine ⟨_, rfl, l, xs, rfl, SqL.of (s2 _ _ el), for_it walk_enum (fun i σ H3 => ∃ v3 v4, σ = [some (.ref hp), some (.ref l), some (.ref p), v3, v4] ∧ CoAt CC H3 p hp ((per h.ts : Nat) : Int) ((i : Int) - 1) (stt h i) ∧ HoAt K CH H3 hp h ∧ Same H H3)
      ⟨_, _, rfl, co2', ho2, s2⟩ (fun i σ H3 _ ⟨_, _, _, _, _, s3⟩ => SqL.of (s3 _ _ el)) ?_ ?_⟩
    · rintro i x σ H3 H4 hi ⟨v3, v4, rfl, co3, ho3, s3⟩ ⟨T, x0, y0, rfl, hT', rfl, e0, e1⟩
      cases e0
      obtain ⟨a, rfl, ha⟩ := hx i y0 e1
      have s34 := same_upd (o := .tup [.int ((i : Nat) : Int), .ref a]) hT'
      have eT : (upd H3 T (.tup [.int ((i : Nat) : Int), .ref a])) T = some (.tup [.int ((i : Nat) : Int), .ref a]) := upd_same
      have co4 := co3.mono s34
      have ho4 := ho3.mono s34
      have s4 := s3.trans s34
      generalize upd H3 T (.tup [.int ((i : Nat) : Int), .ref a]) = H4 at eT co4 ho4 s4
      refine ⟨T, _, rfl, SqT.of eT, rfl, _, _, rfl, _, _, rfl, rfl, ?_⟩
      obtain ⟨d3, c1, c2, c3, w1, w2, w3, w4⟩ := id co4
      have g := gd_stt h i
      refine ⟨_, rfl, p, d3, _, rfl, w1, by rfl, p, hp, (i : Int) - 1, stt h i, h, rfl, co4, ho4, nhp, hT, h6, g.hi, (hhl i).1, (hhl i).2.1, fun H5 e5 k5 co5 _ _ => ?_⟩
      have ei : (i : Int) - 1 + 1 = (i : Int) := by omega
      rw [ei] at co5
      have co5 : CoAt CC H5 p hp ((per h.ts : Nat) : Int) (i : Int) (stt h (i + 1)) := co5
      have ho5 := ho4.kp k5 w1 nhp
      have s5 : Same H H5 := fun b o e => k5 _ _ (ne_of_none e hpn) (s4 _ _ e)
      clear co3 co4 ho3 ho4 s3 s34 s4 k5 w1 w2 w3 w4
      refine ⟨_, rfl, a, (stt h (i + 1)).wait, rfl, s5 _ _ ha, (hhl (i + 1)).2.2, fun H6 s6 => ⟨_, rfl, iteF ?_⟩⟩
      have co6 := co5.mono s6
      obtain ⟨d6, aH, aW, aC, q1, q2, q3, q4⟩ := id co6
      refine ⟨_, rfl, _, rfl, p, CC, d6, _, .ref aW, rfl, q1, C'.cl, C'.nWt, by rfl, aW, _, rfl, .inl ⟨SqL.of q3, fun u hu => ?_⟩⟩
      have s7 := same_upd (o := .tup ((stt h (i + 1)).wait.map V.int)) hu
      obtain ⟨dd, de, z1, z2, z3, z4, z5⟩ := eq_intsT (K := K) (s7 _ _ (s6 _ _ (s5 _ _ ha))) (upd_same (H := H6) (a := u) (o := .tup ((stt h (i + 1)).wait.map V.int)))
      refine ⟨dd, de, z1, z2, z3, z4, _, rfl, ?_⟩
      rw [z5]
      have e2 : ((i + 1 : Nat) : Int) - 1 = (i : Int) := by omega
      refine iteF ⟨_, _, rfl, ?_, (ho5.mono s6).mono s7, (s5.trans s6).trans s7⟩
      rw [e2]
      exact co6.mono s7
    · rintro σ H3 ⟨v3, v4, rfl, co3, ho3, s3⟩
      exact k _ s3
end
end Dk

set_option Elab.async false
set_option linter.all false
set_option maxRecDepth 100000
set_option maxHeartbeats 1000000
namespace Dk
open PySem PySem.Spec PyProof.Rows L2 TL
/-! ### equal data are found equal -/
def FlatM : Nat → PyData → Prop
  | _, .none => True
  | _, .bool _ => True
  | _, .int _ => True
  | _, .str _ => True
  | 0, .list _ => False
  | 0, .tuple _ => False
  | n + 1, .list ds => ds.length ≤ 1000000 ∧ ∀ d ∈ ds, FlatM n d
  | n + 1, .tuple ds => ds.length ≤ 1000000 ∧ ∀ d ∈ ds, FlatM n d
  | _, .dict _ => False
def spEM (K : PySem.W.Frag) : Nat → Sp
  | 0 => fun _ _ _ _ => False
  | n + 1 => fun vs H Q _ => ∃ (a b : V) (d : PyData), vs = [a, b] ∧ Dp K H a d ∧ Dp K H b d ∧ FlatM n d ∧ ∀ H', Same H H' → Q (.bl true) H'
abbrev nEqM : List Str := ["_law_actual", "_law_expected", "_law_k"]
theorem all_trueM {n : Nat} : ((List.replicate n true).map V.bl) = List.replicate n (V.bl true) := List.map_replicate ..
section
variable {P : Program} {w : World} {K : PySem.W.Frag} {mg : Str → Option Value} {base : Heap} {fII fIB fHO : Addr} {fdII fdIB fdHO : FuncData}
theorem scEqualM : FnScope nEqM ["_law_actual", "_law_expected"] (defScope sEqual) := ⟨rfl, rfl, rfl, by decide +kernel, rfl, by decide +kernel, by decide +kernel⟩
theorem ok_equalM {f : Addr} {fd : FuncData} (F : Fun K "_law_equal" "_law_equal" sEqual f fd) (b : Binds K fd ["_law_actual", "_law_expected"] []) (g : mg "_law_equal" = some (.ref f)) (T : TxtA mg) (TF : TxtF K mg fII fIB fHO fdII fdIB fdHO) (gl : mg "list" = none) :
    ∀ n, FnOk P w K mg base CX0 (n + 1) f fd ["_law_actual", "_law_expected"] (spEM K n)
  | 0 => F.ok scEqualM (fun vs H Q E h => h.elim) (fun cdv A outer s H vs Q E hr h => h.elim)
  | n + 1 => by
    have G : FnOk P w K mg base CX0 (n + 1) f fd ["_law_actual", "_law_expected"] (spEM K n) := ok_equalM F b g T TF gl n
    refine F.ok scEqualM (fun vs H Q E h => ?_) (fun cdv A outer s H vs Q E hr h => ?_)
    · obtain ⟨x, y, d, rfl, _⟩ := h
      rfl
    · obtain ⟨x, y, d, rfl, hx, hy, hf, k⟩ := h
      refine ⟨_, pss_cons (ps_if (pt_cmp (pc_isN (pv 1))) (pss_one (ps_ret (pe_cmp (pc_isN (pv 0)) rfl))) pss_nil)
        (pss_cons (ps_if (pt_val (pe_callB call_isi (by rfl) TF.isinstance (by decide +kernel) (pa_cons (pv 1) (pa_cons (pe_bltn (v := .ty "bool") (by rfl) TF.bool (by decide +kernel) rfl) pa_nil))))
          (pss_one (ps_ret (pe_and (pe_callB call_isi (by rfl) TF.isinstance (by decide +kernel) (pa_cons (pv 0) (pa_cons (pe_bltn (v := .ty "bool") (by rfl) TF.bool (by decide +kernel) rfl) pa_nil))) (pe_one (pe_cmpR op_eq (pv 0) (pv 1) (nomark _)))))) pss_nil)
        (pss_cons (ps_if (pt_val (pe_callB call_isi (by rfl) TF.isinstance (by decide +kernel) (pa_cons (pv 1) (pa_cons (pe_bltn (v := .ty "int") (by rfl) TF.int (by decide +kernel) rfl) pa_nil))))
          (pss_one (ps_ret (pe_and (pe_callB call_isi (by rfl) TF.isinstance (by decide +kernel) (pa_cons (pv 0) (pa_cons (pe_bltn (v := .ty "int") (by rfl) TF.int (by decide +kernel) rfl) pa_nil)))
            (pe_and (pe_not (pe_callB call_isi (by rfl) TF.isinstance (by decide +kernel) (pa_cons (pv 0) (pa_cons (pe_bltn (v := .ty "bool") (by rfl) TF.bool (by decide +kernel) rfl) pa_nil)))) (pe_one (pe_cmpR op_eq (pv 0) (pv 1) (nomark _))))))) pss_nil)
        (pss_cons (ps_if (pt_val (pe_callB call_isi (by rfl) TF.isinstance (by decide +kernel) (pa_cons (pv 1) (pa_cons (pe_bltn (v := .ty "str") (by rfl) TF.str (by decide +kernel) rfl) pa_nil))))
          (pss_one (ps_ret (pe_and (pe_callB call_isi (by rfl) TF.isinstance (by decide +kernel) (pa_cons (pv 0) (pa_cons (pe_bltn (v := .ty "str") (by rfl) TF.str (by decide +kernel) rfl) pa_nil))) (pe_one (pe_cmpR op_eq (pv 0) (pv 1) (nomark _)))))) pss_nil)
        (pss_cons (ps_if (pt_cmpR op_ne (pe_callB call_isi (by rfl) TF.isinstance (by decide +kernel) (pa_cons (pv 1) (pa_cons (pe_bltn (v := .ty "tuple") (by rfl) TF.tuple (by decide +kernel) rfl) pa_nil))) (pe_callB call_isi (by rfl) TF.isinstance (by decide +kernel) (pa_cons (pv 0) (pa_cons (pe_bltn (v := .ty "tuple") (by rfl) TF.tuple (by decide +kernel) rfl) pa_nil))) (nomark _)) (pss_one (ps_ret pe_bl)) pss_nil)
        (pss_cons (ps_if (pt_cmpR op_ne (pe_callB call_isi (by rfl) TF.isinstance (by decide +kernel) (pa_cons (pv 1) (pa_cons (pe_bltn (v := .ty "list") (by rfl) gl (by decide +kernel) rfl) pa_nil))) (pe_callB call_isi (by rfl) TF.isinstance (by decide +kernel) (pa_cons (pv 0) (pa_cons (pe_bltn (v := .ty "list") (by rfl) gl (by decide +kernel) rfl) pa_nil))) (nomark _)) (pss_one (ps_ret pe_bl)) pss_nil)
        (pss_cons (ps_if (pt_cmpR op_ne (pe_callB call_len_seq (by rfl) T.len PySem.boot_len (pa_cons (pv 0) pa_nil)) (pe_callB call_len_seq (by rfl) T.len PySem.boot_len (pa_cons (pv 1) pa_nil)) (nomark _)) (pss_one (ps_ret pe_bl)) pss_nil)
        (pss_one (ps_ret (pe_callB (cr_all rfl) (by rfl) TF.all (by decide +kernel) (pa_cons (pe_lc (own := [("_law_k", 2)]) (g := gName 2) (te := tCall (spEM K n) [] E0 (tCons (tOp (rIx K) (tVar 0) (tVar 2)) (tCons (tOp (rIx K) (tVar 1) (tVar 2)) tNil))) (by rfl) scEqualM.nd
            (pi_range1 rfl T.range (pa_cons (pe_callB call_len_seq (by rfl) T.len PySem.boot_len (pa_cons (pv 1) pa_nil)) pa_nil)) (blkOk_by (N := nEqM) (sc := defScope sEqual) (by decide +kernel))
            (fun _ _ _ _ _ => pg_name (i := 2) scEqualM.nd rfl (Or.inl rfl)) (fun _ _ _ _ _ => pts_nil)
            (fun _ _ _ _ _ => by exact pe_call G hr rfl g F.kp b .nil pass0 (pa_cons (pe_ix ix_seq (pv 0) (pv 2) (fun _ _ => rfl)) (pa_cons (pe_ix ix_seq (pv 1) (pv 2) (fun _ _ => rfl)) pa_nil)))) pa_nil)))))))))), ?_⟩
      have sc : ∀ {A B : Prop}, A → (if true = true then A else B) := fun h => by rw [if_pos rfl]; exact h
      cases hy with
      | non =>
        cases hx
        refine ⟨_, rfl, _, rfl, iteT ⟨_, rfl, ?_⟩⟩
        exact k H (Same.refl H)
      | bl c =>
        cases hx
        refine ⟨_, rfl, _, rfl, iteF ?_⟩
        refine ⟨_, rfl, _, _, _, _, _, rfl, .ty "bool", .base (.bl c), kit_ty (kit_bool (.bool c)), _, rfl, iteT ?_⟩
        refine ⟨_, rfl, _, _, _, _, _, rfl, .ty "bool", .base (.bl c), kit_ty (kit_bool (.bool c)), _, rfl, iteT ⟨_, rfl, _, rfl, rfl, ?_⟩⟩
        have e : decide (V.bl c = V.bl c) = true := decide_eq_true rfl
        have := k H (Same.refl H)
        rw [← e] at this; exact this
      | int i =>
        cases hx
        refine ⟨_, rfl, _, rfl, iteF ?_⟩
        refine ⟨_, rfl, _, _, _, _, _, rfl, .ty "bool", .base (.int i), kit_ty (kit_bool (.int i)), _, rfl, iteF ?_⟩
        refine ⟨_, rfl, _, _, _, _, _, rfl, .ty "int", .base (.int i), kit_ty (kit_int (.int i)), _, rfl, iteT ?_⟩
        refine ⟨_, rfl, _, _, _, _, _, rfl, .ty "int", .base (.int i), kit_ty (kit_int (.int i)), _, rfl, iteT ?_⟩
        refine ⟨_, rfl, _, _, _, _, _, rfl, .ty "bool", .base (.int i), kit_ty (kit_bool (.int i)), _, rfl, _, rfl, iteT ⟨_, rfl, _, rfl, rfl, ?_⟩⟩
        have e : decide (V.int i = V.int i) = true := decide_eq_true rfl
        have := k H (Same.refl H)
        rw [← e] at this; exact this
      | str t =>
        cases hx
        refine ⟨_, rfl, _, rfl, iteF ?_⟩
        refine ⟨_, rfl, _, _, _, _, _, rfl, .ty "bool", .base (.str t), kit_ty (kit_bool (.str t)), _, rfl, iteF ?_⟩
        refine ⟨_, rfl, _, _, _, _, _, rfl, .ty "int", .base (.str t), kit_ty (kit_int (.str t)), _, rfl, iteF ?_⟩
        refine ⟨_, rfl, _, _, _, _, _, rfl, .ty "str", .base (.str t), kit_ty (kit_str (.str t)), _, rfl, iteT ?_⟩
        refine ⟨_, rfl, _, _, _, _, _, rfl, .ty "str", .base (.str t), kit_ty (kit_str (.str t)), _, rfl, iteT ⟨_, rfl, _, rfl, rfl, ?_⟩⟩
        have e : decide (V.str t = V.str t) = true := decide_eq_true rfl
        have := k H (Same.refl H)
        rw [← e] at this; exact this
      | @lst a ys ds hs ha =>
        cases hx with
        | @lst a2 xs _ hs2 ha2 =>
          cases n with
          | zero => exact hf.elim
          | succ n =>
            have l1 := dpAll_len ha
            have l2 := dpAll_len ha2
            have hz : ds.length ≤ 1000000 := hf.1
            refine ⟨_, rfl, _, rfl, iteF ?_⟩
            refine ⟨_, rfl, _, _, _, _, _, rfl, .ty "bool", tyx (.lst hs ha), kit_ty (kit_bool (.list ds)), _, rfl, iteF ?_⟩
            refine ⟨_, rfl, _, _, _, _, _, rfl, .ty "int", tyx (.lst hs ha), kit_ty (kit_int (.list ds)), _, rfl, iteF ?_⟩
            refine ⟨_, rfl, _, _, _, _, _, rfl, .ty "str", tyx (.lst hs ha), kit_ty (kit_str (.list ds)), _, rfl, iteF ?_⟩
            refine ⟨_, rfl, _, _, _, _, _, rfl, .ty "tuple", tyx (.lst hs ha), kit_ty (kit_tup (.list ds)), _, rfl, _, _, _, _, _, rfl, .ty "tuple", tyx (.lst hs2 ha2), kit_ty (kit_tup (.list ds)), rfl, _, rfl, ?_⟩
            refine ⟨_, rfl, _, _, _, _, _, rfl, .ty "list", tyx (.lst hs ha), kit_ty (kit_lst (.list ds)), _, rfl, _, _, _, _, _, rfl, .ty "list", tyx (.lst hs2 ha2), kit_ty (kit_lst (.list ds)), rfl, _, rfl, ?_⟩
            refine ⟨_, rfl, a2, xs, rfl, .inl hs2, _, rfl, a, ys, rfl, .inl hs, rfl, _, rfl, ?_⟩
            rw [l1, l2]
            have e : (!decide (V.int ((ds.length : Nat) : Int) = V.int ((ds.length : Nat) : Int))) = false := by rw [decide_eq_true rfl]; rfl
            rw [e]
            refine iteF ⟨_, rfl, a, ys, rfl, .inl hs, _, rfl, by omega, by omega, fun D hD => lc_range (lo := 0) (n := ((ys.length : Nat) : Int).toNat)
              (fun i H3 => Same H H3 ∧ H3 D = some (.lst ((List.replicate i true).map V.bl))) ⟨same_upd hD, upd_same⟩ ?_ ?_⟩
            · rintro i H3 hi ⟨s3, eD⟩
              have hi' : i < ds.length := by omega
              obtain ⟨y, hy⟩ : ∃ y, ys[i]? = some y := ⟨_, List.getElem?_eq_getElem (by omega)⟩
              obtain ⟨x, hx⟩ : ∃ x, xs[i]? = some x := ⟨_, List.getElem?_eq_getElem (by omega)⟩
              obtain ⟨d1, ed1, hd1⟩ := dpAll_get ha hy
              obtain ⟨d2, ed2, hd2⟩ := dpAll_get ha2 hx
              rw [ed1] at ed2
              cases ed2
              refine ⟨rfl, _, rfl, _, rfl, .inl ⟨a2, xs, _, x, rfl, rfl, s3.seq hs2, (by rw [Int.zero_add]; exact atI_nat hx), ?_⟩⟩
              refine ⟨_, rfl, _, rfl, .inl ⟨a, ys, _, y, rfl, rfl, s3.seq hs, (by rw [Int.zero_add]; exact atI_nat hy), ?_⟩⟩
              refine ⟨x, y, d1, rfl, dpSame s3 _ _ hd2, dpSame s3 _ _ hd1, hf.2 d1 (List.mem_of_getElem? ed1), fun H4 s4 => ⟨_, s4 _ _ eD, ?_, fun b o eb => ?_, ?_⟩⟩
              · rw [List.length_map, List.length_replicate]; exact Nat.lt_of_le_of_lt (by omega : i ≤ 1000000) (by decide)
              · rw [upd_ne (ne_of_none eb hD)]; exact s4 _ _ (s3 _ _ eb)
              · rw [upd_same, List.replicate_succ', List.map_append]; rfl
            · rintro H3 ⟨s3, eD⟩
              refine ⟨D, _, rfl, SqL.of eD, ?_⟩
              have e2 : (List.replicate ((ys.length : Nat) : Int).toNat true).all id = true := List.all_eq_true.mpr fun z hz => by rw [List.eq_of_mem_replicate hz]; rfl
              rw [e2]
              exact k _ s3
      | @tup a ys ds hs ha =>
        cases hx with
        | @tup a2 xs _ hs2 ha2 =>
          cases n with
          | zero => exact hf.elim
          | succ n =>
            have l1 := dpAll_len ha
            have l2 := dpAll_len ha2
            have hz : ds.length ≤ 1000000 := hf.1
            refine ⟨_, rfl, _, rfl, iteF ?_⟩
            refine ⟨_, rfl, _, _, _, _, _, rfl, .ty "bool", tyx (.tup hs ha), kit_ty (kit_bool (.tuple ds)), _, rfl, iteF ?_⟩
            refine ⟨_, rfl, _, _, _, _, _, rfl, .ty "int", tyx (.tup hs ha), kit_ty (kit_int (.tuple ds)), _, rfl, iteF ?_⟩
            refine ⟨_, rfl, _, _, _, _, _, rfl, .ty "str", tyx (.tup hs ha), kit_ty (kit_str (.tuple ds)), _, rfl, iteF ?_⟩
            refine ⟨_, rfl, _, _, _, _, _, rfl, .ty "tuple", tyx (.tup hs ha), kit_ty (kit_tup (.tuple ds)), _, rfl, _, _, _, _, _, rfl, .ty "tuple", tyx (.tup hs2 ha2), kit_ty (kit_tup (.tuple ds)), rfl, _, rfl, ?_⟩
            refine ⟨_, rfl, _, _, _, _, _, rfl, .ty "list", tyx (.tup hs ha), kit_ty (kit_lst (.tuple ds)), _, rfl, _, _, _, _, _, rfl, .ty "list", tyx (.tup hs2 ha2), kit_ty (kit_lst (.tuple ds)), rfl, _, rfl, ?_⟩
            refine ⟨_, rfl, a2, xs, rfl, .inr hs2, _, rfl, a, ys, rfl, .inr hs, rfl, _, rfl, ?_⟩
            rw [l1, l2]
            have e : (!decide (V.int ((ds.length : Nat) : Int) = V.int ((ds.length : Nat) : Int))) = false := by rw [decide_eq_true rfl]; rfl
            rw [e]
            refine iteF ⟨_, rfl, a, ys, rfl, .inr hs, _, rfl, by omega, by omega, fun D hD => lc_range (lo := 0) (n := ((ys.length : Nat) : Int).toNat)
              (fun i H3 => Same H H3 ∧ H3 D = some (.lst ((List.replicate i true).map V.bl))) ⟨same_upd hD, upd_same⟩ ?_ ?_⟩
            · rintro i H3 hi ⟨s3, eD⟩
              have hi' : i < ds.length := by omega
              obtain ⟨y, hy⟩ : ∃ y, ys[i]? = some y := ⟨_, List.getElem?_eq_getElem (by omega)⟩
              obtain ⟨x, hx⟩ : ∃ x, xs[i]? = some x := ⟨_, List.getElem?_eq_getElem (by omega)⟩
              obtain ⟨d1, ed1, hd1⟩ := dpAll_get ha hy
              obtain ⟨d2, ed2, hd2⟩ := dpAll_get ha2 hx
              rw [ed1] at ed2
              cases ed2
              refine ⟨rfl, _, rfl, _, rfl, .inr (.inl ⟨a2, xs, _, x, rfl, rfl, sSqT s3 hs2, (by rw [Int.zero_add]; exact atI_nat hx), ?_⟩)⟩
              refine ⟨_, rfl, _, rfl, .inr (.inl ⟨a, ys, _, y, rfl, rfl, sSqT s3 hs, (by rw [Int.zero_add]; exact atI_nat hy), ?_⟩)⟩
              refine ⟨x, y, d1, rfl, dpSame s3 _ _ hd2, dpSame s3 _ _ hd1, hf.2 d1 (List.mem_of_getElem? ed1), fun H4 s4 => ⟨_, s4 _ _ eD, ?_, fun b o eb => ?_, ?_⟩⟩
              · rw [List.length_map, List.length_replicate]; exact Nat.lt_of_le_of_lt (by omega : i ≤ 1000000) (by decide)
              · rw [upd_ne (ne_of_none eb hD)]; exact s4 _ _ (s3 _ _ eb)
              · rw [upd_same, List.replicate_succ', List.map_append]; rfl
            · rintro H3 ⟨s3, eD⟩
              refine ⟨D, _, rfl, SqL.of eD, ?_⟩
              have e2 : (List.replicate ((ys.length : Nat) : Int).toNat true).all id = true := List.all_eq_true.mpr fun z hz => by rw [List.eq_of_mem_replicate hz]; rfl
              rw [e2]
              exact k _ s3
end
end Dk

set_option Elab.async false
set_option linter.all false
set_option maxRecDepth 100000
set_option maxHeartbeats 2000000
namespace Dk
open PySem PySem.Spec PyProof.Rows L2 TL
theorem flatM_dI (n : Nat) {l : List PyData} (h : l.length ≤ 1000000) (hl : ∃ is : List Int, l = dI is) : FlatM (n + 1) (.list l) ∧ FlatM (n + 1) (.tuple l) := by
  obtain ⟨is, rfl⟩ := hl
  have : (dI is).length ≤ 1000000 ∧ ∀ d ∈ dI is, FlatM n d := by
    refine ⟨h, fun d hd => ?_⟩
    unfold dI at hd
    obtain ⟨i, _, rfl⟩ := List.mem_map.mp hd
    cases n <;> trivial
  exact ⟨this, this⟩
theorem flatM_dN (n : Nat) {l : List Nat} (h : l.length ≤ 1000000) : FlatM (n + 1) (.list (dN l)) := (flatM_dI n (by have := dN_len l; unfold dN at this; omega) ⟨_, rfl⟩).1
end Dk

set_option Elab.async false
set_option linter.all false
set_option maxRecDepth 100000
set_option maxHeartbeats 2000000
namespace Dk
open PySem PySem.Spec PyProof.Rows L2 TL
/-! ### first_error of any log -/
/-- an item of a log: a tuple of numbers, or no tuple -/
def ItemAt (K : PySem.W.Frag) (H : Hp) (x : V) : Option (List Int) → Prop
  | some ns => ∃ a, x = .ref a ∧ SqT K H a (ns.map V.int) ∧ ns.length ≤ 1000
  | none => ∃ d, Dp K H x d ∧ ∀ ds, d ≠ .tuple ds
theorem ItemAt.mono {K : PySem.W.Frag} {H H' : Hp} {x : V} {o : Option (List Int)} (h : ItemAt K H x o) (s : Same H H') : ItemAt K H' x o := by
  cases o with
  | some ns => obtain ⟨a, e, h1, h2⟩ := h; exact ⟨a, e, sSqT s h1, h2⟩
  | none => obtain ⟨d, h1, h2⟩ := h; exact ⟨d, dpSame s _ _ h1, h2⟩
def spGroup2 (K : PySem.W.Frag) : Sp := fun vs H Q _ => ∃ (x : V) (o : Option (List Int)), vs = [x] ∧ ItemAt K H x o ∧ ∀ H', Same H H' → Q (.bl o.isSome) H'
/-- the first wrong item, from the i-th on -/
def wrongAt (h : Hd) : Nat → List (Option (List Int)) → Option Nat
  | _, [] => none
  | i, o :: r => if o = some ((stt h (i + 1)).wait) then wrongAt h (i + 1) r else some i
def wrongV : Option Nat → V
  | none => .non
  | some i => .int (i : Int)
def spFirstE2 (K : PySem.W.Frag) (CH : Addr) : Sp := fun vs H Q _ => ∃ (hp : Addr) (v : V) (h : Hd), vs = [.ref hp, v] ∧ HoAt K CH H hp h ∧ Tabs h.ts ∧ h.ts.length ≤ 6 ∧
  ((∃ d, Dp K H v d ∧ (∀ ds, d ≠ .list ds) ∧ ∀ H', Same H H' → Q (.int 0) H') ∨
   (∃ (l : Addr) (xs : List V) (os : List (Option (List Int))), v = .ref l ∧ H l = some (.lst xs) ∧ xs.length ≤ 100000 ∧ Paired (fun x o => ItemAt K H x o) xs os ∧ ∀ H', Same H H' → Q (wrongV (wrongAt h 0 os)) H'))
theorem pair_at2 {α β : Type} {R : α → β → Prop} : ∀ {xs : List α} {ys : List β} {i : Nat} {x : α}, Paired R xs ys → xs[i]? = some x → ∃ y, ys[i]? = some y ∧ R x y
  | _ :: _, _ :: _, 0, x, .cons a _, h => ⟨_, rfl, by injection h with h; exact h ▸ a⟩
  | _ :: _, _ :: _, i + 1, x, .cons _ q, h => pair_at2 (i := i) q h
theorem dI_shapedT (l : List Int) : SeqAt.shaped (.tuple (dI l)) = true := by
  obtain ⟨h1, h2⟩ := dI_lay l
  unfold SeqAt.shaped
  rw [show PyData.canLay0 (.tuple (dI l)) = true from h1, decide_eq_true (show PyData.depth (.tuple (dI l)) ≤ 64 by show PyData.depthAll (dI l) + 1 ≤ 64; omega)]
  rfl
theorem dI_eqvT (a b : List Int) : PyData.eqv (.tuple (dI a)) (.tuple (dI b)) = decide (a = b) := by
  show PyData.eqvAll (dI a) (dI b) = _
  induction a generalizing b with
  | nil => cases b <;> rfl
  | cons x a ih =>
    cases b with
    | nil => rfl
    | cons y b =>
      show ((x == y) && PyData.eqvAll (dI a) (dI b)) = _
      rw [ih, Bool.eq_iff_iff]
      simp
section
variable {P : Program} {w : World} {K : PySem.W.Frag} {mg : Str → Option Value} {base : Heap} {CC CH fCi fAd fSn : Addr} {fdCi fdAd fdSn : FuncData} {fSo fFc : Addr} {fdSo fdFc : FuncData} {fHL : Addr} {fdHL : FuncData} {fII fIB fHO : Addr} {fdII fdIB fdHO : FuncData} {fFe fIg : Addr} {fdFe fdIg : FuncData}
theorem ok_group2 (FE : TxtFe K mg fFe fIg fdFe fdIg) (TF : TxtF K mg fII fIB fHO fdII fdIB fdHO) : FnOk P w K mg base CX0 2 fIg fdIg ["item"] (spGroup2 K) := by
  have GI : FnOk P w K mg base CX0 1 fII fdII ["value"] (spIsInt K) := ok_isint TF
  refine FE.FIg.ok scGroup (fun vs H Q E h => ?_) (fun cdv A outer s H vs Q E hr h => ?_)
  · obtain ⟨x, o, rfl, _⟩ := h
    rfl
  · obtain ⟨x, o, rfl, hx, k⟩ := h
    refine ⟨_, pss_one (ps_ret (pe_and (pe_callB call_isi (by rfl) TF.isinstance (by decide +kernel) (pa_cons (pv 0) (pa_cons (pe_bltn (v := .ty "tuple") (by rfl) TF.tuple (by decide +kernel) rfl) pa_nil)))
      (pe_one (pe_callB (cr_all rfl) (by rfl) TF.all (by decide +kernel) (pa_cons (pe_lc (own := [("person", 1)]) (g := gName 1) (by rfl) scGroup.nd (pi_tup (pv 0)) (blkOk_by (N := ["item", "person"]) (sc := defScope sIsGroup) (by decide +kernel)) (fun _ _ _ _ _ => pg_name (i := 1) scGroup.nd rfl (Or.inl rfl)) (fun _ _ _ _ _ => pts_nil)
        (fun _ _ _ _ _ => pe_call GI hr rfl TF.gII TF.FII.kp TF.bII .nil pass0 (pa_cons (pv 1) pa_nil))) pa_nil))))), ?_⟩
    cases o with
    | none =>
      obtain ⟨d, hd, hn⟩ := hx
      refine ⟨_, rfl, _, _, _, _, _, rfl, .ty "tuple", tyx hd, kit_ty (kit_tup _), _, rfl, ?_⟩
      cases d with
      | tuple ds => exact absurd rfl (hn ds)
      | _ => exact iteF (k H (Same.refl H))
    | some ns =>
      obtain ⟨a, rfl, ea, hn⟩ := hx
      have hd : Dp K H (.ref a) (.tuple (dI ns)) := .tup ea (dpAll_dI ns)
      refine ⟨_, rfl, _, _, _, _, _, rfl, .ty "tuple", tyx hd, kit_ty (kit_tup _), _, rfl, iteT ?_⟩
      refine ⟨_, rfl, a, rfl, ⟨_, ea⟩, fun D hD => comp_tup (i := 1) (xs := ns.map V.int) hD ea (by rw [List.length_map]; omega) (fun _ => true) (fun _ _ v => v = .bl true) (fun _ _ _ _ _ r => r) (te := tCall (spIsInt K) [] E0 (tCons (tVar 1) tNil)) (fun k x H5 Qb _ _ _ q => q _ (fun _ _ e => e)) (fun k x H5 Q5 hx _ s5 _ q => ?_) (fun _ => rfl) fun H5 ys s5 eD pr => ?_⟩
      · rw [List.getElem?_map] at hx
        obtain ⟨p, _, rfl⟩ := Option.map_eq_some_iff.mp hx
        exact ⟨_, rfl, _, .int p, rfl, .int p, q H5 _ (Same.refl H5) rfl⟩
      · have e : ys = (List.replicate ys.length true).map V.bl := by
          rw [List.map_replicate, List.eq_replicate_iff]
          exact ⟨rfl, fun y hy => (pair_all (R := fun _ v => v = V.bl true) pr (fun _ _ r => r)) y hy⟩
        rw [e] at eD
        refine ⟨D, _, rfl, SqL.of eD, ?_⟩
        rw [show (List.replicate ys.length true).all id = true by simp]
        exact k _ s5
theorem ok_firste2 (FE : TxtFe K mg fFe fIg fdFe fdIg) (TF : TxtF K mg fII fIB fHO fdII fdIB fdHO) (Z : TxtSc P w K mg base CC CH fCi fAd fSn fdCi fdAd fdSn) (C' : TxtCo K mg CC CH fHL fdHL) : FnOk P w K mg base CX0 6 fFe fdFe ["house", "log"] (spFirstE2 K CH) := by
  have GG : FnOk P w K mg base CX0 2 fIg fdIg ["item"] (spGroup2 K) := ok_group2 FE TF
  refine FE.FFe.ok scFirstE (fun vs H Q E h => ?_) (fun cdv A outer s H vs Q E hr h => ?_)
  · obtain ⟨hp, v, h, rfl, _⟩ := h
    rfl
  · obtain ⟨hp, v, h, rfl, hho, hT, h6, hv⟩ := h
    have hr4 : Room 4 (A.deeper (envOfC (Str.ofString "first_error") (defScope sFirstE) s.heap.objs.size fFe cdv)) := hr.mono (by decide)
    have hr2 : Room 2 (A.deeper (envOfC (Str.ofString "first_error") (defScope sFirstE) s.heap.objs.size fFe cdv)) := hr.mono (by decide)
    have hu64 : (A.deeper (envOfC (Str.ofString "first_error") (defScope sFirstE) s.heap.objs.size fFe cdv)).units + 64 < cLine := by have := hr.un; omega
    refine ⟨_, pss_cons (ps_if (pt_not (pt_val (pe_callB call_isi (by rfl) TF.isinstance (by decide +kernel) (pa_cons (pv 1) (pa_cons (pe_bltn (v := .ty "list") (by rfl) FE.list (by decide +kernel) rfl) pa_nil))))) (pss_one (ps_ret pe_int)) pss_nil)
      (pss_cons (ps_set (i := 2) scFirstE.nd rfl (.inl rfl) (pe_make Z.M Z.GI hr rfl Z.gC Z.bI .nil pass0 (pa_cons (pv 0) pa_nil)))
      (pss_cons (ps_for PassesOwn.never rfl (pi_enum (by rfl) FE.enumerate (pa_cons (pv 1) pa_nil)) (pg_tup rfl (pgs_cons (pg_name (i := 3) scFirstE.nd rfl (.inl rfl)) (pgs_cons (pg_name (i := 4) scFirstE.nd rfl (.inl rfl)) pgs_nil)))
        (pss_cons (ps_expr (pe_meth0 (pv 2) Z.cl Z.mAd Z.GA hr4 Z.bAd .nil pass0))
        (pss_one (ps_if (PW.pt (pw_or (pt_not (pt_val (pe_call GG hr2 rfl FE.gIg FE.FIg.kp FE.bIg .nil pass0 (pa_cons (pv 4) pa_nil)))) (pw_or1 (pt_cmpR (op_neD hu64) (pv 4) (pe_callTy call_tuple_of (by rfl) TF.tuple (by decide +kernel) (pa_cons (pe_fld (pv 2) rfl) pa_nil)) (nomark _))))) (pss_one (ps_ret (pv 3))) pss_nil))))
      (pss_one (ps_ret pe_non)))), ?_⟩
    rcases hv with ⟨d, hd, hnl, k⟩ | ⟨l, xs, os, rfl, el, hn, hx, k⟩
    · refine ⟨_, rfl, _, _, _, _, _, rfl, .ty "list", tyx hd, kit_ty (kit_lst d), _, rfl, ?_⟩
      cases d with
      | list ds => exact absurd rfl (hnl ds)
      | _ => exact iteT (k H (Same.refl H))
    refine ⟨_, rfl, _, _, _, _, _, rfl, .ty "list", .base (.lst el), kit_ty (by decide +kernel : kitB "list" "list" = some true), _, rfl, iteF ?_⟩
    refine ⟨_, rfl, fun p dx hpn hdx npd => ?_⟩
    have sN : Same H (upd (upd H dx (.own p)) p (.ins CC dx [])) := fun b o e => by
      rw [upd_ne (ne_of_none e hpn), upd_ne (ne_of_none e hdx)]; exact e
    have nhp : hp ≠ p := by
      obtain ⟨⟨d, _, _, _, _, e1, _⟩⟩ := hho
      exact ne_of_none e1 hpn
    refine ⟨p, dx, hp, h, rfl, upd_same, hho.mono sN, nhp, hT, h6, fun H2 k2 co2 hm2 => ⟨rfl, ?_⟩⟩
    have ho2 := (hho.mono sN).kp k2 upd_same nhp
    have s2 : Same H H2 := fun b o e => k2 b o (ne_of_none e hpn) (sN _ _ e)
    have co2' : CoAt CC H2 p hp ((per h.ts : Nat) : Int) (((0 : Nat) : Int) - 1) (stt h 0) := co2
    clear k2 co2 hm2
    have hhl : ∀ n, (stt h n).home.length ≤ 50 ∧ (stt h n).carr.length ≤ 50 ∧ (stt h n).wait.length ≤ 1000 := fun n => by
      have g := gd_stt h n
      have a1 := up_len g.hu g.hi
      have a2 := up_len g.cu g.ci
      have a3 := up_len g.wu g.wi
      omega
    refine ⟨_, rfl, l, xs, rfl, SqL.of (s2 _ _ el), for_it walk_enum (fun i σ H3 => ∃ v3 v4, σ = [some (.ref hp), some (.ref l), some (.ref p), v3, v4] ∧ CoAt CC H3 p hp ((per h.ts : Nat) : Int) ((i : Int) - 1) (stt h i) ∧ HoAt K CH H3 hp h ∧ Same H H3 ∧ wrongAt h 0 os = wrongAt h i (os.drop i))
      ⟨_, _, rfl, co2', ho2, s2, rfl⟩ (fun i σ H3 _ ⟨_, _, _, _, _, s3, _⟩ => SqL.of (s3 _ _ el)) ?_ ?_⟩
    · rintro i x σ H3 H4 hi ⟨v3, v4, rfl, co3, ho3, s3, hw⟩ ⟨T, x0, y0, rfl, hT', rfl, e0, e1⟩
      cases e0
      obtain ⟨o, eo, ha⟩ := pair_at2 hx e1
      have ed : os.drop i = o :: os.drop (i + 1) := List.drop_eq_getElem_cons (by exact (List.getElem?_eq_some_iff.mp eo).1) ▸ by
        have := (List.getElem?_eq_some_iff.mp eo).2
        rw [this]
      rw [ed] at hw
      have s34 := same_upd (o := .tup [.int ((i : Nat) : Int), y0]) hT'
      have eT : (upd H3 T (.tup [.int ((i : Nat) : Int), y0])) T = some (.tup [.int ((i : Nat) : Int), y0]) := upd_same
      have co4 := co3.mono s34
      have ho4 := ho3.mono s34
      have s4 := s3.trans s34
      generalize upd H3 T (.tup [.int ((i : Nat) : Int), y0]) = H4 at eT co4 ho4 s4
      refine ⟨T, _, rfl, SqT.of eT, rfl, _, _, rfl, _, _, rfl, rfl, ?_⟩
      obtain ⟨d3, c1, c2, c3, w1, w2, w3, w4⟩ := id co4
      have g := gd_stt h i
      refine ⟨_, rfl, p, d3, _, rfl, w1, by rfl, p, hp, (i : Int) - 1, stt h i, h, rfl, co4, ho4, nhp, hT, h6, g.hi, (hhl i).1, (hhl i).2.1, fun H5 e5 k5 co5 _ _ => ?_⟩
      have ei : (i : Int) - 1 + 1 = (i : Int) := by omega
      rw [ei] at co5
      have co5 : CoAt CC H5 p hp ((per h.ts : Nat) : Int) (i : Int) (stt h (i + 1)) := co5
      have ho5 := ho4.kp k5 w1 nhp
      have s5 : Same H H5 := fun b o e => k5 _ _ (ne_of_none e hpn) (s4 _ _ e)
      clear co3 co4 ho3 ho4 s3 s34 s4 k5 w1 w2 w3 w4
      refine ⟨_, rfl, y0, o, rfl, ha.mono s5, fun H6 s6 => ⟨_, rfl, ?_⟩⟩
      have s06 := s5.trans s6
      cases o with
      | none =>
        refine iteT ⟨_, rfl, ?_⟩
        have := k H6 s06
        rw [hw] at this
        exact this
      | some ns =>
        obtain ⟨a, rfl, ea, hnl⟩ := ha
        refine iteF ?_
        have co6 := co5.mono s6
        obtain ⟨d6, aH, aW, aC, q1, q2, q3, q4⟩ := id co6
        refine ⟨_, rfl, _, rfl, p, CC, d6, _, .ref aW, rfl, q1, C'.cl, C'.nWt, by rfl, aW, _, rfl, .inl ⟨SqL.of q3, fun u hu => ?_⟩⟩
        have s7 := same_upd (o := .tup ((stt h (i + 1)).wait.map V.int)) hu
        have s07 := s06.trans s7
        refine ⟨.tuple (dI ns), .tuple (dI (stt h (i + 1)).wait), .tup (sSqT s07 ea) (dpAll_dI ns), .tup (SqT.of upd_same) (dpAll_dI _), dI_shapedT ns, dI_shapedT _, _, rfl, ?_⟩
        rw [dI_eqvT]
        by_cases ce : ns = (stt h (i + 1)).wait
        · rw [decide_eq_true ce]
          have e2 : ((i + 1 : Nat) : Int) - 1 = (i : Int) := by omega
          refine iteF ⟨_, _, rfl, ?_, (ho5.mono s6).mono s7, s07, ?_⟩
          · rw [e2]; exact co6.mono s7
          · rw [hw]; show (if some ns = some ((stt h (i + 1)).wait) then _ else _) = _; rw [if_pos (by rw [ce])]
        · rw [decide_eq_false ce]
          refine iteT ⟨_, rfl, ?_⟩
          have := k _ s07
          rw [hw] at this
          rw [show wrongAt h i (some ns :: os.drop (i + 1)) = some i by show (if some ns = some ((stt h (i + 1)).wait) then _ else _) = _; rw [if_neg (fun z => ce (Option.some.inj z))]] at this
          exact this
    · rintro σ H3 ⟨v3, v4, rfl, co3, ho3, s3, hw⟩
      have := k _ s3
      rw [hw, Paired.length hx, List.drop_length] at this
      exact this
end
end Dk

set_option Elab.async false
set_option linter.all false
set_option maxRecDepth 100000
set_option maxHeartbeats 4000000
namespace Dk
open PySem PySem.Spec PyProof.Rows L2 TL
/-! ### comparing two houses -/
def rLcmB : List V → Hp → VK → Prop := fun vs H Q => ∃ a b : Nat, vs = [.int (a : Int), .int (b : Int)] ∧ a ≤ 1000000 ∧ b ≤ 1000000 ∧ Q (.int ((Nat.lcm a b : Nat) : Int)) H
theorem lcm_le {a b : Nat} (ha : a ≤ 1000000) (hb : b ≤ 1000000) : Nat.lcm a b ≤ 1000000000000 := by
  have h1 : Nat.lcm a b ≤ a * b := Nat.div_le_self _ _
  have h2 : a * b ≤ 1000000 * 1000000 := Nat.mul_le_mul ha hb
  omega
theorem cr_lcmB {X : Cx} : CallR X (.builtin "math.lcm") rLcmB := by
  intro pins s σ H vs us Q I r h
  obtain ⟨a, b, rfl, ha, hb, q⟩ := h
  obtain ⟨t, u, rfl⟩ := Vals.int2 r
  have e : (Nat.lcm 1 (a : Int).natAbs).lcm (b : Int).natAbs = Nat.lcm a b := by
    rw [Nat.lcm_one_left]; rfl
  have hle := lcm_le ha hb
  refine PySem.W.mg_lcm_v (c := ((Nat.lcm a b : Nat) : Int)) (by simp; omega) (by simp; omega) (by rw [e]) ?_ ⟨.int _, H, I.tok _, ⟨_, rfl⟩, q⟩
  rw [bitsLine_eq]
  have h4 : ((Nat.lcm a b : Nat) : Int).natAbs = Nat.lcm a b := rfl
  rw [h4]
  by_cases z : Nat.lcm a b = 0
  · rw [z]; decide
  · have := (Nat.log2_lt z (k := 41)).mpr (by omega)
    omega
/-! numbers -/
theorem agree_lcm {α : Type} {f g : Nat → α} {B p q : Nat} (hp : 0 < p) (hq : 0 < q) (pf : ∀ t, B ≤ t → f (t + p) = f t) (pg : ∀ t, B ≤ t → g (t + q) = g t) {M : Nat} (hm : Nat.lcm p q ≤ M) (h : ∀ t, t < B + M → f t = g t) : ∀ t, f t = g t := by
  have many : ∀ {k : Nat → α} {p : Nat}, (∀ t, B ≤ t → k (t + p) = k t) → ∀ n t, B ≤ t → k (t + n * p) = k t := by
    intro k p pk n
    induction n with
    | zero => intro t _; rw [Nat.zero_mul, Nat.add_zero]
    | succ n ih => intro t ht; rw [Nat.succ_mul, ← Nat.add_assoc, pk _ (by omega), ih t ht]
  have hl : 0 < Nat.lcm p q := Nat.lcm_pos hp hq
  obtain ⟨a, ea⟩ := Nat.dvd_lcm_left p q
  obtain ⟨b, eb⟩ := Nat.dvd_lcm_right p q
  intro t
  induction t using Nat.strongRecOn with
  | ind t ih =>
    by_cases c : t < B + M
    · exact h t c
    · have e1 : f (t - Nat.lcm p q + Nat.lcm p q) = f (t - Nat.lcm p q) := by
        have := many pf a (t - Nat.lcm p q) (by omega)
        rw [show a * p = Nat.lcm p q by rw [Nat.mul_comm]; exact ea.symm] at this
        exact this
      have e2 : g (t - Nat.lcm p q + Nat.lcm p q) = g (t - Nat.lcm p q) := by
        have := many pg b (t - Nat.lcm p q) (by omega)
        rw [show b * q = Nat.lcm p q by rw [Nat.mul_comm]; exact eb.symm] at this
        exact this
      rw [show t - Nat.lcm p q + Nat.lcm p q = t by omega] at e1 e2
      rw [e1, e2]
      exact ih _ (by omega)
theorem ints_dp2 {K : PySem.W.Frag} {H : Hp} {a : Addr} {l : List Int} (h : H a = some (.lst (l.map V.int))) : Dp K H (.ref a) (.list (dI l)) := .lst (SqL.of h) (dpAll_dI l)
theorem dI_shaped2 (l : List Int) : SeqAt.shaped (.list (dI l)) = true := by
  obtain ⟨h1, h2⟩ := dI_lay l
  unfold SeqAt.shaped
  rw [show PyData.canLay0 (.list (dI l)) = true from h1, decide_eq_true (show PyData.depth (.list (dI l)) ≤ 64 by show PyData.depthAll (dI l) + 1 ≤ 64; omega)]
  rfl
theorem dI_eqv (a b : List Int) : PyData.eqv (.list (dI a)) (.list (dI b)) = decide (a = b) := by
  show PyData.eqvAll (dI a) (dI b) = _
  induction a generalizing b with
  | nil => cases b <;> rfl
  | cons x a ih =>
    cases b with
    | nil => rfl
    | cons y b =>
      show ((x == y) && PyData.eqvAll (dI a) (dI b)) = _
      rw [ih, Bool.eq_iff_iff]
      simp
/-- two courses at once -/
theorem CoAt.kp {CC dx hq : Addr} {H H' : Hp} {p q : Addr} {fs : List (Str × V)} {sp t : Int} {c : Cs} (x : CoAt CC H q hq sp t c) (k : Kp p H H') (e : H p = some (.ins CC dx fs)) (n : q ≠ p) : CoAt CC H' q hq sp t c := by
  obtain ⟨d2, aH, aW, aC, e1, e2, e3, e4⟩ := x
  have ne : ∀ {a : Addr} {xs : List V}, H a = some (.lst xs) → a ≠ p := fun z w => by rw [w, e] at z; cases z
  exact ⟨d2, aH, aW, aC, k _ _ n e1, k _ _ (ne e2) e2, k _ _ (ne e3) e3, k _ _ (ne e4) e4⟩
def spPair (K : PySem.W.Frag) (CH : Addr) : Sp := fun vs H Q _ => ∃ (hp gp : Addr) (h g : Hd), vs = [.ref hp, .ref gp] ∧ HoAt K CH H hp h ∧ HoAt K CH H gp g ∧ ∀ H', Same H H' → Q (.bl (decide (h.ts.length = g.ts.length))) H'
def spCntT (K : PySem.W.Frag) (CH : Addr) : Sp := fun vs H Q _ => ∃ (hp gp : Addr) (h g : Hd), vs = [.ref hp, .ref gp] ∧ HoAt K CH H hp h ∧ HoAt K CH H gp g ∧ Tabs h.ts ∧ h.ts.length ≤ 6 ∧ Tabs g.ts ∧ g.ts.length ≤ 6 ∧
  ∀ (H' : Hp) (b n b' n' : Nat), Same H H' → IsCyc h b n → IsCyc g b' n' → Q (.int ((max b b' + Nat.lcm (n - b) (n' - b') : Nat) : Int)) H'
def spFirstD (K : PySem.W.Frag) (CH CD : Addr) : Sp := fun vs H Q E => ∃ (hp gp : Addr) (h g : Hd), vs = [.ref hp, .ref gp] ∧ HoAt K CH H hp h ∧ HoAt K CH H gp g ∧ Tabs h.ts ∧ h.ts.length ≤ 6 ∧ Tabs g.ts ∧ g.ts.length ≤ 6 ∧
  (h.ts.length ≠ g.ts.length → ∀ H', Same H H' → E (.ref CD) none H') ∧
  (h.ts.length = g.ts.length → (∀ (H' : Hp) (a u1 u2 : Addr) (t : Nat), Same H H' → (∀ j, j < t → waitAt h j = waitAt g j) → waitAt h t ≠ waitAt g t → H' a = some (.tup [.int (t : Int), .ref u1, .ref u2]) → H' u1 = some (.tup ((waitAt h t).map V.int)) → H' u2 = some (.tup ((waitAt g t).map V.int)) → Q (.ref a) H') ∧
    ∀ H', Same H H' → (∀ t, waitAt h t = waitAt g t) → Q .non H')
structure TxtFd (K : PySem.W.Frag) (mg : Str → Option Value) (CH CD fFd fIp fCt : Addr) (fdFd fdIp fdCt : FuncData) : Prop where
  FFd : Fun K "first_difference" "first_difference" sFirstD fFd fdFd
  gIp : mg "is_pair" = some (.ref fIp)
  FIp : Fun K "is_pair" "is_pair" sIsPair fIp fdIp
  bIp : Binds K fdIp ["house", "other"] []
  gCt : mg "count_ticks" = some (.ref fCt)
  FCt : Fun K "count_ticks" "count_ticks" sCntT fCt fdCt
  bCt : Binds K fdCt ["house", "other"] []
  gH : mg "House" = some (.ref CH)
  max : mg "max" = none
  isH : C8.InsC K CH
  gD : mg "DifferentHouses" = some (.ref CD)
  xD : PySem.W.excIn K CD [Value.type "ValueError", Value.type "Exception", Value.type "BaseException", Value.type "object"] "ValueError.__new__" = true
  kD : PySem.W.keepIn K (.ref CD) = true
  bD : PySem.W.subIn K (.ref CD) (.type "BaseException") = some true
  tD : PySem.W.typeIn K (.ref CD) = some (.type "type")
abbrev nCntT : List Str := ["house", "other", "begin", "length", "other_begin", "other_length"]
abbrev nFirstD : List Str := ["house", "other", "course", "second", "tick"]
section
variable {P : Program} {w : World} {K : PySem.W.Frag} {mg : Str → Option Value} {base : Heap} {CC CH fCi fAd fSn : Addr} {fdCi fdAd fdSn : FuncData} {fSo fFc : Addr} {fdSo fdFc : FuncData} {fHL : Addr} {fdHL : FuncData} {fCP pPe gPe pPs gPs : Addr} {fdCP fdPe fdPs : FuncData} {CD fFd fIp fCt : Addr} {fdFd fdIp fdCt : FuncData}
theorem scCntT : FnScope nCntT ["house", "other"] (defScope sCntT) := ⟨rfl, rfl, rfl, by decide +kernel, rfl, by decide +kernel, by decide +kernel⟩
theorem scFirstD : FnScope nFirstD ["house", "other"] (defScope sFirstD) := ⟨rfl, rfl, rfl, by decide +kernel, rfl, by decide +kernel, by decide +kernel⟩
theorem ok_pair (FD : TxtFd K mg CH CD fFd fIp fCt fdFd fdIp fdCt) (TF : mg "isinstance" = none) (T : TxtA mg) (HP : TxtHp K mg CH fCP pPe gPe pPs gPs fdCP fdPe fdPs) (C' : TxtCo K mg CC CH fHL fdHL) : FnOk P w K mg base CX0 3 fIp fdIp ["house", "other"] (spPair K CH) := by
  have GPs : FnOk P w K mg base CX0 1 gPs fdPs ["self"] (spPersons K CH) := ok_persons HP C' T
  refine FD.FIp.ok (N := ["house", "other"]) ⟨rfl, rfl, rfl, by decide +kernel, rfl, by decide +kernel, by decide +kernel⟩ (fun vs H Q E h => ?_) (fun cdv A outer s H vs Q E hr h => ?_)
  · obtain ⟨hp, gp, h, g, rfl, _⟩ := h
    rfl
  · obtain ⟨hp, gp, h, g, rfl, ho, go, k⟩ := h
    have hr2 : Room 2 (A.deeper (envOfC (Str.ofString "is_pair") (defScope sIsPair) s.heap.objs.size fIp cdv)) := hr.mono (by decide)
    refine ⟨_, pss_one (ps_ret (pe_and (pe_callB (C8.call_isC FD.isH) (by rfl) TF (by decide +kernel) (pa_cons (pv 0) (pa_cons (pe_glob (v := .ref CH) (by rfl) FD.gH rfl) pa_nil))) (pe_and (pe_callB (C8.call_isC FD.isH) (by rfl) TF (by decide +kernel) (pa_cons (pv 1) (pa_cons (pe_glob (v := .ref CH) (by rfl) FD.gH rfl) pa_nil)))
      (pe_one (pe_cmpR op_eq (pe_prop (pv 0) C'.clH HP.poPs GPs hr2 HP.bPs .nil pass0 rfl) (pe_prop (pv 1) C'.clH HP.poPs GPs hr2 HP.bPs .nil pass0 rfl) (nomark _)))))), ?_⟩
    obtain ⟨⟨d, bT, bC, bR, xs, g1, g2, g3, g4, g5⟩⟩ := id ho
    obtain ⟨⟨d', bT', bC', bR', xs', g1', g2', g3', g4', g5'⟩⟩ := id go
    refine ⟨_, rfl, hp, d, _, rfl, g1, _, rfl, iteT ⟨_, rfl, gp, d', _, rfl, g1', _, rfl, iteT ⟨_, rfl, hp, d, _, rfl, g1, hp, h, rfl, ho, fun H1 s1 => ⟨_, rfl, gp, d', _, rfl, s1 _ _ g1', gp, g, rfl, go.mono s1, fun H2 s2 => ⟨rfl, ?_⟩⟩⟩⟩⟩
    have e : decide (V.int ((h.ts.length : Nat) : Int) = V.int ((g.ts.length : Nat) : Int)) = decide (h.ts.length = g.ts.length) := by
      rw [Bool.eq_iff_iff, decide_eq_true_iff, decide_eq_true_iff]
      constructor
      · intro z; injection z with z; omega
      · intro z; rw [z]
    rw [e]
    exact k H2 (s1.trans s2)
theorem ok_cntt (FD : TxtFd K mg CH CD fFd fIp fCt fdFd fdIp fdCt) (T : TxtA mg) (TC : TxtC mg) (Z : TxtSc P w K mg base CC CH fCi fAd fSn fdCi fdAd fdSn) (FC : TxtFc K mg fSo fFc fdSo fdFc) : FnOk P w K mg base CX0 11 fCt fdCt ["house", "other"] (spCntT K CH) := by
  have GF : FnOk P w K mg base CX0 10 fFc fdFc ["house"] (spFind K CH) := ok_find Z FC T
  refine FD.FCt.ok scCntT (fun vs H Q E h => ?_) (fun cdv A outer s H vs Q E hr h => ?_)
  · obtain ⟨hp, gp, h, g, rfl, _⟩ := h
    rfl
  · obtain ⟨hp, gp, h, g, rfl, ho, go, hT, h6, gT, g6, k⟩ := h
    refine ⟨_, pss_cons (ps_asg (pe_call GF hr rfl FC.gFc FC.FFc.kp FC.bFc .nil pass0 (pa_cons (pv 0) pa_nil)) (pg_tup rfl (pgs_cons (pg_name (i := 2) scCntT.nd rfl (.inl rfl)) (pgs_cons (pg_name (i := 3) scCntT.nd rfl (.inl rfl)) pgs_nil))))
      (pss_cons (ps_asg (pe_call GF hr rfl FC.gFc FC.FFc.kp FC.bFc .nil pass0 (pa_cons (pv 1) pa_nil)) (pg_tup rfl (pgs_cons (pg_name (i := 4) scCntT.nd rfl (.inl rfl)) (pgs_cons (pg_name (i := 5) scCntT.nd rfl (.inl rfl)) pgs_nil))))
      (pss_one (ps_ret (pe_op op_add (pe_callB (call_max2 rfl) (by rfl) FD.max (by decide +kernel) (pa_cons (pv 2) (pa_cons (pv 4) pa_nil))) (pe_callBfun cr_lcmB (by rfl) TC.lcm (pa_cons (pv 3) (pa_cons (pv 5) pa_nil))))))), ?_⟩
    refine ⟨_, rfl, hp, h, rfl, ho, hT, h6, fun H1 a b n s1 cy ea => ⟨a, _, rfl, SqT.of ea, rfl, _, _, rfl, _, _, rfl, rfl, ?_⟩⟩
    refine ⟨_, rfl, gp, g, rfl, go.mono s1, gT, g6, fun H2 a' b' n' s2 cy' ea' => ⟨a', _, rfl, SqT.of ea', rfl, _, _, rfl, _, _, rfl, rfl, ?_⟩⟩
    have le := cy.le
    have le' := cy'.le
    have lt := cy.lt
    have lt' := cy'.lt
    refine ⟨_, rfl, _, rfl, _, _, rfl, _, rfl, _, rfl, n - b, n' - b', ?_, by omega, by omega, _, _, rfl, rfl, ?_⟩
    · show [V.int ((n : Int) - (b : Int)), V.int ((n' : Int) - (b' : Int))] = _
      rw [show (n : Int) - (b : Int) = ((n - b : Nat) : Int) by omega, show (n' : Int) - (b' : Int) = ((n' - b' : Nat) : Int) by omega]
    have em : (if (b' : Int) > (b : Int) then (b' : Int) else (b : Int)) + ((Nat.lcm (n - b) (n' - b') : Nat) : Int) = ((max b b' + Nat.lcm (n - b) (n' - b') : Nat) : Int) := by split <;> omega
    have := k H2 b n b' n' (s1.trans s2) cy cy'
    rw [← em] at this
    exact this
theorem ok_firstd (FD : TxtFd K mg CH CD fFd fIp fCt fdFd fdIp fdCt) (TF : mg "isinstance" = none) (tup : mg "tuple" = none) (T : TxtA mg) (TC : TxtC mg) (HP : TxtHp K mg CH fCP pPe gPe pPs gPs fdCP fdPe fdPs) (C' : TxtCo K mg CC CH fHL fdHL) (Z : TxtSc P w K mg base CC CH fCi fAd fSn fdCi fdAd fdSn) (FC : TxtFc K mg fSo fFc fdSo fdFc) : FnOk P w K mg base (L2.CX P w) 12 fFd fdFd ["house", "other"] (spFirstD K CH CD) := by
  have GP : FnOk P w K mg base CX0 3 fIp fdIp ["house", "other"] (spPair K CH) := ok_pair FD TF T HP C'
  have GC : FnOk P w K mg base CX0 11 fCt fdCt ["house", "other"] (spCntT K CH) := ok_cntt FD T TC Z FC
  refine FD.FFd.okX scFirstD (fun vs H Q E h => ?_) (fun cdv A outer s H vs Q E hr h => ?_)
  · obtain ⟨hp, gp, h, g, rfl, _⟩ := h
    rfl
  · obtain ⟨hp, gp, h, g, rfl, ho, go, hT, h6, gT, g6, kE, kQ⟩ := h
    have hr3 : Room 3 (A.deeper (envOfC (Str.ofString "first_difference") (defScope sFirstD) s.heap.objs.size fFd cdv)) := hr.mono (by decide)
    have hr4 : Room 4 (A.deeper (envOfC (Str.ofString "first_difference") (defScope sFirstD) s.heap.objs.size fFd cdv)) := hr.mono (by decide)
    have hr5 : Room 5 (A.deeper (envOfC (Str.ofString "first_difference") (defScope sFirstD) s.heap.objs.size fFd cdv)) := hr.mono (by decide)
    have hu64 : (A.deeper (envOfC (Str.ofString "first_difference") (defScope sFirstD) s.heap.objs.size fFd cdv)).units + 64 < cLine := by have := hr.un; omega
    refine ⟨_, pss_cons (ps_if (pt_not (pt_val (pe_call GP hr3 rfl FD.gIp FD.FIp.kp FD.bIp .nil pass0 (pa_cons (pv 0) (pa_cons (pv 1) pa_nil)))))
        (pss_one (ps_raise rfl (takes_of rfl rfl rfl rfl) (pmk_own PySem.F.excBase_ValueError FD.xD FD.gD FD.kD (raises_own FD.bD FD.tD) (by exact rfl)))) pss_nil)
      (PSs.nox (pss_cons (ps_set (i := 2) scFirstD.nd rfl (.inl rfl) (pe_make Z.M Z.GI hr5 rfl Z.gC Z.bI .nil pass0 (pa_cons (pv 0) pa_nil)))
      (pss_cons (ps_set (i := 3) scFirstD.nd rfl (.inl rfl) (pe_make Z.M Z.GI hr5 rfl Z.gC Z.bI .nil pass0 (pa_cons (pv 1) pa_nil)))
      (pss_cons (ps_for PassesOwn.never rfl (pi_range1 (by rfl) T.range (pa_cons (pe_call GC hr rfl FD.gCt FD.FCt.kp FD.bCt .nil pass0 (pa_cons (pv 0) (pa_cons (pv 1) pa_nil))) pa_nil)) (pg_name (i := 4) scFirstD.nd rfl (.inl rfl))
        (pss_cons (ps_expr (pe_meth0 (pv 2) Z.cl Z.mAd Z.GA hr4 Z.bAd .nil pass0))
        (pss_cons (ps_expr (pe_meth0 (pv 3) Z.cl Z.mAd Z.GA hr4 Z.bAd .nil pass0))
        (pss_one (ps_if (pt_cmpR (op_neD hu64) (pe_fld (pv 2) rfl) (pe_fld (pv 3) rfl) (nomark _)) (pss_one (ps_ret (pe_tup (pa_cons (pv 4) (pa_cons (pe_callTy call_tuple_of (by rfl) tup (by decide +kernel) (pa_cons (pe_fld (pv 2) rfl) pa_nil)) (pa_cons (pe_callTy call_tuple_of (by rfl) tup (by decide +kernel) (pa_cons (pe_fld (pv 3) rfl) pa_nil)) pa_nil)))))) pss_nil)))))
      (pss_one (ps_ret pe_non)))))), ?_⟩
    refine ⟨_, rfl, _, rfl, hp, gp, h, g, rfl, ho, go, fun H0 s0 => ⟨_, rfl, ?_⟩⟩
    by_cases hne : h.ts.length = g.ts.length
    · rw [decide_eq_true hne]
      obtain ⟨kD, kN⟩ := kQ hne
      refine iteF ?_
      have hhl : ∀ (h : Hd) n, h.ts.length ≤ 6 → (stt h n).home.length ≤ 50 ∧ (stt h n).carr.length ≤ 50 := fun h n h6 => by
        have g := gd_stt h n
        have a1 := up_len g.hu g.hi
        have a2 := up_len g.cu g.ci
        omega
      have wlen : ∀ (h : Hd) n, h.ts.length ≤ 6 → (waitAt h n).length ≤ 6 := fun h n h6 => by
        have g := gd_stt h (n + 1)
        have := up_len g.wu g.wi
        unfold waitAt; omega
      -- the first course
      refine ⟨_, rfl, fun p dx hpn hdx npd => ?_⟩
      have sN : Same H0 (upd (upd H0 dx (.own p)) p (.ins CC dx [])) := fun b o e => by
        rw [upd_ne (ne_of_none e hpn), upd_ne (ne_of_none e hdx)]; exact e
      have ho0 := ho.mono s0
      have go0 := go.mono s0
      have nhp : hp ≠ p := by
        obtain ⟨⟨d, _, _, _, _, e1, _⟩⟩ := id ho0
        exact ne_of_none e1 hpn
      have ngp : gp ≠ p := by
        obtain ⟨⟨d, _, _, _, _, e1, _⟩⟩ := id go0
        exact ne_of_none e1 hpn
      refine ⟨p, dx, hp, h, rfl, upd_same, ho0.mono sN, nhp, hT, h6, fun H1 k1 co1 _ => ⟨rfl, ?_⟩⟩
      have ho1 := (ho0.mono sN).kp k1 upd_same nhp
      have go1 := (go0.mono sN).kp k1 upd_same ngp
      have s1 : Same H0 H1 := fun b o e => k1 b o (ne_of_none e hpn) (sN _ _ e)
      have co1 : CoAt CC H1 p hp ((per h.ts : Nat) : Int) (((0 : Nat) : Int) - 1) (stt h 0) := co1
      clear k1 sN
      -- the second
      refine ⟨_, rfl, fun q dy hqn hdy nqd => ?_⟩
      have sM : Same H1 (upd (upd H1 dy (.own q)) q (.ins CC dy [])) := fun b o e => by
        rw [upd_ne (ne_of_none e hqn), upd_ne (ne_of_none e hdy)]; exact e
      have nhq : hp ≠ q := by
        obtain ⟨⟨d, _, _, _, _, e1, _⟩⟩ := id ho1
        exact ne_of_none e1 hqn
      have ngq : gp ≠ q := by
        obtain ⟨⟨d, _, _, _, _, e1, _⟩⟩ := id go1
        exact ne_of_none e1 hqn
      have npq : p ≠ q := by
        obtain ⟨d, _, _, _, e1, _⟩ := id co1
        exact ne_of_none e1 hqn
      refine ⟨q, dy, gp, g, rfl, upd_same, go1.mono sM, ngq, gT, g6, fun H2 k2 co2 _ => ⟨rfl, ?_⟩⟩
      have ho2 := (ho1.mono sM).kp k2 upd_same nhq
      have go2 := (go1.mono sM).kp k2 upd_same ngq
      have co12 := (co1.mono sM).kp k2 upd_same npq
      have s2 : Same H1 H2 := fun b o e => k2 b o (ne_of_none e hqn) (sM _ _ e)
      have co2 : CoAt CC H2 q gp ((per g.ts : Nat) : Int) (((0 : Nat) : Int) - 1) (stt g 0) := co2
      clear k2 sM co1
      have s02 := s0.trans (s1.trans s2)
      have sQ := s1
      clear s1 s2 ho1 go1 ho0 go0
      refine ⟨_, rfl, _, rfl, hp, gp, h, g, rfl, ho2, go2, hT, h6, gT, g6, fun H3 b n b' n' s3 cy cy' => ?_⟩
      have le := cy.le
      have le' := cy'.le
      have lt := cy.lt
      have lt' := cy'.lt
      have hlcm := lcm_le (a := n - b) (b := n' - b') (by omega) (by omega)
      refine ⟨_, rfl, by omega, by omega, for_range (lo := 0) (n := (((max b b' + Nat.lcm (n - b) (n' - b') : Nat) : Int)).toNat)
        (fun i σ H' => ∃ v4, σ = [some (.ref hp), some (.ref gp), some (.ref p), some (.ref q), v4] ∧ (∀ a o, a ≠ p → a ≠ q → H3 a = some o → H' a = some o) ∧ CoAt CC H' p hp ((per h.ts : Nat) : Int) ((i : Int) - 1) (stt h i) ∧ CoAt CC H' q gp ((per g.ts : Nat) : Int) ((i : Int) - 1) (stt g i) ∧ HoAt K CH H' hp h ∧ HoAt K CH H' gp g ∧ ∀ j, j < i → waitAt h j = waitAt g j)
        ⟨_, rfl, fun _ _ _ _ e => e, co12.mono s3, co2.mono s3, ho2.mono s3, go2.mono s3, fun j hj => absurd hj (Nat.not_lt_zero _)⟩ ?_ ?_⟩
      · rintro i σ H4 hi ⟨v4, rfl, k4, c1, c2, ho4, go4, hal⟩
        rw [Int.zero_add]
        obtain ⟨d1, aH, aW, aC, w1, w2, w3, w4⟩ := id c1
        have g1 := gd_stt h i
        refine ⟨_, rfl, p, d1, _, rfl, w1, by rfl, p, hp, (i : Int) - 1, stt h i, h, rfl, c1, ho4, nhp, hT, h6, g1.hi, (hhl h i h6).1, (hhl h i h6).2, fun H5 e5 k5 c15 _ _ => ?_⟩
        have ei : (i : Int) - 1 + 1 = (i : Int) := by omega
        rw [ei] at c15
        have c15 : CoAt CC H5 p hp ((per h.ts : Nat) : Int) (i : Int) (stt h (i + 1)) := c15
        have ho5 := ho4.kp k5 w1 nhp
        have go5 := go4.kp k5 w1 ngp
        have c25 := c2.kp k5 w1 npq.symm
        obtain ⟨d2, bH, bW, bC, x1, x2, x3, x4⟩ := id c25
        have g2 := gd_stt g i
        refine ⟨_, rfl, q, d2, _, rfl, x1, by rfl, q, gp, (i : Int) - 1, stt g i, g, rfl, c25, go5, ngq, gT, g6, g2.hi, (hhl g i g6).1, (hhl g i g6).2, fun H6 e6 k6 c26 _ _ => ?_⟩
        rw [ei] at c26
        have c26 : CoAt CC H6 q gp ((per g.ts : Nat) : Int) (i : Int) (stt g (i + 1)) := c26
        have ho6 := ho5.kp k6 x1 nhq
        have go6 := go5.kp k6 x1 ngq
        have c16 := c15.kp k6 x1 npq
        have k46 : ∀ a o, a ≠ p → a ≠ q → H3 a = some o → H6 a = some o := fun a o n1 n2 e => k6 _ _ n2 (k5 _ _ n1 (k4 _ _ n1 n2 e))
        clear k4 k5 k6 w1 w2 w3 w4 x1 x2 x3 x4 c1 c2 c15 c25 ho4 go4 ho5 go5
        obtain ⟨d1, aH, aW, aC, w1, w2, w3, w4⟩ := id c16
        obtain ⟨d2, bH, bW, bC, x1, x2, x3, x4⟩ := id c26
        refine ⟨_, rfl, p, CC, d1, _, .ref aW, rfl, w1, C'.cl, C'.nWt, by rfl, _, rfl, q, CC, d2, _, .ref bW, rfl, x1, C'.cl, C'.nWt, by rfl, ?_⟩
        refine ⟨.list (dI (waitAt h i)), .list (dI (waitAt g i)), ints_dp2 w3, ints_dp2 x3, dI_shaped2 _, dI_shaped2 _, _, rfl, ?_⟩
        rw [dI_eqv]
        by_cases ce : waitAt h i = waitAt g i
        · rw [decide_eq_true ce]
          refine iteF ⟨_, rfl, k46, ?_, ?_, ho6, go6, fun j hj => ?_⟩
          · rw [show ((i + 1 : Nat) : Int) - 1 = (i : Int) by omega]; exact c16
          · rw [show ((i + 1 : Nat) : Int) - 1 = (i : Int) by omega]; exact c26
          · by_cases z : j = i
            · rw [z]; exact ce
            · exact hal j (by omega)
        · rw [decide_eq_false ce]
          refine iteT ⟨_, rfl, _, rfl, p, CC, d1, _, .ref aW, rfl, w1, C'.cl, C'.nWt, by rfl, aW, _, rfl, .inl ⟨SqL.of w3, fun u1 hu1 => ?_⟩⟩
          have s7 := same_upd (o := .tup ((stt h (i + 1)).wait.map V.int)) hu1
          have eu1 : (upd H6 u1 (.tup ((stt h (i + 1)).wait.map V.int))) u1 = some (.tup ((waitAt h i).map V.int)) := upd_same
          have x1' := s7 _ _ x1
          have x3' := s7 _ _ x3
          generalize upd H6 u1 (.tup ((stt h (i + 1)).wait.map V.int)) = H7 at s7 eu1 x1' x3'
          refine ⟨_, rfl, q, CC, d2, _, .ref bW, rfl, x1', C'.cl, C'.nWt, by rfl, bW, _, rfl, .inl ⟨SqL.of x3', fun u2 hu2 => ?_⟩⟩
          have s8 := same_upd (o := .tup ((stt g (i + 1)).wait.map V.int)) hu2
          have eu2 : (upd H7 u2 (.tup ((stt g (i + 1)).wait.map V.int))) u2 = some (.tup ((waitAt g i).map V.int)) := upd_same
          have eu1' := s8 _ _ eu1
          have s78 := s7.trans s8
          generalize upd H7 u2 (.tup ((stt g (i + 1)).wait.map V.int)) = H8 at s78 eu1' eu2
          refine ⟨by show 3 ≤ sizeLine; decide, fun a ha => ?_⟩
          have s9 := same_upd (o := .tup [.int (i : Int), .ref u1, .ref u2]) ha
          have pn : ∀ {b : Addr} {o : HO}, H b = some o → b ≠ p ∧ b ≠ q := fun {b o} e => ⟨ne_of_none (s0 _ _ e) hpn, fun z => by
            have := sQ _ _ (s0 _ _ e)
            rw [z, hqn] at this; cases this⟩
          exact kD _ a u1 u2 i (fun b o e => s9 _ _ (s78 _ _ (k46 _ _ (pn e).1 (pn e).2 (s3 _ _ (s02 _ _ e))))) hal ce upd_same (s9 _ _ eu1') (s9 _ _ eu2)
      · rintro σ H4 ⟨v4, rfl, k4, c1, c2, ho4, go4, hal⟩
        rw [Int.toNat_natCast] at hal
        have pn : ∀ {b : Addr} {o : HO}, H b = some o → b ≠ p ∧ b ≠ q := fun {b o} e => ⟨ne_of_none (s0 _ _ e) hpn, fun z => by
          have := sQ _ _ (s0 _ _ e)
          rw [z, hqn] at this; cases this⟩
        exact kN _ (fun b o e => k4 _ _ (pn e).1 (pn e).2 (s3 _ _ (s02 _ _ e))) (agree_lcm (B := max b b') (p := n - b) (q := n' - b') (by omega) (by omega) (fun t ht => wait_rounds hT cy t (by omega)) (fun t ht => wait_rounds gT cy' t (by omega)) (Nat.le_refl _) hal)
    · rw [decide_eq_false hne]
      exact iteT (kE hne H0 s0)
end
end Dk

set_option Elab.async false
set_option linter.all false
set_option maxRecDepth 100000
set_option maxHeartbeats 2000000
/-! isinstance(e, c), e an exception with fields of its own -/
namespace DkI
open PySem PySem.Spec PySem.Calls PyProof.Rows PySem.W
section
variable {prog : Program} {w : World} {A : Around} {E : Value → Shared → Prop} {s : Shared} {K : Frag} {x D : Addr} {ox ob : Obj}
theorem class_of_err {Q : Option Value → Shared → Prop} (C : L2.ExcC K D) (X : K.In s.heap) (I : InstAt s.heap x ox D (some ob)) (h : Q (some (.ref D)) { s with toks := s.toks + 1 }) : wpAny (model prog w) A (getAttr? (.ref x) "__class__") Q E s := by
  have cD : (clsIn K D).isSome = true := by obtain ⟨_, e, _⟩ := any_some C.hd; rw [e]; rfl
  cases s with
  | mk h0 g0 d0 t0 o0 =>
    have T0 := I.type (M := model prog w)
    have T1 : Looks (model prog w) h0 (isInstance (.ref x) (.type "BaseException")) true := T0.andThen (looks_subIn X C.hs)
    have n1 : (Value.builtin "BaseException.__getattribute__" == Value.builtin "object.__getattribute__") = false := by decide +kernel
    have n2 : (onTheHeap (Value.ref D) && Value.builtin "BaseException.__getattribute__" == Value.builtin "object.__getattribute__") = false := by rw [n1]; rfl
    unfold getAttr? getAttrBy? getAttrBy
    refine wpAny_bind (wpAny_mkText ?_)
    refine wpAny_bind (wpAny_attempt (wpAny_holding ?_))
    refine wpAny_bind (T0.at ?_)
    refine wpAny_bind ((looks_findIn (M := model prog w) X C.hg).at ?_)
    show wpAny _ _ (if (onTheHeap (Value.ref D) && Value.builtin "BaseException.__getattribute__" == Value.builtin "object.__getattribute__") = true then _ else _) _ _ _
    rw [n2, if_neg Bool.false_ne_true]
    unfold getAttrByItsOwn hookBefore
    refine wpAny_bind ?_
    rw [if_pos (show onTheHeap (Value.ref D) = true from rfl)]
    refine (looks_findIn (M := model prog w) X C.hk).at (wpAny_bind (wpAny_attempt (wpAny_holding ?_)))
    unfold callGetattribute
    rw [show (false && onTheHeap (Value.builtin "BaseException.__getattribute__")) = false from rfl, if_neg Bool.false_ne_true]
    unfold boundAndCalled
    rw [PySem.F.excAttr_ValueError.ga.bind (.ref x)]
    refine wpAny_bind (wpAny_pure ?_)
    show wpAny _ _ (call (.builtin "BaseException.__getattribute__") [.ref x, .str "__class__" t0]) _ _ _
    refine wpAny_call (codeAny_call_builtin PySem.F.excAttr_ValueError.ga.plain PySem.F.entry_bexc_ga ?_)
    refine @check_slot (model prog w) _ _ ⟨h0, g0, d0, t0 + 1, o0⟩ "BaseException.__getattribute__" "BaseException" "__getattribute__" (.ref x) [.str "__class__" t0] [] _ (by decide +kernel) (by decide +kernel) T1 (PySem.F.args_bexc_ga (.ref x) (.str "__class__" t0)) ?_
    unfold Builtin.«object.__getattribute__»
    refine wpAny_bind (wpAny_of_eq (a := ((Value.ref x : Value), [Value.str "__class__" t0])) (by first | rfl | (simp only [slotArgs]; rfl)) ?_)
    refine wpAny_bind (wpAny_pure (wpAny_bind (T0.at ?_)))
    refine wpAny_bind ((looks_find (M := model prog w) X I (findObj_data cD C.ha C.hn C.ht)).at ?_)
    show wpAny _ _ (holding [Value.builtin "object.__class__"] (call (.builtin "getset_descriptor.__get__") [.builtin "object.__class__", .ref x, .ref D]) >>= ret) _ _ _
    refine wpAny_bind (wpAny_holding (wpAny_call (class_get (s := ⟨h0, g0, d0, t0 + 1, o0⟩) (ox := ox) (od := some ob) (tp := .ref D) X I C.hm ?_)))
    refine wpAny_pure ?_
    show wpAny _ _ (handedOut (.ref D)) _ _ _
    rw [handedOut_of (v := .ref D) rfl]
    first
      | exact wpAny_pure (wpAny_pure h)
      | exact wpAny_pure h
      | exact wpAny_pure (wpAny_bind (wpAny_pure (wpAny_pure h)))
theorem kit_err (C : L2.ExcC K D) : KitX K (.ref x) (.ref D) (fun h => InstAt h x ox D (some ob)) where
  ty := fun _ _ _ I => I.type
  it := fun M h X _ => by
    obtain ⟨cd, e, _⟩ := any_some C.hd
    unfold clsIn at e
    split at e
    · rename_i a b c d ho
      intro A' Q' E' s' k q
      unfold isType loadHead
      exact wpAny_bind (wpAny_loadPart (k _ _ (X _ _ ho)) (wpAny_pure q))
    · cases e
  ne := fun h tp dd its n sl X htp => by
    obtain ⟨cd, e, _⟩ := any_some C.hd
    refine Bool.eq_false_iff.mpr fun q => ?_
    have e0 : D = tp := Value.ref.inj (beq_iff_eq.mp q)
    subst e0
    unfold clsIn at e
    split at e
    · rename_i a b c d ho
      cases (X _ _ ho).symm.trans htp
    · cases e
  ca := fun X I k => class_of_err C X I k
end
end DkI
namespace Dk
open PySem PySem.Spec PyProof.Rows L2
/-- isinstance(e, c), e the exception that the suite holds, dd its dict -/
def rIsD (K : PySem.W.Frag) (D a : Addr) (cls : Value) (d : Option Addr) : List V → Hp → VK → Prop := fun xs H Q => ∃ (c : V) (cv : Value) (b : Bool) (dd : Addr) (fs : List (Str × V)), cls = .ref D ∧ d = some dd ∧ H dd = some (.xd fs) ∧ xs = [.ref a, c] ∧ (∀ u, RelV c u → u = cv) ∧ PySem.W.kitOne K (.ref D) cv = some b ∧ Q (.bl b) H
theorem call_isD {X : Cx} {a D : Addr} {oe : Obj} {cls : Value} {d : Option Addr} {pn : List (Addr × Obj)} (C : ExcC X.K D) (hz : Zc cls d oe) (hf : ∃ vs, oe.data = .fields vs) : CallR (X.suite a ((a, oe) :: pn)) (.builtin "isinstance") (rIsD X.K D a cls d) := by
  intro pins s σ H xs us Q I r h
  obtain ⟨c, cv, b, dd, fs, rfl, rfl, ea, rfl, hcv, e, q⟩ := h
  cases r with
  | cons rx rr =>
    cases rr with
    | cons rt rr =>
      cases rr
      cases rx
      have ec := hcv _ rt
      subst ec
      obtain ⟨hget, _⟩ := I.pin (a, oe) (List.mem_append.mpr (.inl List.mem_cons_self))
      obtain ⟨vs, hv⟩ := hf
      have hx : ObjOk X.prog X.w H s.heap dd (.xd fs) := I.hok dd _ ea
      obtain ⟨mA, hns, _⟩ := hx
      obtain ⟨ob, ho, _⟩ := lookIn_ns hns
      have J : PySem.W.InstAt s.heap a oe D (some ob) := ⟨hget, hz.1, by unfold PySem.W.notCls; rw [hv] <;> rfl, by rw [hz.2]; exact ho⟩
      exact PySem.W.kia_one (DkI.kit_err C) I.kIn J e (fun z => nomatch z) fun tk => ⟨.bl b, H, I.kept (t' := tk) fun _ _ z => z, rfl, q⟩
end Dk

set_option Elab.async false
set_option linter.all false
set_option maxRecDepth 100000
set_option maxHeartbeats 1000000
namespace Dk
open PySem PySem.Spec PyProof.Rows L2 TL
/-! ### l.count(x), flat items -/
def rCntF (K : PySem.W.Frag) : V → List V → Hp → VK → Prop := fun x xs H Q => ∃ (a : Addr) (ys : List V) (y : V), x = .ref a ∧ xs = [y] ∧ SqL K H a ys ∧ flatV y = true ∧ ys.all flatV = true ∧ Q (.int ((ys.countP fun z => eqV z y : Nat) : Int)) H
theorem countP_vals {y : V} : ∀ {ys : List V} {us : List Value}, Vals ys us → ys.all flatV = true → us.countP (eqU y) = ys.countP fun z => eqV z y
  | _, _, .nil, _ => rfl
  | z :: ys, u :: us, .cons r t, f => by
    rw [List.all_cons, Bool.and_eq_true] at f
    rw [List.countP_cons, List.countP_cons, countP_vals t f.2, eqU_of r f.1]
theorem mt_countF {X : Cx} : MtR X "list.count" (rCntF X.K) := by
  intro pins s σ H x xs v us Q I rx rxs h
  obtain ⟨a, ys, y, rfl, rfl, hs, fy, fys, q⟩ := h
  cases rx
  obtain ⟨uy, rfl, ry⟩ := rxs.one
  obtain ⟨its, rv, ⟨⟨c0, dd, d0, sl⟩, n, ho, hc, _, hd⟩, _⟩ := I.list hs
  simp only at hc hd
  subst hc hd
  refine call_meets PySem.F.slot_list_count ⟨_, ho, rfl⟩ PySem.F.entry_list_count (PySem.F.args_list_count_2 _ _)
    (SeqAt.list_countAt a its.toArray n dd sl uy (eqU y)) ⟨ho, fun u' hu' => mem_eqAt ry fy rv fys u' (by simpa using hu'), ?_⟩
  refine ⟨.int ((ys.countP fun z => eqV z y : Nat) : Int), H, I.tok _, ⟨s.toks, ?_⟩, q⟩
  show Value.int ((its.toArray.toList.countP (eqU y) : Nat) : Int) s.toks = _
  rw [show its.toArray.toList.countP (eqU y) = ys.countP fun z => eqV z y from countP_vals rv fys]
/-! ### the kind of an error -/
def errNames : List Str := ["tick", "person", "limit", "different", "waiting", "contradiction", "name", "unknown", "house", "text", "code", "operation"]
structure TxtN (mg : Str → Option Value) (cs : Nat → Addr) (CE : Addr) : Prop where
  gE : mg "HouseError" = some (.ref CE)
  n0 : mg "InvalidTick" = some (.ref (cs 0))
  n1 : mg "UnknownPerson" = some (.ref (cs 1))
  n2 : mg "InvalidLimit" = some (.ref (cs 2))
  n3 : mg "DifferentHouses" = some (.ref (cs 3))
  n4 : mg "InvalidWaiting" = some (.ref (cs 4))
  n5 : mg "Contradiction" = some (.ref (cs 5))
  n6 : mg "InvalidName" = some (.ref (cs 6))
  n7 : mg "UnknownName" = some (.ref (cs 7))
  n8 : mg "InvalidHouse" = some (.ref (cs 8))
  n9 : mg "TextFault" = some (.ref (cs 9))
  n10 : mg "InvalidCode" = some (.ref (cs 10))
  n11 : mg "InvalidOperation" = some (.ref (cs 11))
  vE : mg "ValueError" = none
  isi : mg "isinstance" = none
/-- the class at D is the j-th -/
structure ErrKit (K : PySem.W.Frag) (cs : Nat → Addr) (CE D : Addr) (j : Nat) : Prop where
  at_ : ∀ i, i < 12 → PySem.W.kitOne K (.ref D) (.ref (cs i)) = some (decide (i = j))
  v : PySem.W.kitOne K (.ref D) (.type "ValueError") = some true
  ex : PySem.W.exmOne K (.ref D) (.ref CE) = some true
  C : ExcC K D
/-- isinstance(e, c) -/
def rIsX (K : PySem.W.Frag) (a : Addr) (cls : Value) (d : Option Addr) : List V → Hp → VK → Prop := fun xs H Q => ∃ (D : Addr) (_ : ExcC K D), rIsD K D a cls d xs H Q
theorem call_isX {X : Cx} {a : Addr} {oe : Obj} {cls : Value} {d : Option Addr} {pn : List (Addr × Obj)} (hz : Zc cls d oe) (hf : ∃ vs, oe.data = .fields vs) : CallR (X.suite a ((a, oe) :: pn)) (.builtin "isinstance") (rIsX X.K a cls d) := by
  intro pins s σ H xs us Q I r h
  obtain ⟨D, C, h⟩ := h
  exact call_isD C hz hf pins s σ H xs us Q I r h

/-- isinstance(e, c), e with fields or without -/
def rIsY (K : PySem.W.Frag) (a : Addr) (cls : Value) (d : Option Addr) : List V → Hp → VK → Prop := fun xs H Q => (d = none ∧ ∃ D, ExcC K D ∧ cls = .ref D ∧ rIsE K D a xs H Q) ∨ rIsX K a cls d xs H Q
theorem call_isY {X : Cx} {a : Addr} {oe : Obj} {cls : Value} {d : Option Addr} {pn : List (Addr × Obj)} (hz : Zc cls d oe) (hf : ∃ vs, oe.data = .fields vs) : CallR (X.suite a ((a, oe) :: pn)) (.builtin "isinstance") (rIsY X.K a cls d) := by
  intro pins s σ H xs us Q I r h
  rcases h with ⟨rfl, D, C, rfl, h⟩ | h
  · exact call_isE C hz hf pins s σ H xs us Q I r h
  · exact call_isX hz hf pins s σ H xs us Q I r h
/-- e.n, whatever the class that has it -/
def tXf2 (K : PySem.W.Frag) (a : Addr) (cls : Value) (d : Option Addr) (n : Str) : TE := fun σ H Q => σ[1]? = some (some (.ref a)) ∧ ∃ C, XfC K C ∧ PySem.W.findIn K (.ref C) n = some none ∧ cls = .ref C ∧ ∃ (dd : Addr) (fs : List (Str × V)) (v : V), d = some dd ∧ H dd = some (.xd fs) ∧ fs.lookup n = some v ∧ Q v H
theorem pe_xf2 {X : Cx} {a : Addr} {oe : Obj} {cls : Value} {d : Option Addr} {pn : List (Addr × Obj)} {e : Expr} {pos : Pos} {n : Str} (hz : Zc cls d oe) (hf : ∃ vs, oe.data = .fields vs) (he : PE (X.suite a ((a, oe) :: pn)) e (tVar 1)) (hb : attributeBase e n X.env (eval e X.env) = eval e X.env := by rfl) :
    PE (X.suite a ((a, oe) :: pn)) (.Attribute e n pos) (tXf2 X.K a cls d n) := by
  refine ⟨fun pins s σ H Q I h => ?_⟩
  obtain ⟨h1, C, XC, hno, rfl, dd, fs, v, rfl, h2, h3, h4⟩ := h
  exact (pe_xf XC hno hz hf he hb).run pins s σ H Q I ⟨_, h1, rfl, rfl, dd, fs, v, rfl, h2, h3, h4⟩
def DOk (d : Option Addr) (H : Hp) : Prop := d = none ∨ ∃ dd fs, d = some dd ∧ H dd = some (.xd fs)
theorem DOk.mono {d : Option Addr} {H H' : Hp} (h : DOk d H) (s : Same H H') : DOk d H' := by
  rcases h with h | ⟨dd, fs, h1, h2⟩
  · exact .inl h
  · exact .inr ⟨dd, fs, h1, s _ _ h2⟩
abbrev nErr : List Str := ["_law_call", "e", "_law_kinds", "_law_names", "_law_name"]
def errAt (j : Nat) : Str := errNames.getD j (Str.ofString "")
/-- what the call's error must tell: (word, value) -/
def EErr (cs : Nat → Addr) (J : List Nat) (Q : VK) : XK := fun cls d H => ∃ j, j ∈ J ∧ cls = .ref (cs j) ∧
  ((j < 8 ∧ d = none ∧ ∀ (H' : Hp) (p : Addr), Same H H' → H' p = some (.tup [.str (errAt j), .int 0]) → Q (.ref p) H') ∨
   (j = 8 ∧ ∃ (part : Str) (i : Int) (dd : Addr), d = some dd ∧ H dd = some (.xd [("index", .int i), ("part", .str part)]) ∧
      ∀ (H' : Hp) (p t : Addr), Same H H' → H' t = some (.tup [.str part, .int i]) → H' p = some (.tup [.str (Str.ofString "house"), .ref t]) → Q (.ref p) H') ∨
   (j = 9 ∧ ∃ (i : Int) (dd : Addr), d = some dd ∧ H dd = some (.xd [("line", .int i)]) ∧ ∀ (H' : Hp) (p : Addr), Same H H' → H' p = some (.tup [.str (Str.ofString "text"), .int i]) → Q (.ref p) H') ∨
   (10 ≤ j ∧ ∃ (i : Int) (dd : Addr), d = some dd ∧ H dd = some (.xd [("place", .int i)]) ∧ ∀ (H' : Hp) (p : Addr), Same H H' → H' p = some (.tup [.str (errAt j), .int i]) → Q (.ref p) H'))
def TErr (cs : Nat → Addr) (J : List Nat) : (XK → Hp → VK → Prop) → Hp → VK → Prop := fun tl H Q => tl (EErr cs J Q) H fun _ H' => Q .non H'
theorem scErr : FnScope nErr ["_law_call"] (defScope sErrOf) := ⟨rfl, rfl, rfl, by decide +kernel, rfl, by decide +kernel, by decide +kernel⟩
/-- all classes of errors -/
structure ErK (K : PySem.W.Frag) (cs : Nat → Addr) (CE : Addr) (J : List Nat) : Prop where
  lt : ∀ j ∈ J, j < 12
  kit : ∀ j ∈ J, ErrKit K cs CE (cs j) j
  x8 : XfC K (cs 8)
  x9 : XfC K (cs 9)
  nP : PySem.W.findIn K (.ref (cs 8)) "part" = some none
  nI : PySem.W.findIn K (.ref (cs 8)) "index" = some none
  nL : PySem.W.findIn K (.ref (cs 9)) "line" = some none
  x10 : ∀ j ∈ J, 10 ≤ j → XfC K (cs j) ∧ PySem.W.findIn K (.ref (cs j)) "place" = some none
section
variable {P : Program} {w : World} {K : PySem.W.Frag} {mg : Str → Option Value} {base : Heap} {cs : Nat → Addr} {CE : Addr} {J : List Nat}
def flags (j : Nat) : List V := (List.range 12).map fun i => V.bl (decide (i = j))
theorem flags_flat (j : Nat) : (flags j).all flatV = true := by
  refine List.all_eq_true.mpr fun x hx => ?_
  obtain ⟨i, _, rfl⟩ := List.mem_map.mp hx
  rfl
theorem flags_at {j m : Nat} {z : V} (h : (flags j)[m]? = some z) : z = .bl (decide (m = j)) := by
  unfold flags at h
  rw [List.getElem?_map] at h
  cases e : (List.range 12)[m]? with
  | none => rw [e] at h; cases h
  | some i =>
    rw [e] at h
    have hi := List.getElem?_eq_some_iff.mp e
    obtain ⟨h1, h2⟩ := hi
    rw [List.getElem_range] at h2
    subst h2
    exact (Option.some.inj h).symm
theorem flags_no {j m : Nat} {z : V} (hm : m < j) (h : (flags j)[m]? = some z) : eqV z (.bl true) = false := by
  rw [flags_at h, decide_eq_false (by omega)]; rfl
theorem flags_yes {j : Nat} (h : j < 12) : (flags j)[j]? = some (.bl true) := by
  unfold flags
  rw [List.getElem?_map, List.getElem?_range h]
  show some (V.bl (decide (j = j))) = _
  rw [decide_eq_true rfl]
theorem flags_one {j : Nat} (h : j < 12) : (flags j).countP (fun z => eqV z (.bl true)) = 1 := by
  have : j = 0 ∨ j = 1 ∨ j = 2 ∨ j = 3 ∨ j = 4 ∨ j = 5 ∨ j = 6 ∨ j = 7 ∨ j = 8 ∨ j = 9 ∨ j = 10 ∨ j = 11 := by omega
  rcases this with rfl | rfl | rfl | rfl | rfl | rfl | rfl | rfl | rfl | rfl | rfl | rfl <;> rfl
theorem is_step {K : PySem.W.Frag} {cs : Nat → Addr} {CE D0 a : Addr} {d : Option Addr} {j i : Nat} {H : Hp} {Q : VK} (EK : ErrKit K cs CE D0 j) (e : DOk d H) (hi : i < 12) (q : Q (.bl (decide (i = j))) H) :
    rIsY K a (.ref D0) d [.ref a, .ref (cs i)] H Q := by
  rcases e with rfl | ⟨dd, fs, rfl, e⟩
  · exact .inl ⟨rfl, D0, EK.C, rfl, .ref (cs i), .ref (cs i), _, rfl, fun _ z => z, EK.at_ i hi, q⟩
  · exact .inr ⟨D0, EK.C, .ref (cs i), .ref (cs i), _, dd, fs, rfl, rfl, e, rfl, fun _ z => z, EK.at_ i hi, q⟩
theorem ve_step {K : PySem.W.Frag} {cs : Nat → Addr} {CE D0 a : Addr} {d : Option Addr} {j : Nat} {H : Hp} {Q : VK} (EK : ErrKit K cs CE D0 j) (e : DOk d H) (q : Q (.bl true) H) :
    rIsY K a (.ref D0) d [.ref a, .ty "ValueError"] H Q := by
  rcases e with rfl | ⟨dd, fs, rfl, e⟩
  · exact .inl ⟨rfl, D0, EK.C, rfl, .ty "ValueError", .type "ValueError", _, rfl, fun _ z => z, EK.v, q⟩
  · exact .inr ⟨D0, EK.C, .ty "ValueError", .type "ValueError", _, dd, fs, rfl, rfl, e, rfl, fun _ z => z, EK.v, q⟩
abbrev cxE (X : Cx) (g : Addr) (cdg : Value) (s : Shared) (H : Hp) : Cx := (cxOf C8.CX0 X.prog X.w X.K X.mg X.base nErr "_law_error_of" (defScope sErrOf) g cdg X.A X.stack s H C8.E0).nox
abbrev suiteE : List Stmt := match defBody sErrOf with
  | .Try _ [.ExceptHandler _ _ b _] _ _ _ :: _ => b
  | _ => []
abbrev bodyE : List Stmt := match defBody sErrOf with
  | .Try b _ _ _ _ :: _ => b
  | _ => []
def tsS0 (cs : Nat → Addr) (J : List Nat) (a : Addr) (cls : Value) (d : Option Addr) : TS := fun D σ H => (∃ v0 v2 v3 v4, σ = [v0, some (.ref a), v2, v3, v4]) ∧ EErr cs J D.rt cls d H
def tsS (cs : Nat → Addr) (J : List Nat) (a : Addr) (cls : Value) (d : Option Addr) : TS := fun D σ H => (∃ σ0 : L2.St, σ = σ0.set 1 (some (.ref a))) ∧ EErr cs J D.rt cls d H
theorem five {σ0 : L2.St} {a : Addr} (h : (σ0.set 1 (some (V.ref a))).length = 5) : ∃ v0 v2 v3 v4, σ0.set 1 (some (V.ref a)) = [v0, some (.ref a), v2, v3, v4] := by
  rw [List.length_set] at h
  match σ0, h with
  | [v0, _, v2, v3, v4], _ => exact ⟨v0, v2, v3, v4, rfl⟩
theorem suite_ok {X : Cx} {g : Addr} {cdg : Value} {s : Shared} {H : Hp} (N : TxtN X.mg cs CE) (EK' : ErK X.K cs CE J) (hu : X.A.units + 100 < cLine)
    {a : Addr} {oe : Obj} {cls : Value} {d : Option Addr} {pn : List (Addr × Obj)} (hz : Zc cls d oe) (hf : ∃ vs, oe.data = .fields vs) : PSs ((cxE X g cdg s H).suite a ((a, oe) :: pn)) suiteE (tsS cs J a cls d) := by
  have isi : ((cxE X g cdg s H).suite a ((a, oe) :: pn)).mg "isinstance" = none := N.isi
  have hh : ∃ t, PSs ((cxE X g cdg s H).suite a ((a, oe) :: pn)) suiteE t ∧ ∀ D σ H', tsS0 cs J a cls d D σ H' → t D σ H' := by
    have hu2 : ((cxE X g cdg s H).suite a ((a, oe) :: pn)).A.units + 65 < cLine := by
      show X.A.units + 3 + 65 < cLine
      omega
    refine ⟨_, (pss_cons (ps_set (i := 2) scErr.nd rfl (.inl rfl) (pe_lst (pa_cons (pe_callB (call_isY hz hf) (by rfl) N.isi (by decide +kernel) (pa_cons (pv 1) (pa_cons (pe_glob (v := .ref (cs 0)) (by rfl) N.n0 rfl) pa_nil))) (pa_cons (pe_callB (call_isY hz hf) (by rfl) N.isi (by decide +kernel) (pa_cons (pv 1) (pa_cons (pe_glob (v := .ref (cs 1)) (by rfl) N.n1 rfl) pa_nil))) (pa_cons (pe_callB (call_isY hz hf) (by rfl) N.isi (by decide +kernel) (pa_cons (pv 1) (pa_cons (pe_glob (v := .ref (cs 2)) (by rfl) N.n2 rfl) pa_nil))) pa_nil)))))
      (pss_cons (ps_set (i := 2) scErr.nd rfl (.inl rfl) (pe_op op_cat (pv 2) (pe_lst (pa_cons (pe_callB (call_isY hz hf) (by rfl) N.isi (by decide +kernel) (pa_cons (pv 1) (pa_cons (pe_glob (v := .ref (cs 3)) (by rfl) N.n3 rfl) pa_nil))) (pa_cons (pe_callB (call_isY hz hf) (by rfl) N.isi (by decide +kernel) (pa_cons (pv 1) (pa_cons (pe_glob (v := .ref (cs 4)) (by rfl) N.n4 rfl) pa_nil))) (pa_cons (pe_callB (call_isY hz hf) (by rfl) N.isi (by decide +kernel) (pa_cons (pv 1) (pa_cons (pe_glob (v := .ref (cs 5)) (by rfl) N.n5 rfl) pa_nil))) pa_nil))))))
      (pss_cons (ps_set (i := 2) scErr.nd rfl (.inl rfl) (pe_op op_cat (pv 2) (pe_lst (pa_cons (pe_callB (call_isY hz hf) (by rfl) N.isi (by decide +kernel) (pa_cons (pv 1) (pa_cons (pe_glob (v := .ref (cs 6)) (by rfl) N.n6 rfl) pa_nil))) (pa_cons (pe_callB (call_isY hz hf) (by rfl) N.isi (by decide +kernel) (pa_cons (pv 1) (pa_cons (pe_glob (v := .ref (cs 7)) (by rfl) N.n7 rfl) pa_nil))) (pa_cons (pe_callB (call_isY hz hf) (by rfl) N.isi (by decide +kernel) (pa_cons (pv 1) (pa_cons (pe_glob (v := .ref (cs 8)) (by rfl) N.n8 rfl) pa_nil))) pa_nil))))))
      (pss_cons (ps_set (i := 2) scErr.nd rfl (.inl rfl) (pe_op op_cat (pv 2) (pe_lst (pa_cons (pe_callB (call_isY hz hf) (by rfl) N.isi (by decide +kernel) (pa_cons (pv 1) (pa_cons (pe_glob (v := .ref (cs 9)) (by rfl) N.n9 rfl) pa_nil))) (pa_cons (pe_callB (call_isY hz hf) (by rfl) N.isi (by decide +kernel) (pa_cons (pv 1) (pa_cons (pe_glob (v := .ref (cs 10)) (by rfl) N.n10 rfl) pa_nil))) (pa_cons (pe_callB (call_isY hz hf) (by rfl) N.isi (by decide +kernel) (pa_cons (pv 1) (pa_cons (pe_glob (v := .ref (cs 11)) (by rfl) N.n11 rfl) pa_nil))) pa_nil))))))
      (pss_cons (ps_if (PW.pt (pw_or (pt_cmpR op_ne (pe_bm PySem.F.plainAttrs_list PySem.F.slot_list_count PySem.F.type_list_count mt_countF (pv 2) (pa_cons pe_bl pa_nil)) pe_int (nomark _)) (pw_or1 (pt_not (pt_val (pe_callB (call_isY hz hf) (by rfl) N.isi (by decide +kernel) (pa_cons (pv 1) (pa_cons (pe_bltn (v := .ty "ValueError") (by rfl) N.vE (by decide +kernel) rfl) pa_nil)))))))) (pss_one (ps_ret (pe_tup (pa_cons pe_str (pa_cons pe_int pa_nil))))) pss_nil)
      (pss_cons (ps_set (i := 3) scErr.nd rfl (.inl rfl) (pe_lst (pa_cons pe_str (pa_cons pe_str (pa_cons pe_str (pa_cons pe_str (pa_cons pe_str (pa_cons pe_str (pa_cons pe_str (pa_cons pe_str (pa_cons pe_str (pa_cons pe_str pa_nil))))))))))))
      (pss_cons (ps_set (i := 4) scErr.nd rfl (.inl rfl) (pe_ix ix_list (pe_op op_cat (pv 3) (pe_lst (pa_cons pe_str (pa_cons pe_str pa_nil)))) (pe_bm PySem.F.plainAttrs_list PySem.F.slot_list_index PySem.F.type_list_index mt_index (pv 2) (pa_cons pe_bl pa_nil)) (fun _ _ => rfl)))
      (pss_cons (ps_if (pt_cmpR op_eq (pv 4) pe_str (nomark _)) (pss_one (ps_ret (pe_tup (pa_cons (pv 4) (pa_cons (pe_tup (pa_cons (pe_xf EK'.x8 EK'.nP hz hf (pv 1)) (pa_cons (pe_xf EK'.x8 EK'.nI hz hf (pv 1)) pa_nil))) pa_nil))))) pss_nil)
      (pss_cons (ps_if (pt_cmpR op_eq (pv 4) pe_str (nomark _)) (pss_one (ps_ret (pe_tup (pa_cons (pv 4) (pa_cons (pe_xf EK'.x9 EK'.nL hz hf (pv 1)) pa_nil))))) pss_nil)
      (pss_one (ps_ret (pe_tup (pa_cons (pv 4) (pa_cons (pe_ifExp (pt_cmpR op_in_seq (pv 4) (pe_lst (pa_cons pe_str (pa_cons pe_str pa_nil))) (by rfl)) (pe_xf2 hz hf (pv 1)) pe_int) pa_nil)))))))))))))), fun D σ H' h => ?_⟩
    obtain ⟨⟨v0, v2, v3, v4, rfl⟩, h⟩ := h
    obtain ⟨j, hjJ, ecls, fin⟩ := h
    have j12 := EK'.lt j hjJ
    have EK := EK'.kit j hjJ
    have edd : DOk d H' := by
      rcases fin with ⟨_, e, _⟩ | ⟨_, _, _, dd, e, e2, _⟩ | ⟨_, _, dd, e, e2, _⟩ | ⟨_, _, dd, e, e2, _⟩
      · exact .inl e
      · exact .inr ⟨dd, _, e, e2⟩
      · exact .inr ⟨dd, _, e, e2⟩
      · exact .inr ⟨dd, _, e, e2⟩
    subst ecls
    -- the kinds
    refine ⟨_, rfl, is_step EK edd (by decide) ⟨_, rfl, is_step EK edd (by decide) ⟨_, rfl, is_step EK edd (by decide) ⟨by show 3 ≤ sizeLine; decide, fun l1 hl1 => ?_⟩⟩⟩⟩
    have s1 := same_upd (o := .lst [.bl (decide (0 = j)), .bl (decide (1 = j)), .bl (decide (2 = j))]) hl1
    have e1 : (upd H' l1 (.lst [.bl (decide (0 = j)), .bl (decide (1 = j)), .bl (decide (2 = j))])) l1 = some (.lst [.bl (decide (0 = j)), .bl (decide (1 = j)), .bl (decide (2 = j))]) := upd_same
    generalize upd H' l1 (.lst [.bl (decide (0 = j)), .bl (decide (1 = j)), .bl (decide (2 = j))]) = H1 at s1 e1
    refine ⟨_, rfl, _, rfl, is_step EK (edd.mono s1) (by decide) ⟨_, rfl, is_step EK (edd.mono s1) (by decide) ⟨_, rfl, is_step EK (edd.mono s1) (by decide) ⟨by show 3 ≤ sizeLine; decide, fun l2 hl2 => ?_⟩⟩⟩⟩
    have s2 := s1.trans (same_upd (o := .lst [.bl (decide (3 = j)), .bl (decide (4 = j)), .bl (decide (5 = j))]) hl2)
    have e1' := same_upd (o := .lst [.bl (decide (3 = j)), .bl (decide (4 = j)), .bl (decide (5 = j))]) hl2 _ _ e1
    have e2 : (upd H1 l2 (.lst [.bl (decide (3 = j)), .bl (decide (4 = j)), .bl (decide (5 = j))])) l2 = some (.lst [.bl (decide (3 = j)), .bl (decide (4 = j)), .bl (decide (5 = j))]) := upd_same
    refine ⟨l1, l2, _, _, rfl, rfl, e1', e2, by show 3 + 3 ≤ sizeLine; decide, fun p1 hp1 => ?_⟩
    have s3 := s2.trans (same_upd (o := .lst ([.bl (decide (0 = j)), .bl (decide (1 = j)), .bl (decide (2 = j))] ++ [.bl (decide (3 = j)), .bl (decide (4 = j)), .bl (decide (5 = j))])) hp1)
    have f1 : (upd (upd H1 l2 (.lst [.bl (decide (3 = j)), .bl (decide (4 = j)), .bl (decide (5 = j))])) p1 (.lst ([.bl (decide (0 = j)), .bl (decide (1 = j)), .bl (decide (2 = j))] ++ [.bl (decide (3 = j)), .bl (decide (4 = j)), .bl (decide (5 = j))]))) p1 = some (.lst (([.bl (decide (0 = j)), .bl (decide (1 = j)), .bl (decide (2 = j))] ++ [.bl (decide (3 = j)), .bl (decide (4 = j)), .bl (decide (5 = j))]))) := upd_same
    generalize upd (upd H1 l2 (.lst [.bl (decide (3 = j)), .bl (decide (4 = j)), .bl (decide (5 = j))])) p1 (.lst ([.bl (decide (0 = j)), .bl (decide (1 = j)), .bl (decide (2 = j))] ++ [.bl (decide (3 = j)), .bl (decide (4 = j)), .bl (decide (5 = j))])) = H2 at s3 f1
    generalize eA : ([.bl (decide (0 = j)), .bl (decide (1 = j)), .bl (decide (2 = j))] ++ [.bl (decide (3 = j)), .bl (decide (4 = j)), .bl (decide (5 = j))] : List V) = A6 at f1
    have lA : A6.length = 6 := by rw [← eA]; rfl
    clear e1' e2 s1 s2 e1 hl1 hl2 hp1
    refine ⟨_, rfl, _, rfl, is_step EK (edd.mono s3) (by decide) ⟨_, rfl, is_step EK (edd.mono s3) (by decide) ⟨_, rfl, is_step EK (edd.mono s3) (by decide) ⟨by show 3 ≤ sizeLine; decide, fun l3 hl3 => ?_⟩⟩⟩⟩
    have s4 := s3.trans (same_upd (o := .lst [.bl (decide (6 = j)), .bl (decide (7 = j)), .bl (decide (8 = j))]) hl3)
    have f1' := same_upd (o := .lst [.bl (decide (6 = j)), .bl (decide (7 = j)), .bl (decide (8 = j))]) hl3 _ _ f1
    have e3 : (upd H2 l3 (.lst [.bl (decide (6 = j)), .bl (decide (7 = j)), .bl (decide (8 = j))])) l3 = some (.lst [.bl (decide (6 = j)), .bl (decide (7 = j)), .bl (decide (8 = j))]) := upd_same
    generalize upd H2 l3 (.lst [.bl (decide (6 = j)), .bl (decide (7 = j)), .bl (decide (8 = j))]) = H3 at s4 f1' e3
    refine ⟨p1, l3, _, _, rfl, rfl, f1', e3, by rw [lA]; show 6 + 3 ≤ sizeLine; decide, fun p2 hp2 => ?_⟩
    have s5 := s4.trans (same_upd (o := .lst (A6 ++ [.bl (decide (6 = j)), .bl (decide (7 = j)), .bl (decide (8 = j))])) hp2)
    have f2 : (upd H3 p2 (.lst (A6 ++ [.bl (decide (6 = j)), .bl (decide (7 = j)), .bl (decide (8 = j))]))) p2 = some (.lst (A6 ++ [.bl (decide (6 = j)), .bl (decide (7 = j)), .bl (decide (8 = j))])) := upd_same
    generalize upd H3 p2 (.lst (A6 ++ [.bl (decide (6 = j)), .bl (decide (7 = j)), .bl (decide (8 = j))])) = H4 at s5 f2
    clear f1' e3 s3 s4 f1 hl3 hp2
    refine ⟨_, rfl, _, rfl, is_step EK (edd.mono s5) (by decide) ⟨_, rfl, is_step EK (edd.mono s5) (by decide) ⟨_, rfl, is_step EK (edd.mono s5) (by decide) ⟨by show 3 ≤ sizeLine; decide, fun l4 hl4 => ?_⟩⟩⟩⟩
    have s6 := s5.trans (same_upd (o := .lst [.bl (decide (9 = j)), .bl (decide (10 = j)), .bl (decide (11 = j))]) hl4)
    have f2' := same_upd (o := .lst [.bl (decide (9 = j)), .bl (decide (10 = j)), .bl (decide (11 = j))]) hl4 _ _ f2
    have e4 : (upd H4 l4 (.lst [.bl (decide (9 = j)), .bl (decide (10 = j)), .bl (decide (11 = j))])) l4 = some (.lst [.bl (decide (9 = j)), .bl (decide (10 = j)), .bl (decide (11 = j))]) := upd_same
    generalize upd H4 l4 (.lst [.bl (decide (9 = j)), .bl (decide (10 = j)), .bl (decide (11 = j))]) = H5 at s6 f2' e4
    refine ⟨p2, l4, _, _, rfl, rfl, f2', e4, by rw [List.length_append, lA]; show 9 + 3 ≤ sizeLine; decide, fun p3 hp3 => ?_⟩
    have s7 := s6.trans (same_upd (o := .lst ((A6 ++ [.bl (decide (6 = j)), .bl (decide (7 = j)), .bl (decide (8 = j))]) ++ [.bl (decide (9 = j)), .bl (decide (10 = j)), .bl (decide (11 = j))])) hp3)
    have fk : (upd H5 p3 (.lst ((A6 ++ [.bl (decide (6 = j)), .bl (decide (7 = j)), .bl (decide (8 = j))]) ++ [.bl (decide (9 = j)), .bl (decide (10 = j)), .bl (decide (11 = j))]))) p3 = some (.lst (flags j)) := by rw [upd_same, ← eA]; rfl
    generalize upd H5 p3 (.lst ((A6 ++ [.bl (decide (6 = j)), .bl (decide (7 = j)), .bl (decide (8 = j))]) ++ [.bl (decide (9 = j)), .bl (decide (10 = j)), .bl (decide (11 = j))])) = H6 at s7 fk
    clear f2' e4 s5 s6 f2 eA lA hl4 hp3
    -- one kind
    refine ⟨_, rfl, .inl ⟨rfl, _, SqL.of fk⟩, p3, flags j, .bl true, rfl, rfl, SqL.of fk, rfl, flags_flat j, rfl, _, rfl, ?_⟩
    rw [show (!decide (V.int (((flags j).countP fun z => eqV z (V.bl true) : Nat) : Int) = V.int 1)) = false by rw [flags_one j12]; rfl]
    refine iteF ⟨_, rfl, ve_step EK (edd.mono s7) ⟨_, rfl, iteF ?_⟩⟩
    -- its word
    refine ⟨by show 10 ≤ sizeLine; decide, fun lN hlN => ?_⟩
    generalize eN : ([V.str (Str.ofString "tick"), V.str (Str.ofString "person"), V.str (Str.ofString "limit"), V.str (Str.ofString "different"), V.str (Str.ofString "waiting"), V.str (Str.ofString "contradiction"), V.str (Str.ofString "name"), V.str (Str.ofString "unknown"), V.str (Str.ofString "house"), V.str (Str.ofString "text")] : List V) = N10 at hlN ⊢
    have s8 := s7.trans (same_upd (o := .lst N10) hlN)
    have fk2 := same_upd (o := .lst N10) hlN _ _ fk
    have fN : (upd H6 lN (.lst N10)) lN = some (.lst N10) := upd_same
    generalize upd H6 lN (.lst N10) = H7 at s8 fk2 fN
    refine ⟨_, rfl, by show 2 ≤ sizeLine; decide, fun l5 hl5 => ?_⟩
    have s9 := s8.trans (same_upd (o := .lst [V.str (Str.ofString "code"), V.str (Str.ofString "operation")]) hl5)
    have fk3 := same_upd (o := .lst [V.str (Str.ofString "code"), V.str (Str.ofString "operation")]) hl5 _ _ fk2
    have fN2 := same_upd (o := .lst [V.str (Str.ofString "code"), V.str (Str.ofString "operation")]) hl5 _ _ fN
    have f5 : (upd H7 l5 (.lst [V.str (Str.ofString "code"), V.str (Str.ofString "operation")])) l5 = some (.lst [V.str (Str.ofString "code"), V.str (Str.ofString "operation")]) := upd_same
    generalize upd H7 l5 (.lst [V.str (Str.ofString "code"), V.str (Str.ofString "operation")]) = H8 at s9 fk3 fN2 f5
    have lN10 : N10.length = 10 := by rw [← eN]; rfl
    refine ⟨lN, l5, _, _, rfl, rfl, fN2, f5, by rw [lN10]; show 10 + 2 ≤ sizeLine; decide, fun p5 hp5 => ?_⟩
    have s10 := s9.trans (same_upd (o := .lst (N10 ++ [V.str (Str.ofString "code"), V.str (Str.ofString "operation")])) hp5)
    have fk4 := same_upd (o := .lst (N10 ++ [V.str (Str.ofString "code"), V.str (Str.ofString "operation")])) hp5 _ _ fk3
    have f6 : (upd H8 p5 (.lst (N10 ++ [V.str (Str.ofString "code"), V.str (Str.ofString "operation")]))) p5 = some (.lst (N10 ++ [V.str (Str.ofString "code"), V.str (Str.ofString "operation")])) := upd_same
    generalize upd H8 p5 (.lst (N10 ++ [V.str (Str.ofString "code"), V.str (Str.ofString "operation")])) = H9 at s10 fk4 f6
    clear s7 s8 s9 fk fk2 fk3 fN fN2 f5 hlN hl5 hp5
    refine ⟨_, rfl, .inl ⟨rfl, _, SqL.of fk4⟩, p3, flags j, .bl true, j, .bl true, rfl, rfl, SqL.of fk4, rfl, flags_flat j, flags_yes j12, rfl, fun m z' hm hz' => flags_no hm hz', ?_⟩
    have hL : N10 ++ [V.str (Str.ofString "code"), V.str (Str.ofString "operation")] = errNames.map V.str := by rw [← eN]; rfl
    rw [hL] at f6
    have hat : atI (errNames.map V.str) ((j : Nat) : Int) = some (.str (errAt j)) := by
      have : j = 0 ∨ j = 1 ∨ j = 2 ∨ j = 3 ∨ j = 4 ∨ j = 5 ∨ j = 6 ∨ j = 7 ∨ j = 8 ∨ j = 9 ∨ j = 10 ∨ j = 11 := by omega
      rcases this with rfl | rfl | rfl | rfl | rfl | rfl | rfl | rfl | rfl | rfl | rfl | rfl <;> exact atI_nat rfl
    refine ⟨p5, _, ((j : Nat) : Int), .str (errAt j), rfl, rfl, SqL.of f6, hat, ?_⟩
    rcases fin with ⟨j8, rfl, k⟩ | ⟨rfl, part, i, dd, rfl, edd2, k⟩ | ⟨rfl, i, dd, rfl, edd2, k⟩ | ⟨j10, i, dd, rfl, edd2, k⟩
    · refine ⟨_, rfl, rfl, _, rfl, ?_⟩
      rw [show decide (V.str (errAt j) = V.str (Str.ofString "house")) = false by
        have : j = 0 ∨ j = 1 ∨ j = 2 ∨ j = 3 ∨ j = 4 ∨ j = 5 ∨ j = 6 ∨ j = 7 := by omega
        rcases this with rfl | rfl | rfl | rfl | rfl | rfl | rfl | rfl <;> decide +kernel]
      refine iteF ⟨_, rfl, rfl, _, rfl, ?_⟩
      rw [show decide (V.str (errAt j) = V.str (Str.ofString "text")) = false by
        have : j = 0 ∨ j = 1 ∨ j = 2 ∨ j = 3 ∨ j = 4 ∨ j = 5 ∨ j = 6 ∨ j = 7 := by omega
        rcases this with rfl | rfl | rfl | rfl | rfl | rfl | rfl | rfl <;> decide +kernel]
      refine iteF ⟨_, rfl, _, rfl, by show 2 ≤ sizeLine; decide, fun lq hlq => ⟨lq, _, rfl, .inl (SqL.of upd_same), rfl, rfl, _, rfl, ?_⟩⟩
      have s11 := s10.trans (same_upd (o := .lst [V.str (Str.ofString "code"), V.str (Str.ofString "operation")]) hlq)
      rw [show inV (V.str (errAt j)) [V.str (Str.ofString "code"), V.str (Str.ofString "operation")] = false by
        have : j = 0 ∨ j = 1 ∨ j = 2 ∨ j = 3 ∨ j = 4 ∨ j = 5 ∨ j = 6 ∨ j = 7 := by omega
        rcases this with rfl | rfl | rfl | rfl | rfl | rfl | rfl | rfl <;> decide +kernel]
      refine iteF ⟨by show 2 ≤ sizeLine; decide, fun p hp => ?_⟩
      exact k _ p (s11.trans (same_upd hp)) upd_same
    · have edd2 := s10 _ _ edd2
      refine ⟨_, rfl, rfl, _, rfl, ?_⟩
      rw [show decide (V.str (errAt 8) = V.str (Str.ofString "house")) = true by decide +kernel]
      refine iteT ⟨_, rfl, _, rfl, rfl, rfl, dd, _, .str part, rfl, edd2, rfl, _, rfl, rfl, rfl, dd, _, .int i, rfl, edd2, rfl, by show 2 ≤ sizeLine; decide, fun t ht => ⟨by show 2 ≤ sizeLine; decide, fun p hp => ?_⟩⟩
      exact k _ p t ((s10.trans (same_upd ht)).trans (same_upd hp)) (same_upd hp _ _ upd_same) upd_same
    · have edd2 := s10 _ _ edd2
      refine ⟨_, rfl, rfl, _, rfl, ?_⟩
      rw [show decide (V.str (errAt 9) = V.str (Str.ofString "house")) = false by decide +kernel]
      refine iteF ⟨_, rfl, rfl, _, rfl, ?_⟩
      rw [show decide (V.str (errAt 9) = V.str (Str.ofString "text")) = true by decide +kernel]
      refine iteT ⟨_, rfl, _, rfl, rfl, rfl, dd, _, .int i, rfl, edd2, rfl, by show 2 ≤ sizeLine; decide, fun p hp => ?_⟩
      exact k _ p (s10.trans (same_upd hp)) upd_same
    · have edd2 := s10 _ _ edd2
      have hj : j = 10 ∨ j = 11 := by omega
      have hx := EK'.x10 j hjJ j10
      refine ⟨_, rfl, rfl, _, rfl, ?_⟩
      rw [show decide (V.str (errAt j) = V.str (Str.ofString "house")) = false by rcases hj with rfl | rfl <;> decide +kernel]
      refine iteF ⟨_, rfl, rfl, _, rfl, ?_⟩
      rw [show decide (V.str (errAt j) = V.str (Str.ofString "text")) = false by rcases hj with rfl | rfl <;> decide +kernel]
      refine iteF ⟨_, rfl, _, rfl, by show 2 ≤ sizeLine; decide, fun lq hlq => ⟨lq, _, rfl, .inl (SqL.of upd_same), rfl, rfl, _, rfl, ?_⟩⟩
      have s11 := same_upd (o := .lst [V.str (Str.ofString "code"), V.str (Str.ofString "operation")]) hlq
      rw [show inV (V.str (errAt j)) [V.str (Str.ofString "code"), V.str (Str.ofString "operation")] = true by rcases hj with rfl | rfl <;> decide +kernel]
      refine iteT ⟨rfl, cs j, hx.1, hx.2, rfl, dd, _, .int i, rfl, s11 _ _ edd2, rfl, by show 2 ≤ sizeLine; decide, fun p hp => ?_⟩
      exact k _ p ((s10.trans s11).trans (same_upd hp)) upd_same
  obtain ⟨t, ht, hi⟩ := hh
  refine ⟨fun pins s' σ H' D I h => ?_⟩
  obtain ⟨⟨σ0, rfl⟩, h⟩ := h
  exact ht.run pins s' _ H' D I (hi D _ H' ⟨five I.len, h⟩)
theorem err_gives {X : Cx} {q : Str} {g : Addr} {cdg : Value} (N : TxtN X.mg cs CE) (EK' : ErK X.K cs CE J) (hu : X.A.units + 100 < cLine) :
    LamX.GivesTo X nErr "_law_error_of" (defScope sErrOf) g cdg (defBody sErrOf) "_law_call" q (TErr cs J) := by
  intro f c' s H Q tl act hc h
  have hd : (("HouseError" : Str) == ("__debug__" : Str)) = false := by decide
  refine ⟨_, pss_cons (ps_try_as (X := cxE X g cdg s H) (x := "HouseError") (n := "e") (c := .ref CE) (i := 1) (Wout := fun _ _ _ _ => False) (ts := fun a cls d => tsS cs J a cls d)
      (tb := fun W D σ H => ∃ Ech : XK, (∀ cls d σ' H', Ech cls d H' → W cls d σ' H') ∧ (∃ σ0 : L2.St, σ = σ0 ∧ σ[0]? = some (some (.ref f))) ∧ H c' = some (LamX.CodeO c' q) ∧ tl Ech H fun _ H1 => D.nx σ H1)
      rfl rfl scErr.nd rfl rfl ⟨rfl, hd, .inl N.gE⟩ LamX.takes0 (fun W pn xe tk _ => ?_) (fun a oe cls d pn hz hf => suite_ok N EK' hu hz hf)) (pss_one (ps_ret pe_non)), ?_⟩
  · refine ⟨fun pins s' σ H' D I h' => ?_⟩
    obtain ⟨Ech, hW, ⟨σ0, _, h1⟩, h2, h3⟩ := h'
    exact (show PSs ((cxE X g cdg s H).tr pn xe) bodyE (tDrop _) from pss_one (ps_expr (act W pn xe Ech _ _ tk hW))).run pins s' σ H' D I ⟨h1, h2, h3⟩
  · refine ⟨EErr cs J Q, fun cls d σ' H' hE => ?_, ⟨_, rfl, rfl⟩, hc, ?_⟩
    · refine ⟨true, ?_, fun _ a ha => ⟨⟨σ', rfl⟩, hE⟩, fun z => nomatch z⟩
      obtain ⟨j, hjJ, e, _⟩ := hE
      rw [e]; exact (EK'.kit j hjJ).ex
    · exact h
end
end Dk

set_option Elab.async false
set_option linter.all false
set_option maxRecDepth 100000
set_option maxHeartbeats 4000000
namespace Dk
open PySem PySem.Spec PyProof.Rows L2 TL
/-- a def whose code object is known -/
structure FunC (K : PySem.W.Frag) (x qual : Str) (st : Stmt) (f c : Addr) (fd : FuncData) : Prop where
  ex : ∃ (oc : Value) (od : Option Addr) (kV doc pm : Value) (an : Option Addr) (ct : Value) (osl : Array (Option Value)),
    fd = PySem.W.fnOf x qual (defArgs st) (defBody st) (defScope st) .none kV doc pm an (.ref c) ct ∧ K.lookup f = some ⟨oc, od, .func fd, osl⟩ ∧ PySem.W.codeIn K (.ref c) qual = true
theorem FunC.ok {P : Program} {w : World} {K : PySem.W.Frag} {mg : Str → Option Value} {base : Heap} {x qual : Str} {st : Stmt} {f c : Addr} {fd : FuncData} {N ps : List Str} {k : Nat} {sp : Sp} (F : FunC K x qual st f c fd) (S : FnScope N ps (defScope st)) (len : ∀ vs H Q E, sp vs H Q E → vs.length = ps.length)
    (hbody : ∀ (A : Around) (outer : List Env) (s : Shared) (H : Hp) (vs : List V) (Q : VK) (E : XK), Room k (A.deeper (envOfC qual (defScope st) s.heap.objs.size f (.ref c))) → sp vs H Q E →
      ∃ t, PSs (cxOf CX0 P w K mg base N qual (defScope st) f (.ref c) A outer s H E).nox (defBody st) t ∧ t { nx := fun _ H' => Q .non H', rt := Q } (start N vs) H) : FnOk P w K mg base CX0 (k + 1) f fd ps sp := by
  obtain ⟨oc, od, kV, doc, pm, an, ct, osl, rfl, lk, hcd⟩ := F.ex
  refine fn_of lk hcd S len fun A outer s H vs Q E hr hsp => ?_
  obtain ⟨t, h, q⟩ := hbody A outer s H vs Q E hr hsp
  exact ⟨t, h.nox, q⟩
end Dk

set_option Elab.async false
set_option linter.all false
set_option maxRecDepth 100000
set_option maxHeartbeats 1000000
namespace Dk
open PySem PySem.Spec PyProof.Rows L2 TL
/-! ### _law_error_of(lambda: ..) -/
theorem pe_errof {X : Cx} {cs : Nat → Addr} {J : List Nat} {CE fE c P : Addr} {fdE : FuncData} {T : List (Addr × Str)} {params : Arguments} {body : Expr} {scope : Scope} {t : XK → TE} {p lpos pos : Pos} {k : Nat} (N : TxtN X.mg cs CE) (EK : ErK X.K cs CE J)
    (hg : Gl X "_law_error_of") (hm : X.mg "_law_error_of" = some (.ref fE)) (FE : Fun X.K "_law_error_of" "_law_error_of" sErrOf fE fdE) (bE : Binds X.K fdE ["_law_call"] [])
    (TB : LamX.TabB X.base X.mg c P) (hcode : X.env.code = .ref c) (hmT : (P, X.env.qual ++ "<lambda>") ∈ T) (hu : ∀ p ∈ T, p.1 = P → p.2 = X.env.qual ++ "<lambda>") (hr : Room (k + 2) X.A) (L : LamX.LamS X.env.scope scope) (hdef : defaultsOf params X.env = ([], []))
    (hbind : ∀ (q : Str) (cl : List (Str × Addr)) (pm cv ctv : Value), bindArgs (PySem.W.kla_fn "<lambda>" q params body scope cl pm cv ctv) ⟨[], []⟩ = pure [])
    (hbody : ∀ (A : Around) (outer : List Env) (s : Shared) (H : Hp) (E : XK) (f c' : Addr), Room k (A.deeper (LamX.lamEnv X scope s.heap.objs.size f c')) → PE (LamX.lamCx X A outer s H E scope f c') body (t E)) :
    PE X (.Call (.Name "_law_error_of" p) [.Lambda params body scope lpos] [] pos) (LamX.tLam T (TErr cs J) t) := by
  obtain ⟨oc, od, kV, doc, pm, an, cdv, ct, osl, rfl, lk, hcd⟩ := FE.ex
  refine LamX.pe_lamcall (Ng := nErr) (a := "_law_call") (k := k) hg hm FE.kp lk hcd bE scErr rfl (.inl rfl) (err_gives N EK ?_) TB hcode hmT hu hr L hdef hbind hbody
  have := hr.un
  omega
end Dk

set_option Elab.async false
set_option linter.all false
set_option maxRecDepth 100000
set_option maxHeartbeats 2000000
namespace Dk
open PySem PySem.Spec PyProof.Rows L2 TL
/-! ### a def that may be called: its name, its promise -/
structure Cal (P : Program) (w : World) (K : PySem.W.Frag) (mg : Str → Option Value) (base : Heap) (k : Nat) (x : Str) (ps : List Str) (sp : Sp) : Prop where
  ex : ∃ f fd, mg x = some (.ref f) ∧ PySem.W.keepIn K (.ref f) = true ∧ Binds K fd ps [] ∧ FnOk P w K mg base CX0 k f fd ps sp
section
variable {X : Cx} {k : Nat} {x : Str} {ps : List Str} {sp : Sp} {p pos : Pos} {e : Expr} {es : List Expr} {t : TA}
theorem pe_cal (c : Cal X.prog X.w X.K X.mg X.base k x ps sp) (hr : Room k X.A) (hg : Gl X x) (ha : PA X (e :: es) t) (hdb : (x == ("__debug__" : Str)) = false := by decide) (he : starEach (e :: es) X.env = (false, eval e X.env) :: starEach es X.env := by rfl) (hpl : (backTo pos (starEach es X.env)).any (·.1) = false := by rfl) :
    PE X (.Call (.Name x p) (e :: es) [] pos) (tCall sp [] E0 t) := by
  obtain ⟨f, fd, g, kp, b, F⟩ := c.ex
  exact pe_call F hr hg g kp b .nil pass0 ha hdb he hpl
theorem pe_cal0 (c : Cal X.prog X.w X.K X.mg X.base k x ps sp) (hr : Room k X.A) (hg : Gl X x) (hdb : (x == ("__debug__" : Str)) = false := by decide) :
    PE X (.Call (.Name x p) [] [] pos) (tCall sp [] E0 tNil) := by
  obtain ⟨f, fd, g, kp, b, F⟩ := c.ex
  exact pe_call0 F hr hg g kp b .nil pass0 hdb
end
/-- a generator def -/
structure GCal (P : Program) (w : World) (K : PySem.W.Frag) (mg : Str → Option Value) (base : Heap) (k : Nat) (x : Str) (ps : List Str) (sp : SpG) : Prop where
  ex : ∃ f fd, mg x = some (.ref f) ∧ PySem.W.keepIn K (.ref f) = true ∧ Binds K fd ps [] ∧ GFn P w K mg base k f fd ps sp
theorem pgen_cal {X : Cx} {k : Nat} {x : Str} {ps : List Str} {sp : SpG} {p pos : Pos} {e : Expr} {es : List Expr} {t : TA} (c : GCal X.prog X.w X.K X.mg X.base k x ps sp) (hr : Room k X.A) (hg : Gl X x) (ha : PA X (e :: es) t) (hdb : (x == ("__debug__" : Str)) = false := by decide) (he : starEach (e :: es) X.env = (false, eval e X.env) :: starEach es X.env := by rfl) (hpl : (backTo pos (starEach es X.env)).any (·.1) = false := by rfl) :
    PGen X k (.Call (.Name x p) (e :: es) [] pos) (tCallG sp [] E0 t) E0 := by
  obtain ⟨f, fd, g, kp, b, F⟩ := c.ex
  exact pgen_call F hr hg g kp b .nil ha hdb he hpl
end Dk

set_option Elab.async false
set_option linter.all false
set_option maxRecDepth 100000
set_option maxHeartbeats 2000000
namespace Dk
open PySem PySem.Spec PyProof.Rows L2 TL
/-! ### l[::-1] -/
def RevO (p : Addr) : HO := .ext fun h => ∃ t, h.IsSliceOf p .none .none (.int (-1) t)
def tRevS (te : TE) : TE := fun σ H Q => te σ H fun x H1 => x = .int (-1) ∧ ∀ p, H1 p = none → Q (.ref p) (upd H1 p (RevO p))
def rRev (K : PySem.W.Frag) : R2 := fun x y H Q => ∃ a p xs, x = .ref a ∧ y = .ref p ∧ SqL K H a xs ∧ H p = some (RevO p) ∧ ∀ q, H q = none → Q (.ref q) (upd H q (.lst xs.reverse))
section
variable {X : Cx} {e : Expr} {te : TE} {pos : Pos}
theorem pe_revS (he : PE X e te) : PE X (.Slice none none (some e) pos) (tRevS te) := by
  refine ⟨fun pins s σ H Q I h => ?_⟩
  refine wpAny_Slice (wpAny_evalPart_none (wpAny_evalPart_none (evalPart_some_step (thn (he.run pins s σ H _ I h) fun v s1 ⟨x, H1, I1, rx, ex, q⟩ => ?_))))
  subst ex
  obtain ⟨t, rfl⟩ := rx
  refine ⟨.ref s1.heap.objs.size, _, I1.laid (a := s1.heap.objs.size) (o := RevO s1.heap.objs.size) (t' := s1.toks) (fun _ _ q => Heap.get?_push_of_some _ q) (Nat.le_refl _) ?_, rfl, q _ (I1.hok.fresh (Nat.le_refl _))⟩
  refine ⟨⟨t, _, Heap.get?_push_size _ rfl, rfl, rfl⟩, ⟨_, Heap.get?_push_size _ rfl⟩, ?_⟩
  rintro h1 h2 ⟨t, o, g, g1, g2⟩ k
  exact ⟨t, o, k _ g, g1, g2⟩
theorem pe_rev {K : PySem.W.Frag} {b : Expr} {tb : TE} (hK : X.K = K) (he : PE X e te) (hb : PE X b tb) (hs : PlainIx b) (ht : ∀ o r : Value, letTemporaryGo e o r = pure ()) : PE X (.Subscript e b pos) (tOp (rRev K) te tb) := by
  subst hK
  refine ⟨fun pins s σ H Q I h => ?_⟩
  refine Subscript_ (thn (he.run pins s σ H _ I h) fun v s1 ⟨x, H1, I1, rx, q1⟩ => thn (hb.run pins s1 σ H1 _ I1 q1) fun u s2 ⟨y, H2, I2, ry, a, p, xs, ex, ey, ea, ep, q⟩ => ?_)
  subst ex ey
  obtain rfl : v = Value.ref a := rx
  obtain rfl : u = Value.ref p := ry
  obtain ⟨⟨t, hp⟩, _⟩ := (show ObjOk X.prog X.w H2 s2.heap p (RevO p) from I2.hok p _ ep)
  obtain ⟨its, r, hl, hz⟩ := I2.list ea
  have hlen := r.length
  refine subscriptTail_ops (s := s2) (T := "list") (id := "list.__getitem__") hl.isList.typeIs slot_list_getitem.lookup (wpAny_getItem_list_slice hl.isList hp .none .none (.int (-1) t) (by decide) ?_ (by rw [List.size_toArray, ← hlen]; exact hz)) (hs _ _) (ht _)
  rw [PySem.W.krv_pick]
  have hv : Vals xs.reverse its.reverse := by
    have key : ∀ {xs : List V} {us : List Value}, Vals xs us → ∀ {ys : List V} {vs : List Value}, Vals ys vs → Vals (xs.reverseAux ys) (us.reverseAux vs) := by
      intro xs us h
      induction h with
      | nil => intro ys vs k; exact k
      | cons a b ih => intro ys vs k; exact ih (.cons a k)
    exact key r .nil
  refine ⟨.ref s2.heap.objs.size, upd H2 s2.heap.objs.size (.lst xs.reverse), I2.laid (a := s2.heap.objs.size) (t' := s2.toks) (fun _ _ q => Heap.get?_push_of_some _ q) (Nat.le_refl _) ⟨by rw [List.length_reverse]; exact hz, its.reverse, 0, hv, Heap.get?_push_size _ rfl⟩, rfl, q _ (I2.hok.fresh (Nat.le_refl _))⟩
end
/-! ### `>` of data, text times n -/
def rGtD (K : PySem.W.Frag) : R2 := fun x y H Q => ∃ d e, Dp K H x d ∧ Dp K H y e ∧ PySem.W.alike d e = true ∧ d ≠ .none ∧ d.depth ≤ 64 ∧ Q (.bl (PySem.W.dataLt e d)) H
theorem op_gtD {X : Cx} {K : PySem.W.Frag} (hK : X.K = K) (hu : X.A.units + 64 < cLine) : OpR X (compareOp .Gt) (rGtD K) := by
  subst hK
  intro pins s σ H x y v u Q I rx ry h
  obtain ⟨d, e, hd, he, ha, hn, hz, q⟩ := h
  obtain ⟨as, r1⟩ := Dp.reads I d x v hd rx
  obtain ⟨bs, r2⟩ := Dp.reads I e y u he ry
  refine PySem.W.gt_data r1 r2 ha hn ?_ ⟨.bl _, H, I, rfl, q⟩
  have := Nat.min_le_left d.depth e.depth
  omega
def rMulS : R2 := fun x y H Q => ∃ (a : Str) (n : Int), x = .str a ∧ y = .int n ∧ PySem.MulOk a n ∧ Q (.str (PySem.Txt.mul a n)) H
theorem op_mulStr {X : Cx} : OpR X (binaryOp .Mult) rMulS := by
  intro pins s σ H x y v u Q I rx ry h
  obtain ⟨a, n, rfl, rfl, ho, q⟩ := h
  obtain ⟨t, rfl⟩ := rx
  obtain ⟨t2, rfl⟩ := ry
  exact PySem.SB.mul ho fun t' k => ⟨.str _, H, I.kept (t' := k) (fun _ _ z => z), ⟨t', rfl⟩, q⟩
/-! ### _law_length of a list -/
def spLengthL (K : PySem.W.Frag) : Sp := fun vs H Q _ => ∃ (a : Addr) (ts : List Str), vs = [.ref a] ∧ SqL K H a (ts.map V.str) ∧ Tabs ts ∧ ts.length ≤ 6 ∧ ∀ H', Same H H' → Q (.int ((per ts : Nat) : Int)) H'
section
variable {P : Program} {w : World} {K : PySem.W.Frag} {mg : Str → Option Value} {base : Heap}
theorem ok_lengthL {f : Addr} {fd : FuncData} (F : Fun K "_law_length" "_law_length" sLength f fd) (T : TxtA mg) : FnOk P w K mg base CX0 1 f fd ["_law_tables"] (spLengthL K) := by
  refine F.ok scLength (fun vs H Q E h => ?_) (fun cdv A outer s H vs Q E hr h => ?_)
  · obtain ⟨a, ts, rfl, _⟩ := h
    rfl
  · obtain ⟨a, ts, rfl, hS, hT, hl6, k⟩ := h
    refine ⟨_, pss_cons (ps_set (i := 1) scLength.nd rfl (.inr rfl) pe_int)
      (pss_cons (ps_while PassesOwn.never (pt_cmpR (op_neD hr.units) (pe_lc (own := [("_law_table_here", 2)]) (g := gName 2) (by rfl) scLength.nd (pi_list (pv 0)) (blkOk_by (N := ["_law_tables", "_law_length_here", "_law_table_here"]) (sc := defScope sLength) (by decide +kernel))
          (fun _ _ _ _ _ => pg_name (i := 2) scLength.nd rfl (Or.inl rfl)) (fun _ _ _ _ _ => pts_one (pt_cmpR op_gt (pe_op op_modN (pv 1) (pe_callB call_len_str (by rfl) T.len PySem.boot_len (pa_cons (pv 2) pa_nil))) pe_int (nomark _))) (fun _ _ _ _ _ => pv 2)) (pe_lst pa_nil) (nomark _))
        (pss_one (ps_set (i := 1) scLength.nd rfl (.inr rfl) (pe_op op_add (pv 1) pe_int))))
      (pss_one (ps_ret (pv 1)))), ?_⟩
    refine ⟨fun m σ H' => ∃ n : Nat, σ = [some (.ref a), some (.int (n : Int)), none] ∧ Same H H' ∧ 1 ≤ n ∧ n ≤ per ts ∧ m = per ts - n, ⟨_, 1, rfl, Same.refl H, Nat.le_refl _, per_pos hT, rfl⟩, ?_⟩
    rintro m σ H' ⟨n, rfl, s1, h1, h2, rfl⟩
    have hS1 := Same.seq s1 hS
    refine ⟨_, rfl, a, rfl, ⟨_, hS1⟩, fun D hD => lc_list (K := K) (a := a) (xs := ts.map V.str)
      (fun i H3 => ∃ ys : List Str, Same H' H3 ∧ H3 D = some (.lst (ys.map V.str)) ∧ ys = (ts.take i).filter (fun t => decide (¬ (tl t).length ∣ n)) ∧ ys.length ≤ i)
      ⟨[], same_upd hD, upd_same, rfl, Nat.le_refl _⟩ (fun i H3 _ ⟨_, e, _⟩ => Same.seq e hS1) ?_ ?_⟩
    · rintro i y H3 hi ⟨ys, s3, eD, hys, hyl⟩
      obtain ⟨t, ht, rfl⟩ := map_at hi
      have hil : i < ts.length := (List.getElem?_eq_some_iff.mp ht).1
      have hit := hT t (List.mem_of_getElem? ht)
      have hlen : t.length = (tl t).length := len_tl t
      refine ⟨rfl, _, rfl, _, rfl, _, rfl, hit.size, _, _, rfl, rfl, (by have := hit.pos.1; omega), _, _, rfl, rfl, _, rfl, ite2 (fun c => ?_) (fun c => ?_)⟩
      · have c' := of_decide_eq_true c
        rw [hlen, fmod_pos hit.pos.1] at c'
        refine ⟨_, rfl, _, eD, ?_, ys ++ [t], fun b o eb => ?_, ?_, ?_, ?_⟩
        · rw [List.length_map]; exact Nat.lt_of_le_of_lt (by omega : ys.length ≤ 1000) (by decide)
        · rw [upd_ne (ne_of_none eb hD)]; exact s3 _ _ eb
        · rw [upd_same]; simp
        · rw [take_more ht, List.filter_append, ← hys, show List.filter (fun t => decide (¬ (tl t).length ∣ n)) [t] = [t] from filt1 (decide_eq_true c')]
        · rw [List.length_append, List.length_singleton]; omega
      · have c' : ¬ (0 < (n : Int).fmod (t.length : Int)) := fun q => c (decide_eq_true q)
        rw [hlen, fmod_pos hit.pos.1] at c'
        refine ⟨ys, s3, eD, ?_, by omega⟩
        rw [take_more ht, List.filter_append, ← hys, show List.filter (fun t => decide (¬ (tl t).length ∣ n)) [t] = [] from filt0 (decide_eq_false c'), List.append_nil]
    · rintro H3 ⟨ys, s3, eD, hys, hyl⟩
      rw [List.length_map, List.take_length] at hys
      refine ⟨Nat.zero_le _, fun l hl => ?_⟩
      have eD2 := same_upd (o := .lst []) hl _ _ eD
      have hTy : Tabs ys := fun t ht => hT t (by rw [hys] at ht; exact (List.mem_filter.mp ht).1)
      refine ⟨.list (ys.map PyData.str), .list [], .lst (SqL.of eD2) (dpAll_strs ys), .lst (SqL.of upd_same) .nil, shaped_strs hTy, by decide, _, rfl, ?_⟩
      rw [eqv_strs]
      have s5 : Same H (upd H3 l (.lst [])) := (s1.trans s3).trans (same_upd hl)
      cases hy : ys with
      | nil =>
        refine iteF ⟨_, rfl, ?_⟩
        have all : ∀ t ∈ ts, (tl t).length ∣ n := fun t ht => by
          by_cases d : (tl t).length ∣ n
          · exact d
          · have : t ∈ ys := by rw [hys]; exact List.mem_filter.mpr ⟨ht, decide_eq_true d⟩
            rw [hy] at this
            cases this
        have e : n = per ts := Nat.le_antisymm h2 (Nat.le_of_dvd h1 (per_min all))
        rw [e]
        exact k _ s5
      | cons t0 ys' =>
        refine iteT ?_
        have hne : n ≠ per ts := fun e => by
          have hm : t0 ∈ ts.filter (fun t => decide (¬ (tl t).length ∣ n)) := by rw [← hys, hy]; exact List.mem_cons_self ..
          have := List.mem_filter.mp hm
          exact (of_decide_eq_true this.2) (by rw [e]; exact dvd_per this.1)
        refine ⟨fun σ' H'' => ∃ n' : Nat, σ' = [some (.ref a), some (.int (n' : Int)), none] ∧ Same H H'' ∧ 1 ≤ n' ∧ n' ≤ per ts ∧ n' = n + 1, fun σ' H'' ⟨n', e1, e2, e3, e4, e5⟩ => ⟨per ts - n', by omega, n', e1, e2, e3, e4, rfl⟩, ?_⟩
        exact ⟨_, rfl, _, _, rfl, rfl, n + 1, rfl, s5, by omega, by omega, rfl⟩
end
end Dk

set_option Elab.async false
set_option linter.all false
set_option maxRecDepth 100000
set_option maxHeartbeats 4000000
namespace Dk
open PySem PySem.Spec PyProof.Rows L2 TL
/-! ### _law_checks -/
theorem wrong_head (h g : Hd) : ∀ (m s : Nat), wrongAt g s ((List.range' s m).map fun t => some (waitAt h t)) = ((List.range' s m).filter fun k => decide (waitAt h k ≠ waitAt g k)).head?
  | 0, s => rfl
  | m + 1, s => by
    rw [List.range'_succ, List.map_cons, List.filter_cons]
    by_cases c : waitAt h s = waitAt g s
    · rw [if_neg (by simp [c])]
      show (if some (waitAt h s) = some (waitAt g s) then _ else _) = _
      rw [if_pos (by rw [c])]
      exact wrong_head h g m (s + 1)
    · rw [if_pos (by simp [c])]
      show (if some (waitAt h s) = some (waitAt g s) then _ else _) = _
      rw [if_neg (fun z => c (Option.some.inj z))]
      rfl
theorem wrong_some {h : Hd} {o : Option (List Int)} : ∀ {os : List (Option (List Int))} {i k : Nat}, (∀ j, j < k → os[j]? = some (some ((stt h (i + j + 1)).wait))) → os[k]? = some o → o ≠ some ((stt h (i + k + 1)).wait) → wrongAt h i os = some (i + k)
  | [], i, k, _, h2, _ => by cases h2
  | x :: os, i, 0, _, h2, h3 => by
    have e : x = o := Option.some.inj h2
    show (if x = some ((stt h (i + 1)).wait) then _ else _) = _
    rw [if_neg (fun z => h3 (by rw [← e]; exact z))]; rfl
  | x :: os, i, k + 1, h1, h2, h3 => by
    have e : x = some ((stt h (i + 1)).wait) := Option.some.inj (h1 0 (Nat.succ_pos k))
    show (if x = some ((stt h (i + 1)).wait) then _ else _) = _
    rw [if_pos e, wrong_some (i := i + 1) (k := k) (fun j hj => by
      have := h1 (j + 1) (by omega)
      rw [show i + 1 + j + 1 = i + (j + 1) + 1 by omega]; exact this) h2 (by rw [show i + 1 + k + 1 = i + (k + 1) + 1 by omega]; exact h3)]
    congr 1
    omega
def spChecks (K : PySem.W.Frag) (CH : Addr) : Sp := fun vs H Q _ => ∃ (d hl cl h0 h1 : Addr) (c0 c1 : V) (st : List Int) (k0 k1 : Int) (g0 g1 : Hd) (b0 n0 b1 n1 : Nat), vs = [.ref d, .ref hl, .ref cl] ∧ H d = some (.lst (st.map V.int)) ∧ Good st ∧ H hl = some (.lst [.ref h0, .ref h1]) ∧ H cl = some (.lst [c0, c1]) ∧
  HoAt K CH H h0 g0 ∧ HoAt K CH H h1 g1 ∧ CyAt d H c0 k0 g0 b0 n0 ∧ CyAt d H c1 k1 g1 b1 n1 ∧ Tabs g0.ts ∧ Tabs g1.ts ∧ g0.ts.length ≤ 3 ∧ g1.ts.length ≤ 3 ∧ hl ≠ d ∧ cl ≠ d ∧ ∀ (H' : Hp) (st' : List Int), Kp d H H' → H' d = some (.lst (st'.map V.int)) → Good st' → Q (.bl true) H'
abbrev nChecks : List Str := ["_law_d", "_law_houses", "_law_cycles", "_law_log", "_law_wrong", "_law_found", "_law_bad", "_law_tick_here"]
/-- the log: tuples at the list's items -/
def LogAt (H : Hp) (g : Hd) (xs : List V) (m : Nat) : Prop := xs.length = m ∧ ∀ j, j < m → ∃ a, xs[j]? = some (.ref a) ∧ H a = some (.tup ((waitAt g j).map V.int))
theorem LogAt.mono {H H' : Hp} {g : Hd} {xs : List V} {m : Nat} (x : LogAt H g xs m) (s : ∀ a ys, H a = some (.tup ys) → H' a = some (.tup ys)) : LogAt H' g xs m := ⟨x.1, fun j hj => by
  obtain ⟨a, e1, e2⟩ := x.2 j hj
  exact ⟨a, e1, s _ _ e2⟩⟩
theorem wlen3 (h : Hd) (n : Nat) (h6 : h.ts.length ≤ 6) : (waitAt h n).length ≤ 6 := by
  have g := gd_stt h (n + 1)
  have := up_len g.wu g.wi
  unfold waitAt; omega
theorem pair_map_of {α β : Type} {R : V → β → Prop} {f : Nat → β} : ∀ {xs : List V} {s : Nat}, (∀ j x, xs[j]? = some x → R x (f (s + j))) → Paired R xs ((List.range' s xs.length).map f)
  | [], s, _ => .nil
  | x :: xs, s, h => by
    rw [List.length_cons, List.range'_succ, List.map_cons]
    refine .cons (h 0 x rfl) (pair_map_of (α := α) (s := s + 1) fun j y hy => ?_)
    have := h (j + 1) y hy
    rw [show s + 1 + j = s + (j + 1) by omega]
    exact this
theorem pair_app2 {α β : Type} {R : α → β → Prop} : ∀ {xs : List α} {ys : List β} {xs' : List α} {ys' : List β}, Paired R xs ys → Paired R xs' ys' → Paired R (xs ++ xs') (ys ++ ys')
  | _, _, _, _, .nil, h => h
  | _, _, _, _, .cons a q, h => .cons a (pair_app2 q h)
theorem LogAt.paired {K : PySem.W.Frag} {H : Hp} {g : Hd} {xs : List V} {m : Nat} (x : LogAt H g xs m) (h6 : g.ts.length ≤ 6) : Paired (fun v o => ItemAt K H v o) xs ((List.range' 0 m).map fun t => some (waitAt g t)) := by
  obtain ⟨hl, hx⟩ := x
  subst hl
  refine pair_map_of (α := Nat) fun j y hy => ?_
  obtain ⟨a, e1, e2⟩ := hx j (List.getElem?_eq_some_iff.mp hy).1
  rw [hy] at e1
  rw [Nat.zero_add]
  exact ⟨a, Option.some.inj e1, SqT.of e2, by have := wlen3 g j h6; omega⟩
section
variable {P : Program} {w : World} {K : PySem.W.Frag} {mg : Str → Option Value} {base : Heap} {CH : Addr}
theorem scChecks : FnScope nChecks ["_law_d", "_law_houses", "_law_cycles"] (defScope sChecks) := ⟨rfl, rfl, rfl, by decide +kernel, rfl, by decide +kernel, by decide +kernel⟩
structure UseC (P : Program) (w : World) (K : PySem.W.Frag) (mg : Str → Option Value) (base : Heap) (CH : Addr) : Prop where
  T : TxtA mg
  cB : Cal P w K mg base 1 "_law_below" ["_law_d", "_law_limit"] spBelow
  cAt : Cal P w K mg base 1 "_law_at" ["_law_cycle_here", "_law_tick_here"] spLawAt
  cFe : Cal P w K mg base 6 "first_error" ["house", "log"] (spFirstE2 K CH)
  cEq : Cal P w K mg base 5 "_law_equal" ["_law_actual", "_law_expected"] (spEM K 4)
/-- a bad item -/
theorem checks_b {f : Addr} {cdv : Value} {A : Around} {outer : List Env} {s : Shared} {H0 : Hp} {E : XK} (hr : Room 6 (A.deeper (envOfC (Str.ofString "_law_checks") (defScope sChecks) s.heap.objs.size f cdv))) (U : UseC P w K mg base CH) :
    ∃ tm, PSs (cxOf CX0 P w K mg base nChecks "_law_checks" (defScope sChecks) f cdv A outer s H0 E).nox ((defBody sChecks).drop 4) tm ∧ ∀ (D : Ends) (H : Hp) (v2 v4 v5 v6 v7 : Option V) (d hl h0 h1 lg : Addr) (st : List Int) (g0 : Hd) (xs : List V) (m : Nat),
      H d = some (.lst (st.map V.int)) → Good st → H hl = some (.lst [.ref h0, .ref h1]) → HoAt K CH H h0 g0 → Tabs g0.ts → g0.ts.length ≤ 3 → hl ≠ d → H lg = some (.lst xs) → lg ≠ d → LogAt H g0 xs m → m ≤ 60 →
      (∀ (H' : Hp) (st' : List Int), Kp d H H' → H' d = some (.lst (st'.map V.int)) → Good st' → D.rt (.bl true) H') →
      tm D [some (.ref d), some (.ref hl), v2, some (.ref lg), v4, v5, v6, v7] H := by
  have hr1 : Room 1 (A.deeper (envOfC (Str.ofString "_law_checks") (defScope sChecks) s.heap.objs.size f cdv)) := hr.mono (by decide)
  have hr5 : Room 5 (A.deeper (envOfC (Str.ofString "_law_checks") (defScope sChecks) s.heap.objs.size f cdv)) := hr.mono (by decide)
  have hr6 := hr
  have T := U.T
  refine ⟨_, by
    exact (pss_cons (ps_set (i := 6) scChecks.nd rfl (.inl rfl) (pe_ix ix_list (pe_lst (pa_cons (pe_lst (pa_cons pe_int pa_nil)) (pa_cons pe_non (pa_cons pe_int (pa_cons pe_str (pa_cons (pe_tup (pa_cons pe_int (pa_cons pe_int pa_nil))) (pa_cons (pe_tup (pa_cons pe_int pa_nil)) (pa_cons (pe_tup (pa_cons pe_int pa_nil)) pa_nil)))))))) (pe_cal U.cB hr1 (by rfl) (pa_cons (pv 0) (pa_cons pe_int pa_nil))) (fun _ _ => rfl)))
      (pss_one (ps_ret (pe_cal U.cEq hr5 (by rfl) (pa_cons (pe_lst (pa_cons (pe_cal U.cFe hr6 (by rfl) (pa_cons (pe_ix ix_list (pv 1) pe_int (fun _ _ => rfl)) (pa_cons (pe_op op_cat (pv 3) (pe_lst (pa_cons (pv 6) pa_nil))) pa_nil))) (pa_cons (pe_cal U.cFe hr6 (by rfl) (pa_cons (pe_ix ix_list (pv 1) pe_int (fun _ _ => rfl)) (pa_cons (pv 6) pa_nil))) pa_nil))) (pa_cons (pe_lst (pa_cons (pe_callB call_len_seq (by rfl) T.len PySem.boot_len (pa_cons (pv 3) pa_nil)) (pa_cons pe_int pa_nil))) pa_nil)))))), ?_⟩
  intro D H v2 v4 v5 v6 v7 d hl h0 h1 lg st g0 xs m hd hg ehl ho hT h3 nhl elg nlg hlog hm k
  -- the bad items
  refine ⟨by show 1 ≤ sizeLine; decide, fun q1 hq1 => ?_⟩
  have s1 := same_upd (o := .lst [.int 0]) hq1
  have e1 : (upd H q1 (.lst [.int 0])) q1 = some (.lst [.int 0]) := upd_same
  have nq1 : q1 ≠ d := (ne_of_none hd hq1).symm
  generalize upd H q1 (.lst [.int 0]) = H1 at s1 e1
  refine ⟨by show 2 ≤ sizeLine; decide, fun q2 hq2 => ?_⟩
  have s2 := same_upd (o := .tup [.int 0, .int 0]) hq2
  have e2 : (upd H1 q2 (.tup [.int 0, .int 0])) q2 = some (.tup [.int 0, .int 0]) := upd_same
  have e1 := s2 _ _ e1
  have s2 := s1.trans s2
  generalize upd H1 q2 (.tup [.int 0, .int 0]) = H2 at s2 e2 e1
  refine ⟨by show 1 ≤ sizeLine; decide, fun q3 hq3 => ?_⟩
  have s3 := same_upd (o := .tup [.int 9]) hq3
  have e3 : (upd H2 q3 (.tup [.int 9])) q3 = some (.tup [.int 9]) := upd_same
  have e1 := s3 _ _ e1
  have e2 := s3 _ _ e2
  have s3 := s2.trans s3
  generalize upd H2 q3 (.tup [.int 9]) = H3 at s3 e3 e2 e1
  refine ⟨by show 1 ≤ sizeLine; decide, fun q4 hq4 => ?_⟩
  have s4 := same_upd (o := .tup [.int 8]) hq4
  have e4 : (upd H3 q4 (.tup [.int 8])) q4 = some (.tup [.int 8]) := upd_same
  have e1 := s4 _ _ e1
  have e2 := s4 _ _ e2
  have e3 := s4 _ _ e3
  have s4 := s3.trans s4
  generalize upd H3 q4 (.tup [.int 8]) = H4 at s4 e4 e3 e2 e1
  refine ⟨by show 7 ≤ sizeLine; decide, fun L hL => ?_⟩
  have s5 := same_upd (o := .lst [.ref q1, .non, .int 5, .str (Str.ofString "0"), .ref q2, .ref q3, .ref q4]) hL
  have eL : (upd H4 L (.lst [.ref q1, .non, .int 5, .str (Str.ofString "0"), .ref q2, .ref q3, .ref q4])) L = some (.lst [.ref q1, .non, .int 5, .str (Str.ofString "0"), .ref q2, .ref q3, .ref q4]) := upd_same
  have e1 := s5 _ _ e1
  have e2 := s5 _ _ e2
  have e3 := s5 _ _ e3
  have e4 := s5 _ _ e4
  have nL : L ≠ d := (ne_of_none (s4 _ _ hd) hL).symm
  have s5 := s4.trans s5
  generalize upd H4 L (.lst [.ref q1, .non, .int 5, .str (Str.ofString "0"), .ref q2, .ref q3, .ref q4]) = H5 at s5 eL e4 e3 e2 e1
  have hd5 := s5 _ _ hd
  refine ⟨_, rfl, d, 7, st, rfl, hd5, hg, by decide, by decide, fun H6 st6 r k6 hd6 hg6 r0 r1 => ?_⟩
  have e1 := k6 _ _ nq1 e1
  have e2 := kp_tup k6 hd5 _ _ e2
  have e3 := kp_tup k6 hd5 _ _ e3
  have e4 := kp_tup k6 hd5 _ _ e4
  have eL := k6 _ _ nL eL
  have ho6 := (ho.mono s5).kpl k6 hd5
  have ehl6 := k6 _ _ nhl (s5 _ _ ehl)
  have elg6 := k6 _ _ nlg (s5 _ _ elg)
  have hlog6 := hlog.mono fun a ys z => kp_tup k6 hd5 _ _ (s5 _ _ z)
  have k06 : Kp d H H6 := (sKp s5).trans k6
  have h6 : g0.ts.length ≤ 6 := by omega
  have win : ∀ n p, p ∈ waitAt g0 n → p < 3 := fun n p hp => by
    have := (gd_stt g0 (n + 1)).wi p hp
    omega
  have wup : ∀ n, Up (waitAt g0 n) := fun n => (gd_stt g0 (n + 1)).wu
  obtain ⟨v, o, ea, hi, hne, hv⟩ : ∃ (v : V) (o : Option (List Int)), atI [.ref q1, .non, .int 5, .str (Str.ofString "0"), .ref q2, .ref q3, .ref q4] r = some v ∧ ItemAt K H6 v o ∧ o ≠ some (waitAt g0 m) ∧ ((∃ dd, Dp K H6 v dd ∧ ∀ ds, dd ≠ .list ds) ∨ v = .ref q1) := by
    obtain ⟨j, rfl⟩ := Int.eq_ofNat_of_zero_le r0
    have hj : j = 0 ∨ j = 1 ∨ j = 2 ∨ j = 3 ∨ j = 4 ∨ j = 5 ∨ j = 6 := by omega
    rcases hj with rfl | rfl | rfl | rfl | rfl | rfl | rfl
    · exact ⟨.ref q1, none, at0, ⟨.list [.int 0], .lst (SqL.of e1) (.cons (.int 0) .nil), fun ds z => by cases z⟩, (fun z => by cases z), .inr rfl⟩
    · exact ⟨.non, none, at1, ⟨.none, .non, fun ds z => by cases z⟩, (fun z => by cases z), .inl ⟨.none, .non, fun ds z => by cases z⟩⟩
    · exact ⟨.int 5, none, at2, ⟨.int 5, .int 5, fun ds z => by cases z⟩, (fun z => by cases z), .inl ⟨.int 5, .int 5, fun ds z => by cases z⟩⟩
    · exact ⟨_, none, atI_nat (j := 3) rfl, ⟨_, .str (Str.ofString "0"), fun ds z => by cases z⟩, (fun z => by cases z), .inl ⟨_, .str (Str.ofString "0"), fun ds z => by cases z⟩⟩
    · refine ⟨.ref q2, some [0, 0], atI_nat (j := 4) rfl, ⟨q2, rfl, SqT.of e2, by decide⟩, (fun z => ?_), .inl ⟨.tuple [.int 0, .int 0], .tup (SqT.of e2) (.cons (.int 0) (.cons (.int 0) .nil)), fun ds z => by cases z⟩⟩
      have hu := wup m
      rw [← Option.some.inj z] at hu
      have := (List.pairwise_cons.mp hu).1 0 (by simp)
      omega
    · refine ⟨.ref q3, some [9], atI_nat (j := 5) rfl, ⟨q3, rfl, SqT.of e3, by decide⟩, (fun z => ?_), .inl ⟨.tuple [.int 9], .tup (SqT.of e3) (.cons (.int 9) .nil), fun ds z => by cases z⟩⟩
      have := win m 9 (by rw [← Option.some.inj z]; simp)
      omega
    · refine ⟨.ref q4, some [8], atI_nat (j := 6) rfl, ⟨q4, rfl, SqT.of e4, by decide⟩, (fun z => ?_), .inl ⟨.tuple [.int 8], .tup (SqT.of e4) (.cons (.int 8) .nil), fun ds z => by cases z⟩⟩
      have := win m 8 (by rw [← Option.some.inj z]; simp)
      omega
  refine ⟨L, _, r, v, rfl, rfl, SqL.of eL, ea, ?_⟩
  clear e2 e3 e4 s5 k6
  -- the log and the bad item
  refine ⟨_, rfl, hl, _, 0, _, rfl, rfl, SqL.of ehl6, at0, _, rfl, _, rfl, by show 1 ≤ sizeLine; decide, fun b1 hb1 => ?_⟩
  have t1 := same_upd (o := .lst [v]) hb1
  have f1 : (upd H6 b1 (.lst [v])) b1 = some (.lst [v]) := upd_same
  have elg7 := t1 _ _ elg6
  generalize upd H6 b1 (.lst [v]) = H7 at t1 f1 elg7
  refine ⟨lg, b1, xs, [v], rfl, rfl, elg7, f1, Nat.le_trans (by rw [hlog.1]; show m + 1 ≤ 1000; omega) (by decide), fun b2 hb2 => ?_⟩
  have t2 := t1.trans (same_upd (o := .lst (xs ++ [v])) hb2)
  have f2 : (upd H7 b2 (.lst (xs ++ [v]))) b2 = some (.lst (xs ++ [v])) := upd_same
  generalize upd H7 b2 (.lst (xs ++ [v])) = H8 at t2 f2
  have hlog8 := hlog6.mono fun a ys z => t2 _ _ z
  have hp8 : Paired (fun x o => ItemAt K H8 x o) (xs ++ [v]) (((List.range' 0 m).map fun t => some (waitAt g0 t)) ++ [o]) := pair_app2 (hlog8.paired h6) (.cons (hi.mono t2) .nil)
  have ew : wrongAt g0 0 (((List.range' 0 m).map fun t => some (waitAt g0 t)) ++ [o]) = some m := by
    have := wrong_some (h := g0) (o := o) (os := ((List.range' 0 m).map fun t => some (waitAt g0 t)) ++ [o]) (i := 0) (k := m) (fun j hj => by
      rw [List.getElem?_append_left (by rw [List.length_map, List.length_range']; exact hj), List.getElem?_map, List.getElem?_range' hj]
      simp [waitAt]) (by
      rw [List.getElem?_append_right (by rw [List.length_map, List.length_range']; omega), List.length_map, List.length_range', Nat.sub_self]; rfl) (by rw [Nat.zero_add]; exact hne)
    rw [Nat.zero_add] at this
    exact this
  refine ⟨h0, .ref b2, g0, rfl, ho6.mono t2, hT, h6, .inr ⟨b2, _, _, rfl, f2, by rw [List.length_append, hlog.1]; show m + 1 ≤ 100000; omega, hp8, fun H9 t3 => ?_⟩⟩
  rw [ew]
  have t03 := t2.trans t3
  have rest : ∀ (H' : Hp) (Q : VK), Same H9 H' → (∀ H2, Same H' H2 → Q (.int 0) H2) → spFirstE2 K CH [.ref h0, v] H' Q E0 := fun H' Q s' hQ => by
    have ho' := ho6.mono (t03.trans s')
    rcases hv with ⟨dd, hdd, hn⟩ | rfl
    · exact ⟨h0, v, g0, rfl, ho', hT, h6, .inl ⟨dd, dpSame (t03.trans s') _ _ hdd, hn, hQ⟩⟩
    · exact ⟨h0, .ref q1, g0, rfl, ho', hT, h6, .inr ⟨q1, [.int 0], [none], rfl, (t03.trans s') _ _ e1, by decide, .cons ⟨.int 0, .int 0, fun ds z => by cases z⟩ .nil, fun H2 s2 => hQ H2 s2⟩⟩
  refine ⟨_, rfl, hl, _, 0, _, rfl, rfl, SqL.of (t03 _ _ ehl6), at0, _, rfl, ?_⟩
  dsimp only [tNil]
  refine rest H9 _ (Same.refl _) fun H10 t4 => ?_
  refine ⟨by show 2 ≤ sizeLine; decide, fun b3 hb3 => ?_⟩
  have t5 := (t03.trans t4).trans (same_upd (o := .lst [.int (m : Int), .int 0]) hb3)
  have f3 : (upd H10 b3 (.lst [.int (m : Int), .int 0])) b3 = some (.lst ([(m : Int), 0].map V.int)) := upd_same
  have f3' : wrongV (some m) = .int (m : Int) := rfl
  rw [f3']
  generalize upd H10 b3 (.lst [.int (m : Int), .int 0]) = H11 at t5 f3
  refine ⟨_, rfl, lg, xs, rfl, .inl (SqL.of (t5 _ _ elg6)), ?_⟩
  rw [hlog.1]
  refine ⟨by show 2 ≤ sizeLine; decide, fun b4 hb4 => ?_⟩
  have t6 := same_upd (o := .lst [.int (m : Int), .int 0]) hb4
  refine ⟨_, _, .list (dI [(m : Int), 0]), rfl, ints_dp (t6 _ _ f3), ints_dp (l := [(m : Int), 0]) upd_same, (flatM_dI 2 (by show 2 ≤ 1000000; decide) ⟨_, rfl⟩).1, fun H12 t7 => ?_⟩
  have t07 := (t5.trans t6).trans t7
  exact k H12 st6 (k06.trans (sKp t07)) (t07 _ _ hd6) hg6
theorem ok_checks {f : Addr} {fd : FuncData} (F : Fun K "_law_checks" "_law_checks" sChecks f fd) (U : UseC P w K mg base CH) : FnOk P w K mg base CX0 7 f fd ["_law_d", "_law_houses", "_law_cycles"] (spChecks K CH) := by
  refine F.ok scChecks (fun vs H Q E h => ?_) (fun cdv A outer s H vs Q E hr h => ?_)
  · obtain ⟨d, hl, cl, h0, h1, c0, c1, st, k0, k1, g0, g1, b0, n0, b1, n1, rfl, _⟩ := h
    rfl
  · obtain ⟨d, hl, cl, h0, h1, c0, c1, st, k0, k1, g0, g1, b0, n0, b1, n1, rfl, hd, hg, ehl, ecl, ho0, ho1, hc0, hc1, hT0, hT1, hl0, hl1, nhl, ncl, k⟩ := h
    have hr1 : Room 1 (A.deeper (envOfC (Str.ofString "_law_checks") (defScope sChecks) s.heap.objs.size f cdv)) := hr.mono (by decide)
    have hr5 : Room 5 (A.deeper (envOfC (Str.ofString "_law_checks") (defScope sChecks) s.heap.objs.size f cdv)) := hr.mono (by decide)
    have hr6 : Room 6 (A.deeper (envOfC (Str.ofString "_law_checks") (defScope sChecks) s.heap.objs.size f cdv)) := hr
    have hu64 : (A.deeper (envOfC (Str.ofString "_law_checks") (defScope sChecks) s.heap.objs.size f cdv)).units + 64 < cLine := by have := hr.un; omega
    have T := U.T
    obtain ⟨tmB, pB, hB⟩ := checks_b (P := P) (w := w) (K := K) (mg := mg) (base := base) (CH := CH) (f := f) (cdv := cdv) (A := A) (outer := outer) (s := s) (H0 := H) (E := E) hr U
    refine ⟨_, by
      exact (pss_cons (ps_set (i := 3) scChecks.nd rfl (.inr rfl) (pe_lc (own := [("_law_tick_here", 7)]) (g := gName 7) (by rfl) scChecks.nd (pi_range1 (by rfl) T.range (pa_cons (pe_cal U.cB hr1 (by rfl) (pa_cons (pv 0) (pa_cons pe_int pa_nil))) pa_nil)) (blkOk_by (N := nChecks) (sc := defScope sChecks) (by decide +kernel)) (fun _ _ _ _ _ => (pg_name (i := 7) scChecks.nd rfl (Or.inl rfl))) (fun _ _ _ _ _ => by exact pts_nil) (fun _ _ _ _ _ => by exact (pe_cal U.cAt hr1 (by rfl) (pa_cons (pe_ix (ix_listK (K := K) rfl) (pv 2) pe_int (fun _ _ => rfl)) (pa_cons (pv 7) pa_nil))))))
      (pss_cons (ps_setLc (own := [("_law_tick_here", 7)]) (i := 4) (g := gName 7) (by rfl) scChecks.nd rfl rfl (sw_true rfl rfl (by rfl) (by rfl)) (pi_range1 (by rfl) T.range (pa_cons (pe_callB call_len_seq (by rfl) T.len PySem.boot_len (pa_cons (pv 3) pa_nil)) pa_nil)) (blkOk_by (N := nChecks) (sc := defScope sChecks) (by decide +kernel)) (fun _ _ _ _ _ => (pg_name (i := 7) scChecks.nd rfl (Or.inl rfl))) (fun _ _ _ _ _ => by exact (pts_one (pt_cmpR (op_neDK (K := K) rfl hu64) (pe_ix (ix_listK (K := K) rfl) (pv 3) (pv 7) (fun _ _ => rfl)) (pe_cal U.cAt hr1 (by rfl) (pa_cons (pe_ix (ix_listK (K := K) rfl) (pv 2) pe_int (fun _ _ => rfl)) (pa_cons (pv 7) pa_nil))) (nomark _)))) (fun _ _ _ _ _ => by exact (pv 7)))
      (pss_cons (ps_set (i := 5) scChecks.nd rfl (.inl rfl) (pe_lst (pa_cons (pe_cal U.cFe hr6 (by rfl) (pa_cons (pe_ix ix_list (pv 1) pe_int (fun _ _ => rfl)) (pa_cons (pv 3) pa_nil))) (pa_cons (pe_cal U.cFe hr6 (by rfl) (pa_cons (pe_ix ix_list (pv 1) pe_int (fun _ _ => rfl)) (pa_cons (pv 3) pa_nil))) pa_nil))))
      (pss_cons (ps_if (pt_not (pt_val (pe_cal U.cEq hr5 (by rfl) (pa_cons (pv 5) (pa_cons (pe_lst (pa_cons pe_non (pa_cons (pe_ifExp (pt_cmpR (op_neD hu64) (pv 4) (pe_lst pa_nil) (nomark _)) (pe_ix ix_list (pv 4) pe_int (fun _ _ => rfl)) pe_non) pa_nil))) pa_nil))))) (pss_one (ps_ret pe_bl)) pss_nil) pB)))), ?_⟩
    have h60 : g0.ts.length ≤ 6 := by omega
    have h61 : g1.ts.length ≤ 6 := by omega
    refine ⟨_, rfl, d, 60, st, rfl, hd, hg, by decide, by decide, fun H1 st1 m k1' hd1 hg1 m0 m1 => ?_⟩
    obtain ⟨m, rfl⟩ := Int.eq_ofNat_of_zero_le m0
    have ehl1 := k1' _ _ nhl ehl
    have ecl1 := k1' _ _ ncl ecl
    have ho01 := ho0.kpl k1' hd
    have ho11 := ho1.kpl k1' hd
    have hc01 := hc0.kp k1' hd
    have hc11 := hc1.kp k1' hd
    refine ⟨_, rfl, by omega, by omega, fun lg hlg => comp_range (lo := 0) (n := ((m : Nat) : Int).toNat) (i := 7) hlg (by omega) (fun _ => true) (fun H k v => ∃ a, v = .ref a ∧ a ≠ lg ∧ H a = some (.tup ((waitAt g0 k).map V.int))) (fun H H' k v kk ⟨a, e, n, z⟩ => ⟨a, e, n, kk _ _ n z⟩) (fun k H2 Qb _ _ _ q => q H2 (Same.refl H2)) (fun k H2 Q2 hk _ s2 hne q => ?_) (fun _ => rfl) fun H2 xs s2 elg pr => ?_⟩
    · refine ⟨_, rfl, cl, _, 0, _, rfl, rfl, SqL.of (s2 _ _ ecl1), at0, _, rfl, c0, k, d, k0, g0, b0, n0, ?_, hc01.mono s2, hT0, fun H' a s' ha ea => q H' _ s' ⟨a, rfl, fun z => hne (by rw [← z]; exact ha), ea⟩⟩
      show [c0, V.int ((0 : Int) + (k : Int))] = _
      rw [Int.zero_add]
    have hlog : LogAt H2 g0 xs m := by
      have hl := Paired.length pr
      rw [Int.toNat_natCast] at hl
      have e0 : (List.range m).filter (fun _ => true) = List.range m := List.filter_eq_self.mpr fun _ _ => rfl
      rw [e0, List.length_range] at hl
      refine ⟨hl.symm, fun j hj => ?_⟩
      obtain ⟨y, hy, a, e1, _, e3⟩ := pair_at2 pr (i := j) (x := j) (by rw [Int.toNat_natCast, e0]; exact List.getElem?_range hj)
      exact ⟨a, by rw [hy, e1], e3⟩
    have nlg : lg ≠ d := (ne_of_none hd1 hlg).symm
    have hxl := hlog.1
    have s12 := s2
    refine ⟨_, rfl, lg, xs, rfl, .inl (SqL.of elg), _, rfl, by rw [hxl]; omega, by rw [hxl]; omega, fun wr hwr => comp_rangeI (lo := 0) (n := ((xs.length : Nat) : Int).toNat) (i := 7) hwr (by rw [hxl]; omega) (fun k => decide (waitAt g0 k ≠ waitAt g1 k)) (fun j H3 Qb hj s3 qq => ?_) (fun _ => rfl) (fun _ => rfl) fun H3 s3 ewr => ?_⟩
    · rw [hxl] at hj
      obtain ⟨a, ea, eat⟩ := hlog.2 j (by omega)
      refine ⟨_, rfl, _, rfl, lg, xs, (j : Int), _, rfl, by rw [Int.zero_add], SqL.of (s3 _ _ elg), atI_nat ea, _, rfl, cl, _, 1, _, rfl, rfl, SqL.of (s3 _ _ (s12 _ _ ecl1)), at1, _, rfl, c1, j, d, k1, g1, b1, n1, ?_, (hc11.mono s12).mono s3, hT1, fun H' a' s' ha' ea' => ?_⟩
      · show [c1, V.int ((0 : Int) + (j : Int))] = _
        rw [Int.zero_add]
      · refine ⟨.tuple (dI (waitAt g0 j)), .tuple (dI (waitAt g1 j)), .tup (SqT.of (s' _ _ (s3 _ _ eat))) (dpAll_dI _), .tup (SqT.of ea') (dpAll_dI _), dI_shapedT _, dI_shapedT _, _, rfl, ?_⟩
        rw [dI_eqvT]
        have e : (!decide (waitAt g0 j = waitAt g1 j)) = decide (waitAt g0 j ≠ waitAt g1 j) := by simp
        rw [e]
        exact qq H' s'
    rw [hxl, Int.toNat_natCast] at ewr
    have hwh : wrongAt g1 0 ((List.range' 0 m).map fun t => some (waitAt g0 t)) = ((List.range m).filter fun k => decide (waitAt g0 k ≠ waitAt g1 k)).head? := by rw [wrong_head, List.range_eq_range']
    have eW : (List.map (fun k : Nat => V.int ((0 : Int) + (k : Nat))) ((List.range m).filter fun k => decide (waitAt g0 k ≠ waitAt g1 k))) = nV ((List.range m).filter fun k => decide (waitAt g0 k ≠ waitAt g1 k)) := by
      unfold nV
      exact List.map_congr_left fun k _ => by rw [Int.zero_add]
    rw [eW] at ewr
    have hWm : ∀ k ∈ ((List.range m).filter fun k => decide (waitAt g0 k ≠ waitAt g1 k)), k < m := fun k hk => List.mem_range.mp (List.mem_filter.mp hk).1
    generalize (List.range m).filter (fun k => decide (waitAt g0 k ≠ waitAt g1 k)) = WL at ewr hwh hWm
    have s13 := s12.trans s3
    have hlog3 := hlog.mono fun a ys z => s3 _ _ z
    -- what is found
    refine ⟨_, rfl, hl, _, 0, _, rfl, rfl, SqL.of (s13 _ _ ehl1), at0, _, rfl, ?_⟩
    dsimp only [tNil]
    have ew0 : wrongAt g0 0 ((List.range' 0 m).map fun t => some (waitAt g0 t)) = none := by
      rw [wrong_head, List.head?_eq_none_iff.mpr (List.filter_eq_nil_iff.mpr fun k _ => by simp)]
    refine ⟨h0, .ref lg, g0, rfl, ho01.mono s13, hT0, h60, .inr ⟨lg, xs, _, rfl, s3 _ _ elg, by rw [hxl]; omega, hlog3.paired h60, fun H4 s4 => ?_⟩⟩
    rw [ew0]
    have s14 := s13.trans s4
    refine ⟨_, rfl, hl, _, 1, _, rfl, rfl, SqL.of (s14 _ _ ehl1), at1, _, rfl, ?_⟩
    dsimp only [tNil]
    have hlog4 := hlog3.mono fun a ys z => s4 _ _ z
    refine ⟨h1, .ref lg, g1, rfl, ho11.mono s14, hT1, h61, .inr ⟨lg, xs, _, rfl, s4 _ _ (s3 _ _ elg), by rw [hxl]; omega, hlog4.paired h60, fun H5 s5 => ?_⟩⟩
    rw [hwh]
    have s15 := s14.trans s5
    have ewr5 := s5 _ _ (s4 _ _ ewr)
    have elg5 := s5 _ _ (s4 _ _ (s3 _ _ elg))
    have hlog5 := hlog4.mono fun a ys z => s5 _ _ z
    refine ⟨by show 2 ≤ sizeLine; decide, fun fo hfo => ?_⟩
    have s6 := same_upd (o := .lst [wrongV none, wrongV WL.head?]) hfo
    have efo : (upd H5 fo (.lst [wrongV none, wrongV WL.head?])) fo = some (.lst [.non, wrongV WL.head?]) := upd_same
    have s16 := s15.trans s6
    have ewr6 := s6 _ _ ewr5
    have elg6 := s6 _ _ elg5
    have hlog6 := hlog5.mono fun a ys z => s6 _ _ z
    generalize upd H5 fo (.lst [wrongV none, wrongV WL.head?]) = H6 at efo s16 ewr6 elg6 hlog6
    -- the same is expected
    refine ⟨_, rfl, _, rfl, Nat.zero_le _, fun q hq => ?_⟩
    have s7 := same_upd (o := .lst []) hq
    have ewr7 := s7 _ _ ewr6
    refine ⟨.list (dN WL), .list [], nV_dp ewr7, .lst (SqL.of upd_same) .nil, dI_shaped _, rfl, _, rfl, ?_⟩
    rw [dN_nil]
    have efo7 := s7 _ _ efo
    have elg7 := s7 _ _ elg6
    have s17 := s16.trans s7
    have hlog7 := hlog6.mono fun a ys z => s7 _ _ z
    generalize upd H6 q (.lst []) = H7 at ewr7 efo7 elg7 s17 hlog7
    have done : ∀ (H9 : Hp) (v4 v5 v6 v7 : Option V), Same H7 H9 → tmB { nx := fun _ H' => Q .non H', rt := Q } [some (.ref d), some (.ref hl), some (.ref cl), some (.ref lg), v4, v5, v6, v7] H9 := fun H9 v4 v5 v6 v7 s9 =>
      hB _ H9 _ v4 v5 v6 v7 d hl h0 h1 lg st1 g0 xs m ((s17.trans s9) _ _ hd1) hg1 ((s17.trans s9) _ _ ehl1) (ho01.mono (s17.trans s9)) hT0 hl0 nhl (s9 _ _ elg7) nlg (hlog7.mono fun a ys z => s9 _ _ z) (by omega)
        fun H' st' kk hd' hg' => k H' st' (k1'.trans ((sKp (s17.trans s9)).trans kk)) hd' hg'
    cases WL with
    | nil =>
      refine iteF ⟨by show 2 ≤ sizeLine; decide, fun p hp => ?_⟩
      have s8 := same_upd (o := .lst [.non, .non]) hp
      refine ⟨_, _, .list [.none, .none], rfl, .lst (SqL.of (s8 _ _ efo7)) (.cons .non (.cons .non .nil)), .lst (SqL.of upd_same) (.cons .non (.cons .non .nil)), ⟨by show 2 ≤ 1000000; decide, fun y hy => ?_⟩, fun H9 s9 => ⟨_, rfl, iteF (done H9 _ _ _ _ (s8.trans s9))⟩⟩
      simp only [List.mem_cons, List.not_mem_nil, or_false, or_self] at hy
      rw [hy]; trivial
    | cons k0 rest =>
      have e0 : atI (nV (k0 :: rest)) 0 = some (.int (k0 : Int)) := at0
      refine iteT ⟨_, rfl, wr, _, 0, _, rfl, rfl, SqL.of ewr7, e0, ?_⟩
      refine ⟨by show 2 ≤ sizeLine; decide, fun p hp => ?_⟩
      have s8 := same_upd (o := .lst [.non, .int (k0 : Int)]) hp
      refine ⟨_, _, .list [.none, .int (k0 : Int)], rfl, .lst (SqL.of (s8 _ _ efo7)) (.cons .non (.cons (.int _) .nil)), .lst (SqL.of upd_same) (.cons .non (.cons (.int _) .nil)), ⟨by show 2 ≤ 1000000; decide, fun y hy => ?_⟩, fun H9 s9 => ⟨_, rfl, iteF (done H9 _ _ _ _ (s8.trans s9))⟩⟩
      simp only [List.mem_cons, List.not_mem_nil, or_false] at hy
      rcases hy with rfl | rfl <;> trivial
end
end Dk

set_option Elab.async false
set_option linter.all false
set_option maxRecDepth 100000
set_option maxHeartbeats 2000000
/-! A generator's body where the consumer may change objects of its own (the addresses ch) between two items. -/
namespace Gq
open PySem PySem.Spec PyProof.Rows GenW L2
/-- the consumer's objects: none of the generator's, younger than its call -/
structure Far (X : Cx) (ch : List Addr) : Prop where
  yg : ∀ b ∈ ch, X.s_0.heap.objs.size ≤ b
  fr : ∀ b ∈ ch, b ≠ X.env.locals
  cl : ∀ b ∈ ch, ∀ x c, X.env.cells.lookup x = some c → c ≠ b
  pn : ∀ b ∈ ch, ∀ p ∈ X.pn, p.1 ≠ b
/-- they stand, and are no cells -/
def Stand (ch : List Addr) (s : Shared) : Prop := ∀ b ∈ ch, ∃ o, s.heap.get? b = some o ∧ ∀ v, o.data ≠ .cell v
/-- the generator runs; the consumer's objects are as they were when it was woken (t) -/
structure Run (X : Cx) (ch : List Addr) (t : Shared) (σ : L2.St) (H : Hp) (s : Shared) : Prop where
  st : Stand ch t
  inv : Inv X (pinsAt ch t.heap) σ H s
/-- what the consumer does while the generator sleeps -/
structure Took (ch : List Addr) (s s' : Shared) : Prop where
  os : s'.os = s.os
  bare : AllBare s'.gens
  keep : ∀ b o, b ∉ ch → s.heap.get? b = some o → s'.heap.get? b = some o
  st : Stand ch s'
theorem Run.pin {X : Cx} {ch : List Addr} {t s : Shared} {σ : L2.St} {H : Hp} (r : Run X ch t σ H s) {b : Addr} (hb : b ∈ ch) : ∃ o, t.heap.get? b = some o ∧ s.heap.get? b = some o ∧ H b = none ∧ b ≠ X.env.locals ∧ b ∉ X.fs := by
  obtain ⟨o, e, _⟩ := r.st b hb
  obtain ⟨h1, h2, h3, h4, _⟩ := r.inv.pin (b, o) (List.mem_append_right _ (mem_pinsAt hb e))
  exact ⟨o, e, h1, h2, h3, h4⟩
theorem Run.woken {X : Cx} {ch : List Addr} {t s s' : Shared} {σ : L2.St} {H : Hp} (f : Far X ch) (r : Run X ch t σ H s) (k : Took ch s s') : Run X ch s' σ H s' := by
  have nH : ∀ b u, H b = some u → b ∉ ch := fun b u e hb => by
    obtain ⟨_, _, _, n, _⟩ := r.pin hb
    rw [n] at e; cases e
  have I0 : Inv X [] σ H s := r.inv.pins_of fun p hp => absurd hp (by simp)
  obtain ⟨hh, g, d, tk, o⟩ := s'
  have ho : o = s.os := k.os
  subst ho
  have J : Inv X [] σ H { s with heap := hh, gens := g, drawn := d, toks := tk } := by
    refine I0.step (g' := g) (t' := tk) (d' := d) (ch := ch) (fun b hb => ⟨.inr (f.yg b hb), f.fr b hb, f.cl b hb, fun p hp => ?_⟩) (fun b ob _ _ nc e _ => k.keep b ob nc e) (fun b ob _ _ nc e _ => ⟨ob.slots, k.keep b ob nc e⟩) (fun _ _ _ _ n => n)
      (fun b ob nc e => ⟨ob, k.keep b ob nc e⟩) (fun _ _ q => q) (fun _ _ _ q => q) (fun b ps q => ⟨#[], by rw [q]; simp⟩) (fun m hm => ?_) (fun b u q => ?_) k.bare
    · rcases List.mem_append.mp hp with hp | hp
      · exact f.pn b hb p hp
      · exact absurd hp (by simp)
    · obtain ⟨ob, es, ep, e, rr⟩ := hm
      exact ⟨ob, es, ep, k.keep _ ob (fun hb => f.fr _ hb rfl) e, rr⟩
    · refine (I0.hok b u q).stay (fun c v hc y => k.keep c v ?_ y) (fun _ y => y) fun _ _ y => y
      rcases hc with y | y
      · rw [y]; exact nH b u q
      · exact nH c _ y
  refine ⟨k.st, J.pins_of fun p hp => ?_⟩
  obtain ⟨hb, e⟩ := of_pinsAt hp
  obtain ⟨o, e', nc⟩ := k.st p.1 hb
  obtain ⟨_, _, _, n1, n2, n3⟩ := r.pin hb
  have eo : o = p.2 := Option.some.inj (e'.symm.trans e)
  subst eo
  exact ⟨e, n1, n2, n3, nc⟩
/-! ### statements -/
structure Ge where
  nx : List V → L2.St → Hp → Prop
  rt : List V → VK
  bk : List V → L2.St → Hp → Prop := fun _ _ _ => False
  ct : List V → L2.St → Hp → Prop := fun _ _ _ => False
def Ge.at (D : Ge) (ys : List V) : Ends := { nx := D.nx ys, rt := D.rt ys, bk := D.bk ys, ct := D.ct ys }
abbrev Tq := Ge → List V → L2.St → Hp → Prop
def Aft (X : Cx) (ch : List Addr) (t : Shared) (D : Ge) (ys : List V) : Flow → Shared → Prop
  | .next, s => ∃ σ H, Run X ch t σ H s ∧ D.nx ys σ H
  | .brk, s => ∃ σ H, Run X ch t σ H s ∧ D.bk ys σ H
  | .cont, s => ∃ σ H, Run X ch t σ H s ∧ D.ct ys σ H
  | .ret u, s => ∃ v σ H, Run X ch t σ H s ∧ RelV v u ∧ D.rt ys v H
section
variable (X : Cx) (ch : List Addr) (N : Nat) (Yl : List V → V → Hp → Prop)
/-- an item is handed out; Yl tells of it -/
def Yq : Protocol := fun n t v s kap => ∃ ys x σ H, n + 1 + ys.length = N ∧ RelV x v ∧ Run X ch t σ H s ∧ Yl ys x H ∧ ∀ s', Took ch s s' → kap (.send .none) s'
structure At (A : Around) (c : Code) (fs : List Frame) (gd : Bool → Bool) : Prop where
  far : Far X ch
  over : A.over c fs = X.A
  sp : splitAtGen fs = none
  gu : fs.any Frame.guarded = false
  gd : gd false = false
structure Then (A : Around) (R : GenEnd) (c : Code) (fs : List Frame) (K : Flow → Sem PySem.Fin) (J : Value → Sem PySem.Fin) (D : Ge) : Prop where
  ok : ∀ (n : Nat) (ys : List V) (t s : Shared) (f : Flow), n + ys.length = N → Aft X ch t D ys f s → Seg (model X.prog X.w) A R (Yq X ch N Yl) n t c (K f) fs s
  ex : ∀ (n : Nat) (t : Shared) (e : Value) (s : Shared), X.xe e s → Seg (model X.prog X.w) A R (Yq X ch N Yl) n t c (J e) fs s
structure Sq (st : Stmt) (q : Tq) : Prop where
  run : ∀ (A : Around) (R : GenEnd) (n : Nat) (ys : List V) (t : Shared) (c : Code) (fs : List Frame) (K : Flow → Sem PySem.Fin) (J : Value → Sem PySem.Fin) (gd : Bool → Bool) (lv : List Value → List Value) (s : Shared) (σ : L2.St) (H : Hp) (D : Ge),
    At X ch A c fs gd → n + ys.length = N → Then X ch N Yl A R c fs K J D → Run X ch t σ H s → q D ys σ H → Seg (model X.prog X.w) A R (Yq X ch N Yl) n t c ((exec st X.env).wrap K J gd lv) fs s
structure Sqs (st : List Stmt) (q : Tq) : Prop where
  run : ∀ (A : Around) (R : GenEnd) (n : Nat) (ys : List V) (t : Shared) (c : Code) (fs : List Frame) (K : Flow → Sem PySem.Fin) (J : Value → Sem PySem.Fin) (gd : Bool → Bool) (lv : List Value → List Value) (s : Shared) (σ : L2.St) (H : Hp) (D : Ge),
    At X ch A c fs gd → n + ys.length = N → Then X ch N Yl A R c fs K J D → Run X ch t σ H s → q D ys σ H → Seg (model X.prog X.w) A R (Yq X ch N Yl) n t c ((execs st X.env).wrap K J gd lv) fs s
end
section
variable {X : Cx} {ch : List Addr} {N : Nat} {Yl : List V → V → Hp → Prop} {st : Stmt} {rest : List Stmt}
def qP (u : TS) : Tq := fun D ys σ H => u (D.at ys) σ H
theorem aft_of {t s : Shared} {D : Ge} {ys : List V} {f : Flow} (h0 : Stand ch t) (h : SP X (pinsAt ch t.heap) (D.at ys) f s) : Aft X ch t D ys f s := by
  cases f with
  | next => obtain ⟨σ, H, I, q⟩ := h; exact ⟨σ, H, ⟨h0, I⟩, q⟩
  | brk => obtain ⟨σ, H, I, q⟩ := h; exact ⟨σ, H, ⟨h0, I⟩, q⟩
  | cont => obtain ⟨σ, H, I, q⟩ := h; exact ⟨σ, H, ⟨h0, I⟩, q⟩
  | ret u => obtain ⟨v, σ, H, I, r, q⟩ := h; exact ⟨v, σ, H, ⟨h0, I⟩, r, q⟩
theorem sq_ps {u : TS} (h : PS X st u) : Sq X ch N Yl st (qP u) := by
  refine ⟨fun A R n ys t c fs K J gd lv s σ H D a hn k r hu => seg_wrap ?_⟩
  rw [a.over]
  exact wpAny_mono (h.run _ s σ H (D.at ys) r.inv hu) (fun f s' q => k.ok n ys t s' f hn (aft_of r.st q)) fun e s' q => k.ex n t e s' q
theorem sqs_nil : Sqs X ch N Yl [] (fun D ys σ H => D.nx ys σ H) :=
  ⟨fun A R n ys t c fs K J gd lv s σ H D a hn k r hu => seg_execs_nil (k.ok n ys t s .next hn ⟨σ, H, r, hu⟩)⟩
theorem sqs_cons {q1 q2 : Tq} (h1 : Sq X ch N Yl st q1) (h2 : Sqs X ch N Yl rest q2) : Sqs X ch N Yl (st :: rest) (fun D ys σ H => q1 { D with nx := fun ys' σ' H' => q2 D ys' σ' H' } ys σ H) := by
  refine ⟨fun A R n ys t c fs K J gd lv s σ H D a hn k r hu => seg_execs_cons ?_⟩
  refine h1.run A R n ys t c fs _ J gd lv s σ H _ a hn ⟨fun n' ys' t' s' f hn' hf => ?_, k.ex⟩ r hu
  cases f with
  | next =>
    obtain ⟨σ', H', r', hq⟩ := hf
    exact h2.run A R n' ys' t' c fs K J gd lv s' σ' H' D a hn' k r' hq
  | brk => exact k.ok n' ys' t' s' .brk hn' hf
  | cont => exact k.ok n' ys' t' s' .cont hn' hf
  | ret u => exact k.ok n' ys' t' s' (.ret u) hn' hf
/-- yield e -/
def qY (N : Nat) (Yl : List V → V → Hp → Prop) (te : TE) : Tq := fun D ys σ H => ys.length < N ∧ te σ H fun x H1 => Yl ys x H1 ∧ D.nx (ys ++ [x]) σ H1
theorem sq_yield {e : Expr} {te : TE} {yp pos : Pos} (he : PE X e te) (hco : X.env.scope.isCoroutine = false := by rfl) (hi : interactive X.env = false := by rfl) : Sq X ch N Yl (.Expr (.Yield (some e) yp) pos) (qY N Yl te) := by
  refine ⟨fun A R n ys t c fs K J gd lv s σ H D a hn k r hu => ?_⟩
  obtain ⟨hl, hu⟩ := hu
  obtain ⟨m, rfl⟩ : ∃ m, n = m + 1 := ⟨n - 1, by omega⟩
  refine seg_Expr_Yield a.sp a.gd a.gu ?_ hco hi
  rw [a.over]
  refine wpAny_mono (he.run _ s σ H _ r.inv hu) (fun v s' hv => ?_) fun x s' hx => k.ex _ t x s' hx
  obtain ⟨x, H1, I1, rv, hy, hq⟩ := hv
  have r1 : Run X ch t σ H1 s' := ⟨r.st, I1⟩
  intro kap hk
  refine ⟨ys, x, σ, H1, hn, rv, r1, hy, fun s'' z => hk .none s'' ?_⟩
  refine k.ok m (ys ++ [x]) s'' s'' .next ?_ ⟨σ, H1, r1.woken a.far z, hq⟩
  rw [List.length_append, List.length_singleton]; omega
end
end Gq

set_option Elab.async false
set_option linter.all false
set_option maxRecDepth 100000
set_option maxHeartbeats 2000000
namespace Gq
open PySem PySem.Spec PyProof.Rows GenW L2
section
variable {X : Cx} {ch : List Addr} {N : Nat} {Yl : List V → V → Hp → Prop}
theorem at_in {A : Around} {c c' : Code} {fs : List Frame} {gd : Bool → Bool} {k : Result → Sem PySem.Fin} {l kp : List Value} {p : Pos} (a : At X ch A c fs gd) (hw : c'.weight = 0) (hu : c'.cUnits = 0) : At X ch A c' (.ret k none (gd false) l c p kp :: fs) id := by
  refine ⟨a.far, (over_loop hw hu).trans a.over, ?_, ?_, rfl⟩
  · show (splitAtGen fs).map _ = none
    simp [a.sp]
  · show (gd false || fs.any Frame.guarded) = false
    simp [a.gd, a.gu]
/-- what stands behind a loop -/
abbrev outK (X : Cx) (K : Flow → Sem PySem.Fin) (J : Value → Sem PySem.Fin) (gd : Bool → Bool) (lv : List Value → List Value) : Result → Sem PySem.Fin :=
  fun r => ((match r with
    | .ok f => (.pure f : Sem Flow)
    | .error e => .raise e).onRaise (cameBack X.env)).wrap K J gd lv
/-- an exception that came back out of a loop -/
theorem back_seg {A : Around} {R : GenEnd} {c : Code} {fs : List Frame} {K : Flow → Sem PySem.Fin} {J : Value → Sem PySem.Fin} {gd : Bool → Bool} {lv : List Value → List Value} {D : Ge} {n : Nat} {t s : Shared} {e : Value} (a : At X ch A c fs gd) (k : Then X ch N Yl A R c fs K J D)
    (h : cameBackBy (model X.prog X.w) X.A X.env X.xe e s) : Seg (model X.prog X.w) A R (Yq X ch N Yl) n t c (outK X K J gd lv (.error e)) fs s := by
  show Seg _ _ _ _ _ _ _ (((cameBack X.env e).bind fun _ => Sem.raise (α := Flow) e).wrap K J gd lv) _ _
  rw [Sem.bind_eq_wrap, Sem.wrap_wrap]
  refine seg_wrap ?_
  rw [a.over]
  exact wpAny_mono h (fun _ s' q => k.ex n t e s' q) fun y s' q => k.ex n t y s' q
def qW (tc : TT) (tb : Tq) : Tq := fun D ys σ H => ∃ W : Nat → List V → L2.St → Hp → Prop, (∃ m, W m ys σ H) ∧
  ∀ m ys σ H, W m ys σ H → tc σ H fun b H1 => if b = true then ∃ Nx : List V → L2.St → Hp → Prop, (∀ ys' σ' H', Nx ys' σ' H' → ∃ m', m' < m ∧ W m' ys' σ' H') ∧ tb { D with nx := Nx, ct := Nx, bk := D.nx } ys σ H1 else D.nx ys σ H1
theorem sq_while {test : Expr} {body : List Stmt} {pos : Pos} {tc : TT} {tb : Tq} (hp : PassesOwn (model X.prog X.w) X.A X.env X.xe) (hc : PT X test tc) (hb : Sqs X ch N Yl body tb) : Sq X ch N Yl (.While test body [] pos) (qW tc tb) := by
  refine ⟨fun A R n ys t c fs K J gd lv s σ H D a hn k r hu => ?_⟩
  obtain ⟨W, ⟨m0, w0⟩, turn⟩ := hu
  refine seg_While fun p => ?_
  have inn := fun (kk : Result → Sem PySem.Fin) => at_in (k := kk) (c' := .whileLoop test body [] X.env) (l := lv []) (kp := []) (p := p) a rfl rfl
  have all : ∀ (m n : Nat) (ys : List V) (t s : Shared) (σ : L2.St) (H : Hp), n + ys.length = N → W m ys σ H → Run X ch t σ H s →
      Seg (model X.prog X.w) A R (Yq X ch N Yl) n t (.whileLoop test body [] X.env) ((model X.prog X.w).den (.whileLoop test body [] X.env)) (.ret (outK X K J gd lv) none (gd false) (lv []) c p [] :: fs) s := by
    intro m
    induction m using Nat.strongRecOn with
    | ind m ih =>
      intro n ys t s σ H hn w r
      have out : ∀ (n : Nat) (t : Shared) (x : Value) (s' : Shared), X.xe x s' → Seg (model X.prog X.w) A R (Yq X ch N Yl) n t (.whileLoop test body [] X.env)
          ((do noteFrame x X.env; theTreesLotGoes x : Sem Unit).wrap (fun _ => .raise x) .raise id id) (.ret (outK X K J gd lv) none (gd false) (lv []) c p [] :: fs) s' := by
        intro n t x s' hx
        refine seg_wrap ?_
        rw [(inn _).over]
        refine wpAny_bind (wpAny_mono (hp x s' hx) (fun _ s2 q => wpAny_theTreesLotGoes (seg_leaf (.error x) (back_seg a k q))) fun y s2 q => seg_leaf (.error y) (back_seg a k q))
      refine seg_whileLoop ?_
      rw [(inn _).over]
      refine wpAny_mono (hc.run _ s σ H _ r.inv (turn m ys σ H w)) (fun b s' hb' => ?_) fun x s' hx => out n t x s' hx
      obtain ⟨H2, I2, q2⟩ := hb'
      have r2 : Run X ch t σ H2 s' := ⟨r.st, I2⟩
      by_cases cb : b = true
      · subst cb
        rw [if_pos rfl] at q2 ⊢
        obtain ⟨Nx, hNx, q2⟩ := q2
        refine hb.run A R n ys t _ _ _ _ id id s' σ H2 _ (inn _) hn ⟨fun n' ys' t' s3 f hn' hf => ?_, fun n' t' x s3 hx => out n' t' x s3 hx⟩ r2 q2
        have more : ∀ {ys' : List V} {σ3 : L2.St} {H3 : Hp} {n' : Nat} {t' s3 : Shared}, n' + ys'.length = N → Run X ch t' σ3 H3 s3 → Nx ys' σ3 H3 → Seg (model X.prog X.w) A R (Yq X ch N Yl) n' t' (.whileLoop test body [] X.env) (.pure (.again (.whileLoop test body [] X.env))) (.ret (outK X K J gd lv) none (gd false) (lv []) c p [] :: fs) s3 := by
          intro ys' σ3 H3 n' t' s3 hn' r3 hx
          obtain ⟨m', hm, w'⟩ := hNx ys' σ3 H3 hx
          exact seg_again rfl (ih m' hm n' ys' t' s3 σ3 H3 hn' w' r3)
        cases f with
        | next => obtain ⟨σ3, H3, r3, q3⟩ := hf; exact more hn' r3 q3
        | cont => obtain ⟨σ3, H3, r3, q3⟩ := hf; exact more hn' r3 q3
        | brk => exact seg_leaf (.ok .next) (k.ok n' ys' t' s3 .next hn' hf)
        | ret v => exact seg_leaf (.ok (.ret v)) (k.ok n' ys' t' s3 (.ret v) hn' hf)
      · rw [if_neg cb] at q2 ⊢
        exact seg_execs_nil (seg_leaf (.ok .next) (k.ok n ys t s' .next hn ⟨σ, H2, r2, q2⟩))
  exact all m0 n ys t s σ H hn w0 r
end
end Gq

set_option autoImplicit false
set_option Elab.async false
set_option linter.all false
set_option maxRecDepth 100000
set_option maxHeartbeats 2000000
namespace Gq
open PySem PySem.Spec PyProof.Rows GenW L2
/-- what the def's state and the consumer's objects are, seen from outside -/
structure Seen (P : Program) (w : World) (outer : List Env) (H : Hp) (s0 : Shared) (ch : List Addr) (t : Shared) (H' : Hp) (s : Shared) : Prop where
  os : s.os = s0.os
  bare : AllBare s.gens
  lim : s.heap.NoLimit
  un : Un (frs outer) [] H H' s0.heap s.heap
  ok : HOk P w H' s.heap
  mine : ∀ b ∈ ch, H' b = none ∧ ∃ o, t.heap.get? b = some o ∧ s.heap.get? b = some o
/-- an item, seen from outside -/
def Item (P : Program) (w : World) (outer : List Env) (H : Hp) (s0 : Shared) (ch : List Addr) (N : Nat) (Yl : List V → V → Hp → Prop) (a : Addr) (g : Nat) : Protocol := fun n t v s kap =>
  ∃ ys x H', n + 1 + ys.length = N ∧ RelV x v ∧ Seen P w outer H s0 ch t H' s ∧ s.heap.IsGen a g ∧ Yl ys x H' ∧ ∀ s', Took ch s s' → kap (.send .none) s'
/-- the end, seen from outside: nothing is let out -/
def Over (P : Program) (w : World) (outer : List Env) (H : Hp) (s0 : Shared) (ch : List Addr) (N : Nat) (Q : List V → Hp → Prop) : GenEnd := fun n t r s =>
  (r = .ok (.ret .none) ∨ r = .ok .next) ∧ ∃ ys H', n + ys.length = N ∧ Seen P w outer H s0 ch t H' s ∧ Q ys H'
/-- a generator that has not begun -/
def Born (P : Program) (w : World) (k : Nat) (outer : List Env) (H : Hp) (s0 : Shared) (N : Nat) (Yl : List V → V → Hp → Prop) (Q : List V → Hp → Prop) (u : Value) (s' : Shared) : Prop :=
  ∃ (a : Addr) (g : Nat) (c : Code), u = .ref a ∧ s0.heap.objs.size ≤ a ∧ a < s'.heap.objs.size ∧ s'.heap.IsGen a g ∧ s'.gens[g]? = some (.fresh c) ∧ s'.os = s0.os ∧ AllBare s'.gens ∧ s'.heap.NoLimit ∧ (∀ b o, s0.heap.get? b = some o → s'.heap.get? b = some o) ∧
    ∀ (A : Around) (ch : List Addr) (s2 : Shared), Room k A → A.frames = some outer → (∀ b ∈ ch, s'.heap.objs.size ≤ b) → (∀ b o, s'.heap.get? b = some o → s2.heap.get? b = some o) → Stand ch s2 → s2.os = s0.os → AllBare s2.gens →
      Seg (model P w) A (Over P w outer H s0 ch N Q) (Item P w outer H s0 ch N Yl a g) N s2 c ((model P w).den c) [] s2
abbrev SpQ := List V → Hp → Nat → (List V → V → Hp → Prop) → (List V → Hp → Prop) → Prop
structure GdOk (P : Program) (w : World) (K : PySem.W.Frag) (mg : Str → Option Value) (base : Heap) (k : Nat) (f : Addr) (fd : FuncData) (ps : List Str) (sp : SpQ) : Prop where
  len : ∀ vs H N Yl Q, sp vs H N Yl Q → vs.length = ps.length
  run : ∀ (A : Around) (outer : List Env) (s : Shared) (H : Hp) (args : Args) (us : List Value) (vs : List V) (N : Nat) (Yl : List V → V → Hp → Prop) (Q : List V → Hp → Prop), Room k A → Env0 P w K mg base A outer s H → BindsTo s fd args (ps.zip us) → Vals vs us → sp vs H N Yl Q →
    codeAny (model P w) A (.call (.ref f) args) (fun r s' => match r with
      | .ok (.ret u) => Born P w k outer H s N Yl Q u s'
      | _ => False) s
theorem gd_of {P : Program} {w : World} {K : PySem.W.Frag} {mg : Str → Option Value} {base : Heap} {k : Nat} {f : Addr} {name qual : Str} {params : Arguments} {body : List Stmt} {scope : Scope} {dV kV doc pm cdv ct oc : Value} {an od : Option Addr} {osl : Array (Option Value)} {Ns ps : List Str} {sp : SpQ}
    (lk : K.lookup f = some ⟨oc, od, .func (PySem.W.fnOf name qual params body scope dV kV doc pm an cdv ct), osl⟩) (hcd : PySem.W.codeIn K cdv qual = true) (S : GScope Ns ps scope) (len : ∀ vs H N Yl Q, sp vs H N Yl Q → vs.length = ps.length)
    (hbody : ∀ (A : Around) (outer : List Env) (s : Shared) (H : Hp) (vs : List V) (N : Nat) (Yl : List V → V → Hp → Prop) (Q : List V → Hp → Prop) (pn : List (Addr × Obj)) (ch : List Addr), Room k (A.deeper (envOfC qual scope s.heap.objs.size f cdv)) → sp vs H N Yl Q →
      ∃ q, Sqs (gcxOf P w K mg base Ns qual scope f cdv A outer s H E0 pn) ch N Yl body q ∧ q { nx := fun ys _ H' => Q ys H', rt := fun ys v H' => v = .non ∧ Q ys H' } [] (start Ns vs) H) :
    GdOk P w K mg base (k + 1) f (PySem.W.fnOf name qual params body scope dV kV doc pm an cdv ct) ps sp := by
  refine ⟨len, fun A outer s H args us vs N Yl Q hr e0 hb rv hsp => ?_⟩
  have hl := len _ _ _ _ _ hsp
  have KX : K.In s.heap := e0.mod.kin.keeps fun b o e => (e0.bs b o e).1
  have lim : s.heap.NoLimit := e0.mod.nolimit.keeps fun b o e => (e0.bs b o e).1
  have hk : ∀ y ∈ ps.zip us, scope.names.lookup y.1 = some .local ∨ (scope.names.lookup y.1 = some .cell ∧ ((cellsFrom (s.heap.objs.size + 1) scope.names []).lookup y.1).isSome = true) := by
    rintro ⟨x, v⟩ hy
    rcases S.par x (List.of_mem_zip hy).1 with q | q
    · exact .inl q
    · exact .inr ⟨q, PySem.W.cellsFrom_some _ _ _ (.inl q)⟩
  refine codeAny_call_generator hr.depth (KX _ _ lk) rfl S.co S.gen rfl (PySem.W.codeRec_of KX hcd) (hb _ _ _ _ (wpAny_newFunctionEnv_cells S.kind hk fun env he s1 x => ?_))
  subst he
  have lim1 : s1.heap.NoLimit := lim.keeps x.toInCall.keep
  refine ⟨lim1, ?_⟩
  obtain ⟨h1, tk, es, hk1⟩ := x.done
  have os1 : s1.os = s.os := by rw [es]
  have gs1 : s1.gens = s.gens := by rw [es]
  have lt1 : s.heap.objs.size < s1.heap.objs.size := x.toInCall.ns.lt
  have kp1 : ∀ b o, s.heap.get? b = some o → s1.heap.get? b = some o := x.toInCall.keep
  have go : ∀ (ob : Obj) (nm qn : Value) (tk2 : Nat), ob.cls = .type "generator" → ob.data = .fields #[.int s1.gens.size 0, nm, qn] → ob.slots = #[] → (∀ h : Heap, (h.push ob).get? h.objs.size = some ob) →
      Born P w (k + 1) outer H s N Yl Q (.ref s1.heap.objs.size) { s1 with gens := s1.gens.push (.fresh (.func body (envOfC qual scope s.heap.objs.size f cdv))), toks := tk2, heap := s1.heap.push ob } := by
    intro ob nm qn tk2 oc od osl' op
    have isg : ∀ h : Heap, h.get? s1.heap.objs.size = some ob → h.IsGen s1.heap.objs.size s1.gens.size := fun h e => ⟨ob, nm, qn, e, oc, od, osl'⟩
    refine ⟨s1.heap.objs.size, s1.gens.size, _, rfl, Nat.le_of_lt lt1, ?_, isg _ (op _), Array.getElem?_push_size .., os1, AllBare.push (by rw [gs1]; exact e0.bare) rfl, lim1.keeps fun b o e => Heap.get?_push_of_some _ e, fun b o e => Heap.get?_push_of_some _ (kp1 b o e), ?_⟩
    · show _ < (s1.heap.push _).objs.size
      rw [Heap.size_push]; exact Nat.lt_succ_self _
    intro Aw ch s2 hrw hfr hch hk2 hst hos hba
    have e0w : Env0 P w K mg base Aw outer s H := ⟨hfr, e0.mod, e0.bs, e0.bsz, e0.funs, e0.frf, e0.hok, e0.bare⟩
    obtain ⟨q, hq, hqr⟩ := hbody Aw outer s H vs N Yl Q [(s1.heap.objs.size, ob)] ch (hrw.deeper _) hsp
    have I1 : Inv (gcxOf P w K mg base Ns qual scope f cdv Aw outer s H E0 []) [] (start Ns vs) H s1 := inv_startG S hrw.hd e0w hl rv x
    have kp2 : ∀ b o, s1.heap.get? b = some o → s2.heap.get? b = some o := fun b o e => hk2 b o (Heap.get?_push_of_some _ e)
    have I2 : Inv (gcxOf P w K mg base Ns qual scope f cdv Aw outer s H E0 []) [] (start Ns vs) H s2 :=
      I1.call' (ch := []) (hos.trans os1.symm) (Un.kept kp2) (I1.hok.kept kp2) hba fun b z => by simp at z
    have hch2 : ∀ b ∈ ch, s1.heap.objs.size < b := fun b hb' => by
      have z : (s1.heap.push ob).objs.size ≤ b := hch b hb'
      rw [Heap.size_push] at z
      exact z
    have eob : s2.heap.get? s1.heap.objs.size = some ob := hk2 _ ob (op _)
    have nod : ∀ v, ob.data ≠ .cell v := fun v z => by rw [od] at z; cases z
    have yng : ∀ b, s1.heap.objs.size ≤ b → H b = none ∧ b ≠ s.heap.objs.size ∧ b ∉ frs outer ∧ s.heap.objs.size ≤ b ∧ ∀ y c, (cellsFrom (s.heap.objs.size + 1) scope.names []).lookup y = some c → c ≠ b := fun b hb' => by
      refine ⟨I1.hok.fresh hb', Nat.ne_of_gt (Nat.lt_of_lt_of_le lt1 hb'), I1.nofs hb', Nat.le_trans (Nat.le_of_lt lt1) hb', fun y c e z => ?_⟩
      obtain ⟨v, o', ho, _⟩ := I1.cell y c e
      have hlt := Heap.lt_size ho
      rw [z] at hlt
      exact absurd (Nat.lt_of_lt_of_le hlt hb') (Nat.lt_irrefl _)
    have far : Far (gcxOf P w K mg base Ns qual scope f cdv Aw outer s H E0 [(s1.heap.objs.size, ob)]) ch :=
      ⟨fun b hb' => (yng b (Nat.le_of_lt (hch2 b hb'))).2.2.2.1, fun b hb' => (yng b (Nat.le_of_lt (hch2 b hb'))).2.1, fun b hb' => (yng b (Nat.le_of_lt (hch2 b hb'))).2.2.2.2, fun b hb' p hp => by
        rw [List.mem_singleton.mp hp]; exact Nat.ne_of_lt (hch2 b hb')⟩
    have r0 : Run (gcxOf P w K mg base Ns qual scope f cdv Aw outer s H E0 [(s1.heap.objs.size, ob)]) ch s2 (start Ns vs) H s2 := by
      refine ⟨hst, Inv.pinnedG I2 fun p hp => ?_⟩
      rcases List.mem_append.mp hp with z | z
      · rw [List.mem_singleton.mp z]
        obtain ⟨y1, y2, y3, _, _⟩ := yng s1.heap.objs.size (Nat.le_refl _)
        exact ⟨eob, y1, y2, y3, nod⟩
      · obtain ⟨hb', e⟩ := of_pinsAt z
        obtain ⟨o', e', nc⟩ := hst p.1 hb'
        have : o' = p.2 := Option.some.inj (e'.symm.trans e)
        subst this
        obtain ⟨y1, y2, y3, _, _⟩ := yng p.1 (Nat.le_of_lt (hch2 _ hb'))
        exact ⟨e, y1, y2, y3, nc⟩
    have seen : ∀ {t s' : Shared} {σ' : L2.St} {H' : Hp}, Run (gcxOf P w K mg base Ns qual scope f cdv Aw outer s H E0 [(s1.heap.objs.size, ob)]) ch t σ' H' s' → Seen P w outer H s ch t H' s' ∧ s'.heap.IsGen s1.heap.objs.size s1.gens.size := fun {t s' σ' H'} r =>
      ⟨⟨r.inv.os, r.inv.bare, r.inv.nolimit, r.inv.base, r.inv.hok, fun b hb' => by obtain ⟨o', q1, q2, q3, _, _⟩ := r.pin hb'; exact ⟨q3, o', q1, q2⟩⟩, isg _ (r.inv.pin (s1.heap.objs.size, ob) (List.mem_append_left _ (List.mem_singleton.mpr rfl))).1⟩
    refine seg_func ?_
    refine seg_imp (R := fun n t r s' => ∃ u, r = .ok (.ret u) ∧ ∃ ys v σ' H', n + ys.length = N ∧ Run (gcxOf P w K mg base Ns qual scope f cdv Aw outer s H E0 [(s1.heap.objs.size, ob)]) ch t σ' H' s' ∧ RelV v u ∧ v = .non ∧ Q ys H') (Y := Yq (gcxOf P w K mg base Ns qual scope f cdv Aw outer s H E0 [(s1.heap.objs.size, ob)]) ch N Yl)
      (fun n t r s' h => ?_) (fun n t v s' kap kap' hkk hY => ?_) N ?_
    · obtain ⟨u, rfl, ys, v, σ', H', hn, r, ru, ev, hQ⟩ := h
      subst ev
      have eu : u = Value.none := ru
      subst eu
      exact ⟨.inl rfl, ys, H', hn, (seen r).1, hQ⟩
    · obtain ⟨ys, x, σ', H', hn, rx, r, hy, h3⟩ := hY
      exact ⟨ys, x, H', hn, rx, (seen r).1, (seen r).2, hy, fun s'' z => hkk _ _ (h3 s'' z)⟩
    · refine hq.run Aw _ N [] s2 _ [] _ _ id id s2 (start Ns vs) H _ ⟨far, over_func, rfl, rfl, rfl⟩ (Nat.add_zero _) ⟨fun n ys t s' fl hn hs => ?_, fun n t e s' hx => ?_⟩ r0 hqr
      · cases fl with
        | next =>
          obtain ⟨σ', H', r, hQ⟩ := hs
          exact seg_end (.ok (.ret .none)) ⟨_, rfl, ys, .non, σ', H', hn, r, rfl, rfl, hQ⟩
        | brk => obtain ⟨_, _, _, z⟩ := hs; exact z.elim
        | cont => obtain ⟨_, _, _, z⟩ := hs; exact z.elim
        | ret u =>
          obtain ⟨v, σ', H', r, ru, ev, hQ⟩ := hs
          exact seg_end (.ok (.ret u)) ⟨_, rfl, ys, v, σ', H', hn, r, ru, ev, hQ⟩
      · refine seg_wrap ?_
        rw [over_func]
        refine wpAny_mono (show wpAny (model P w) (Aw.deeper (envOfC qual scope s.heap.objs.size f cdv)) (leaving (envOfC qual scope s.heap.objs.size f cdv) e) (fun _ s'' => L2.CX P w outer H s E0 e s'' ∧ ∀ p ∈ [(s1.heap.objs.size, ob)], s''.heap.get? p.1 = some p.2) (fun _ _ => False) s' from hx) (fun _ s'' z => ?_) fun _ s'' z => z.elim
        obtain ⟨⟨_, _, _, _, _, _, _, _, _, _, _, _, z⟩, _⟩ := z
        exact False.elim z
  exact go _ _ _ _ rfl rfl rfl fun h => Heap.get?_push_size _ rfl
end Gq

set_option Elab.async false
set_option linter.all false
set_option maxRecDepth 100000
set_option maxHeartbeats 4000000
namespace Dk
open PySem PySem.Spec PyProof.Rows L2 TL
open Dn (NXs DnO KAt0 KAt)
/-- scenes_of, told item by item -/
def spScQ (K : PySem.W.Frag) (CH : Addr) : Gq.SpQ := fun vs H N Yl Q => ∃ (hp : Addr) (h : Hd), vs = [.ref hp] ∧ HoAt K CH H hp h ∧ Tabs h.ts ∧ h.ts.length ≤ 6 ∧ N = 200000 ∧
  (∀ (H' : Hp) (ys : List V) (a : Addr) (n : Nat), Same H H' → n ≤ 196608 → Scs H' h ys (List.range n) → ScAt H' a (scn h n) → Yl ys (.ref a) H') ∧
  ∀ (H' : Hp) (ys : List V) (n : Nat), Same H H' → IsRep h n → n ≤ 196608 → Scs H' h ys (List.range (n + 1)) → Q ys H'
section
variable {P : Program} {w : World} {K : PySem.W.Frag} {mg : Str → Option Value} {base : Heap} {CC CH fCi fAd fSn : Addr} {fdCi fdAd fdSn : FuncData}
theorem gdq_scenes {f : Addr} {fd : FuncData} (F : Fun K "scenes_of" "scenes_of" sScenes f fd) (Z : TxtSc P w K mg base CC CH fCi fAd fSn fdCi fdAd fdSn) : Gq.GdOk P w K mg base 6 f fd ["house"] (spScQ K CH) := by
  obtain ⟨oc, od, kV, doc, pm, an, cdv, ct, osl, rfl, lk, hcd⟩ := F.ex
  refine Gq.gd_of (k := 5) lk hcd scScs (fun vs H N Yl Q h => ?_) (fun A outer s H vs N Yl Q pn ch hr h => ?_)
  · obtain ⟨hp, h, rfl, _⟩ := h
    rfl
  · obtain ⟨hp, h, rfl, hho, hT, h6, hN, ky, k⟩ := h
    subst hN
    have hr4 : Room 4 (A.deeper (envOfC (Str.ofString "scenes_of") (defScope sScenes) s.heap.objs.size f cdv)) := hr.mono (by decide)
    have hr1 : Room 1 (A.deeper (envOfC (Str.ofString "scenes_of") (defScope sScenes) s.heap.objs.size f cdv)) := hr.mono (by decide)
    have hu : (A.deeper (envOfC (Str.ofString "scenes_of") (defScope sScenes) s.heap.objs.size f cdv)).units + 16 < cLine := by have := hr.un; omega
    have hpp := per_pos hT
    refine ⟨_, Gq.sqs_cons (Gq.sq_ps (ps_set (i := 1) scScs.nd rfl (.inl rfl) (pe_make Z.M Z.GI hr rfl Z.gC Z.bI .nil pass0 (pa_cons (pv 0) pa_nil))))
      (Gq.sqs_cons (Gq.sq_ps (ps_expr (pe_meth0 (pv 1) Z.cl Z.mAd Z.GA hr4 Z.bAd .nil pass0)))
      (Gq.sqs_cons (Gq.sq_ps (ps_set (i := 2) scScs.nd rfl (.inl rfl) (pe_newP (P := P) (w := w) rfl rfl)))
      (Gq.sqs_cons (Gq.sq_while owns_gcx (pt_cmp (pc_notInP (P := P) (w := w) rfl rfl hu (pe_meth0 (pv 1) Z.cl Z.mSn Z.GS hr1 Z.bSn .nil pass0) (pv 2)) (by rfl))
        (Gq.sqs_cons (Gq.sq_ps (ps_putP (P := P) (w := w) rfl rfl hu (pv 2) (pe_meth0 (pv 1) Z.cl Z.mSn Z.GS hr1 Z.bSn .nil pass0)))
        (Gq.sqs_cons (Gq.sq_yield (pe_meth0 (pv 1) Z.cl Z.mSn Z.GS hr1 Z.bSn .nil pass0))
        (Gq.sqs_cons (Gq.sq_ps (ps_expr (pe_meth0 (pv 1) Z.cl Z.mAd Z.GA hr4 Z.bAd .nil pass0))) Gq.sqs_nil))))
      (Gq.sqs_cons (Gq.sq_yield (pe_meth0 (pv 1) Z.cl Z.mSn Z.GS hr1 Z.bSn .nil pass0)) Gq.sqs_nil)))), ?_⟩
    -- the course
    refine ⟨_, rfl, fun p dx hpn hdx npd => ?_⟩
    have sN : Same H (upd (upd H dx (.own p)) p (.ins CC dx [])) := fun b o e => by
      rw [upd_ne (ne_of_none e hpn), upd_ne (ne_of_none e hdx)]; exact e
    have nhp : hp ≠ p := by
      obtain ⟨⟨d, _, _, _, _, e1, _⟩⟩ := hho
      exact ne_of_none e1 hpn
    refine ⟨p, dx, hp, h, rfl, upd_same, hho.mono sN, nhp, hT, h6, fun H1 k1 co1 _ => ⟨rfl, ?_⟩⟩
    have ho1 := (hho.mono sN).kp k1 upd_same nhp
    have s1 : Same H H1 := fun b o e => k1 b o (ne_of_none e hpn) (sN _ _ e)
    obtain ⟨d1, b1, b2, b3, w1, w2, w3, w4⟩ := id co1
    have g0 := gd_stt h 0
    have hhl : ∀ n, (stt h n).home.length ≤ 50 ∧ (stt h n).carr.length ≤ 50 := fun n => by
      have g := gd_stt h n
      have a1 := up_len g.hu g.hi
      have a2 := up_len g.cu g.ci
      omega
    refine ⟨_, rfl, p, d1, _, rfl, w1, by rfl, p, hp, -1, st0 h, h, rfl, co1, ho1, nhp, hT, h6, g0.hi, (hhl 0).1, (hhl 0).2, fun H2 e2 k2 co2 _ _ => ?_⟩
    have ho2 := ho1.kp k2 w1 nhp
    have s2 : Same H H2 := fun b o e => k2 b o (ne_of_none e hpn) (s1 _ _ e)
    have co2' : CoAt CC H2 p hp ((per h.ts : Nat) : Int) ((0 : Nat) : Int) (stt h (0 + 1)) := co2
    clear co1 co2 k1 k2 s1 ho1 w1 w2 w3 w4 d1 b1 b2 b3
    intro d hd
    have s3 := same_upd (o := DnO P w d []) hd
    have np3 : p ≠ d := by
      obtain ⟨_, _, _, _, z, _⟩ := id co2'
      exact ne_of_none z hd
    have hHd : H d = none := by
      cases z : H d with
      | none => rfl
      | some o => have := s2 _ _ z; rw [hd] at this; cases this
    -- the loop
    refine ⟨fun m ys σ H' => ∃ (n : Nat) (xs : NXs), m = 196609 - n ∧ σ = [some (.ref hp), some (.ref p), some (.ref d)] ∧ CoAt CC H' p hp ((per h.ts : Nat) : Int) (n : Int) (stt h (n + 1)) ∧ HoAt K CH H' hp h ∧ H' d = some (DnO P w d xs) ∧
      xs.map (·.1) = (List.range n).map (fun i => scK (scn h i)) ∧ (∀ q ∈ xs, KAt H' q.1 q.2.1) ∧ ((List.range n).map (scn h)).Nodup ∧ Scs H' h ys (List.range n) ∧ Same H H',
      ⟨_, 0, [], rfl, rfl, co2'.mono s3, ho2.mono s3, upd_same, rfl, fun q hq => (by cases hq), .nil, .nil, s2.trans s3⟩, ?_⟩
    clear co2' ho2 s2 s3 hd
    rintro m ys σ H3 ⟨n, xs, rfl, rfl, co3, ho3, eD, ekeys, hK, nd, hS, s3⟩
    have hn := nd_le hT h6 nd
    obtain ⟨dx3, c1, c2, c3, w1, w2, w3, w4⟩ := id co3
    have hxl : xs.length = n := by
      have := congrArg List.length ekeys
      rw [List.length_map, List.length_map, List.length_range] at this
      exact this
    refine ⟨_, rfl, p, dx3, _, rfl, w1, by rfl, p, hp, _, _, _, rfl, co3, by omega, fun H4 a4 s4 sc4 => ?_⟩
    have eD4 := s4 _ _ eD
    have hK4 : ∀ q ∈ xs, KAt H4 q.1 q.2.1 := fun q hq => (hK q hq).mono fun t zs z => s4 _ _ z
    have esc : scOf ((per h.ts : Nat) : Int) (n : Int) (stt h (n + 1)) = scn h n := rfl
    rw [esc] at sc4
    refine ⟨_, rfl, d, a4, xs, scK (scn h n), rfl, rfl, eD4, hK4, scAt_key sc4, _, rfl, ?_⟩
    rw [atKey_some, ekeys]
    have co4 := co3.mono s4
    have ho4 := ho3.mono s4
    have hS4 := hS.mono fun t zs z => s4 _ _ z
    have s04 := s3.trans s4
    have w14 := s4 _ _ w1
    by_cases hin : scn h n ∈ (List.range n).map (scn h)
    · rw [decide_eq_true (key_in.mpr hin)]
      refine iteF ⟨?_, _, rfl, p, dx3, _, rfl, w14, by rfl, p, hp, _, _, _, rfl, co4, by omega, fun H5 a5 s5 sc5 => ?_⟩
      · rw [hS4.len, List.length_range]; exact Nat.lt_of_le_of_lt hn (by decide)
      rw [esc] at sc5
      have hS5 := hS4.mono fun t zs z => s5 _ _ z
      refine ⟨ky H5 ys a5 n (s04.trans s5) hn hS5 sc5, k H5 _ n (s04.trans s5) ⟨nd, hin⟩ hn ?_⟩
      rw [List.range_succ]
      exact hS5.snoc sc5
    · rw [decide_eq_false (fun z => hin (key_in.mp z))]
      have nd' := nd_succ nd hin
      have hn' := nd_le hT h6 nd'
      refine iteT ⟨fun ys' σ' H' => ∃ (n' : Nat) (xs' : NXs), n' = n + 1 ∧ σ' = [some (.ref hp), some (.ref p), some (.ref d)] ∧ CoAt CC H' p hp ((per h.ts : Nat) : Int) (n' : Int) (stt h (n' + 1)) ∧ HoAt K CH H' hp h ∧ H' d = some (DnO P w d xs') ∧
        xs'.map (·.1) = (List.range n').map (fun i => scK (scn h i)) ∧ (∀ q ∈ xs', KAt H' q.1 q.2.1) ∧ ((List.range n').map (scn h)).Nodup ∧ Scs H' h ys' (List.range n') ∧ Same H H', fun ys' σ' H' ⟨n', xs', e, r⟩ => ⟨196609 - n', by omega, n', xs', rfl, r⟩, ?_⟩
      -- the scene is noted
      refine ⟨_, rfl, _, rfl, p, dx3, _, rfl, w14, by rfl, p, hp, _, _, _, rfl, co4, by omega, fun H5 a5 s5 sc5 => ?_⟩
      rw [esc] at sc5
      have eD5 := s5 _ _ eD4
      have hK5 : ∀ q ∈ xs, KAt H5 q.1 q.2.1 := fun q hq => (hK4 q hq).mono fun t zs z => s5 _ _ z
      have hnone : atKey xs (scK (scn h n)) = none := by
        have := atKey_some xs (scK (scn h n))
        rw [ekeys, decide_eq_false (fun z => hin (key_in.mp z))] at this
        cases z : atKey xs (scK (scn h n)) with
        | none => rfl
        | some v => rw [z] at this; cases this
      refine ⟨d, a5, xs, scK (scn h n), rfl, rfl, eD5, hK5, scAt_key sc5, hnone, by rw [hxl]; exact Nat.lt_of_le_of_lt hn (by decide), ?_⟩
      have tK := dn_tup (o := DnO P w d (xs ++ [(scK (scn h n), a5, Value.bool true)])) eD5
      have kD : Kp d H5 (upd H5 d (DnO P w d (xs ++ [(scK (scn h n), a5, Value.bool true)]))) := kp_upd
      have co6 : CoAt CC (upd H5 d (DnO P w d (xs ++ [(scK (scn h n), a5, Value.bool true)]))) p hp ((per h.ts : Nat) : Int) (n : Int) (stt h (n + 1)) := by
        obtain ⟨e5, q1, q2, q3, z1, z2, z3, z4⟩ := co4.mono s5
        have nl : ∀ a zs, H5 a = some (.lst zs) → a ≠ d := fun a zs hz z => by rw [z, eD5] at hz; cases hz
        exact ⟨e5, q1, q2, q3, kD _ _ np3 z1, kD _ _ (nl _ _ z2) z2, kD _ _ (nl _ _ z3) z3, kD _ _ (nl _ _ z4) z4⟩
      have ho6 : HoAt K CH (upd H5 d (DnO P w d (xs ++ [(scK (scn h n), a5, Value.bool true)]))) hp h := by
        obtain ⟨⟨e5, q1, q2, q3, q4, z1, z2, z3, z4, z5⟩⟩ := ho4.mono s5
        have nsq : ∀ a zs, SqT K H5 a zs → SqT K (upd H5 d (DnO P w d (xs ++ [(scK (scn h n), a5, Value.bool true)]))) a zs := fun a zs hz => by
          rcases hz with (hz | ⟨o, hz⟩) | hz
          · exact .inl (.inl (tK _ _ hz))
          · exact .inl (.inr ⟨o, kD _ _ (fun z => by rw [z, eD5] at hz; cases hz) hz⟩)
          · exact .inr hz
        exact ⟨⟨e5, q1, q2, q3, q4, kD _ _ (fun z => by rw [z, eD5] at z1; cases z1) z1, nsq _ _ z2, nsq _ _ z3, nsq _ _ z4, z5.mono tK⟩⟩
      have hK6 : ∀ q ∈ xs ++ [(scK (scn h n), a5, Value.bool true)], KAt (upd H5 d (DnO P w d (xs ++ [(scK (scn h n), a5, Value.bool true)]))) q.1 q.2.1 := fun q hq => by
        rcases List.mem_append.mp hq with hq | hq
        · exact (hK5 q hq).mono tK
        · rw [List.mem_singleton.mp hq]; exact (scAt_key sc5).mono tK
      have hS6 := (hS4.mono fun t zs z => s5 _ _ z).mono tK
      have s06 : Same H (upd H5 d (DnO P w d (xs ++ [(scK (scn h n), a5, Value.bool true)]))) := fun b o e => kD _ _ (ne_of_none e hHd) (s5 _ _ (s04 _ _ e))
      have eD6 : (upd H5 d (DnO P w d (xs ++ [(scK (scn h n), a5, Value.bool true)]))) d = some (DnO P w d (xs ++ [(scK (scn h n), a5, Value.bool true)])) := upd_same
      have ek6 : (xs ++ [(scK (scn h n), a5, Value.bool true)]).map (·.1) = (List.range (n + 1)).map (fun i => scK (scn h i)) := by
        rw [List.map_append, ekeys, List.range_succ, List.map_append]; rfl
      generalize xs ++ [(scK (scn h n), a5, Value.bool true)] = xs6 at co6 ho6 hK6 hS6 s06 eD6 ek6
      generalize upd H5 d (DnO P w d xs6) = H6 at co6 ho6 hK6 hS6 s06 eD6
      clear tK kD co4 ho4 hS4 hK4 hK5 eD4 eD5 sc4 sc5 s04 w14 hK hS co3 ho3 eD ekeys s4 s5 w1 w2 w3 w4
      obtain ⟨dx6, c1, c2, c3, w1, w2, w3, w4⟩ := id co6
      -- it is yielded
      refine ⟨by rw [hS6.len, List.length_range]; exact Nat.lt_of_le_of_lt hn (by decide), _, rfl, p, dx6, _, rfl, w1, by rfl, p, hp, _, _, _, rfl, co6, by omega, fun H7 a7 s7 sc7 => ?_⟩
      rw [esc] at sc7
      have hS7 : Scs H7 h (ys ++ [.ref a7]) (List.range (n + 1)) := by
        rw [List.range_succ]
        exact (hS6.mono fun t zs z => s7 _ _ z).snoc sc7
      refine ⟨ky H7 ys a7 n (s06.trans s7) hn (hS6.mono fun t zs z => s7 _ _ z) sc7, ?_⟩
      -- the next tick
      have co7 := co6.mono s7
      have ho7 := ho6.mono s7
      have g := gd_stt h (n + 1)
      refine ⟨_, rfl, p, dx6, _, rfl, s7 _ _ w1, by rfl, p, hp, (n : Int), stt h (n + 1), h, rfl, co7, ho7, nhp, hT, h6, g.hi, (hhl (n + 1)).1, (hhl (n + 1)).2, fun H8 e8 k8 co8 _ _ => ?_⟩
      have tK8 := kp_tup2 k8 (s7 _ _ w1)
      refine ⟨n + 1, xs6, rfl, rfl, co8, ho7.kp k8 (s7 _ _ w1) nhp, k8 _ _ np3.symm (s7 _ _ eD6), ek6, fun q hq => ((hK6 q hq).mono fun t zs z => s7 _ _ z).mono tK8, nd', hS7.mono tK8, fun b o e => k8 _ _ (ne_of_none e hpn) (s7 _ _ (s06 _ _ e))⟩
end
end Dk

set_option autoImplicit false
set_option Elab.async false
set_option linter.all false
set_option maxRecDepth 100000
set_option maxHeartbeats 2000000
/-! A generator's body where the consumer may store into its own frame F (which is older than the generator's call) and change younger objects of its own (ch) between two items. -/
namespace Gr
open PySem PySem.Spec PyProof.Rows GenW L2
open Gq (Stand Ge Tq qP)
/-- the context over another base -/
abbrev rb (X : L2.Cx) (h : Heap) : L2.Cx := { X with s_0 := { X.s_0 with heap := h } }
/-- the base, with the consumer's frame as it stood when the generator was woken -/
structure Dc (s0 : Heap) (F : Addr) (h : Heap) (t : Heap) : Prop where
  sz : h.objs.size = s0.objs.size
  ot : ∀ b, b ≠ F → h.get? b = s0.get? b
  at_ : h.get? F = t.get? F
/-- the consumer's objects -/
structure Far (X : Cx) (F : Addr) (ch : List Addr) : Prop where
  yg : ∀ b ∈ ch, X.s_0.heap.objs.size ≤ b
  fr : ∀ b ∈ ch, b ≠ X.env.locals
  cl : ∀ b ∈ ch, ∀ x c, X.env.cells.lookup x = some c → c ≠ b
  pn : ∀ b ∈ ch, ∀ p ∈ X.pn, p.1 ≠ b
  ff : F ∈ X.fs
  fo : F < X.s_0.heap.objs.size
  fc : ∀ x c, X.env.cells.lookup x = some c → c ≠ F
structure Run (X : Cx) (F : Addr) (ch : List Addr) (t : Shared) (σ : L2.St) (H : Hp) (s : Shared) : Prop where
  st : Stand ch t
  inv : ∃ h, Dc X.s_0.heap F h t.heap ∧ Inv (rb X h) (pinsAt ch t.heap) σ H s
/-- what the consumer does while the generator sleeps -/
structure Took (F : Addr) (ch : List Addr) (s s' : Shared) : Prop where
  os : s'.os = s.os
  bare : AllBare s'.gens
  keep : ∀ b o, b ∉ ch → b ≠ F → s.heap.get? b = some o → s'.heap.get? b = some o
  st : Stand ch s'
  ns : ∃ m, s'.heap.Ns F m
theorem Run.pin {X : Cx} {F : Addr} {ch : List Addr} {t s : Shared} {σ : L2.St} {H : Hp} (r : Run X F ch t σ H s) {b : Addr} (hb : b ∈ ch) : ∃ o, t.heap.get? b = some o ∧ s.heap.get? b = some o ∧ H b = none ∧ b ≠ X.env.locals ∧ b ∉ X.fs := by
  obtain ⟨o, e, _⟩ := r.st b hb
  obtain ⟨h, _, I⟩ := r.inv
  obtain ⟨h1, h2, h3, h4, _⟩ := I.pin (b, o) (List.mem_append_right _ (mem_pinsAt hb e))
  exact ⟨o, e, h1, h2, h3, h4⟩
theorem Run.woken {X : Cx} {F : Addr} {ch : List Addr} {t s s' : Shared} {σ : L2.St} {H : Hp} (f : Far X F ch) (r : Run X F ch t σ H s) (k : Took F ch s s') : Run X F ch s' σ H s' := by
  have pin := fun {b : Addr} (hb : b ∈ ch) => r.pin hb
  obtain ⟨h, dc, I1⟩ := r.inv
  have nH : ∀ b u, H b = some u → b ∉ ch := fun b u e hb => by
    obtain ⟨_, _, _, n, _⟩ := pin hb
    rw [n] at e; cases e
  have FnL : F ≠ X.env.locals := Nat.ne_of_lt (Nat.lt_of_lt_of_le f.fo (by have := I1.ok.above; rw [show (rb X h).s_0.heap.objs.size = h.objs.size from rfl, dc.sz] at this; exact this))
  obtain ⟨oF0, hF0⟩ : ∃ o, h.get? F = some o := by
    obtain ⟨_, o, e, _⟩ := I1.ok.funs.mem (show F ∈ _ from f.ff)
    exact ⟨o, e⟩
  have HF : H F = none := I1.base.free F oF0 hF0 (I1.ok.frf F f.ff) (fun z => I1.ok.exfs F z f.ff)
  have HF0 : X.H_0 F = none := I1.ok.frf F f.ff
  obtain ⟨m, hm⟩ := k.ns
  obtain ⟨oF, es, ep, eF, dF, rF⟩ := id hm
  generalize hh' : h.update F (fun _ => oF) = h'
  have zz : h'.objs.size = h.objs.size := by
    rw [← hh']
    unfold Heap.update
    first | simp | (split <;> simp) | rfl
  have hFn : h'.get? F = some oF := by
    rw [← hh']
    exact Heap.get?_update_self _ hF0 (Heap.get?_some_iff.mp eF).2
  have hO : ∀ b, b ≠ F → h'.get? b = h.get? b := fun b n => by
    rw [← hh']; exact Heap.get?_update_other _ _ (Ne.symm n)
  have sb : Heap.SameBut F h h' := ⟨zz, hO⟩
  have nsF : h'.Ns F m := ⟨oF, es, ep, hFn, dF, rF⟩
  have dc' : Dc X.s_0.heap F h' s'.heap := ⟨zz.trans dc.sz, fun b n => (hO b n).trans (dc.ot b n), hFn.trans eF.symm⟩
  have nbs : ∀ b o, X.base.get? b = some o → b ≠ F := fun b o e z => by
    subst z
    exact I1.ok.nofr e f.ff
  have ok : (rb X h').Ok := ⟨I1.ok.mod, I1.ok.kind, I1.ok.glob, I1.ok.blt, by show h'.objs.size ≤ _; rw [zz]; exact I1.ok.above, I1.ok.inj, I1.ok.has, fun x c e1 e2 => by show h'.objs.size ≤ c; rw [zz]; exact I1.ok.cab x c e1 e2, I1.ok.hd, I1.ok.frames, I1.ok.stk, I1.ok.exf,
    fun b o e => ⟨(hO b (nbs b o e)).trans (I1.ok.bs b o e).1, (I1.ok.bs b o e).2⟩, by show _ ≤ h'.objs.size; rw [zz]; exact I1.ok.bsz, I1.ok.noex, I1.ok.exfs, PySem.Heap.FunFrames.sameBut sb nsF I1.ok.funs, I1.ok.frf⟩
  have low : ∀ {b : Addr} {o : Obj}, h'.get? b = some o → b ∉ ch := fun {b o} e hb => by
    have := Heap.lt_size e
    rw [zz, dc.sz] at this
    exact absurd (Nat.lt_of_lt_of_le this (f.yg b hb)) (Nat.lt_irrefl _)
  have kc : ∀ {x : Str} {c : Addr} {v : Option Value}, X.env.cells.lookup x = some c → s.heap.IsCell c v → s'.heap.IsCell c v := fun {x c v} e ⟨o, ho, hd⟩ =>
    ⟨o, k.keep c o (fun hb => f.cl c hb x c e rfl) (f.fc x c e) ho, hd⟩
  refine ⟨k.st, h', dc', ⟨ok, k.os.trans I1.os, k.bare, ⟨fun b o e n hb hx => ?_, fun b o e n hb hx => ?_, fun b o e n hx => ?_, fun b o e hx => ?_, I1.base.tups, I1.base.frzs, I1.base.tbls⟩, ?_, fun x c e => ?_, I1.free, I1.freeC, fun p hp => ?_, ?_, I1.len⟩⟩
  · have nF : b ≠ F := fun z => hb (by rw [z]; exact f.ff)
    exact k.keep b o (low e) nF (I1.base.keep b o ((hO b nF).symm.trans e) n hb hx)
  · by_cases z : b = F
    · subst z
      have e : h'.get? b = some o := e
      rw [hFn] at e
      cases e
      exact ⟨oF.slots, eF⟩
    · obtain ⟨sl, q⟩ := I1.base.slot b o ((hO b z).symm.trans e) n hb hx
      exact ⟨sl, k.keep b _ (low e) z q⟩
  · by_cases z : b = F
    · rw [z]; exact HF
    · exact I1.base.free b o ((hO b z).symm.trans e) n hx
  · by_cases z : b = F
    · exact ⟨oF, by rw [z]; exact eF⟩
    · obtain ⟨o', q⟩ := I1.base.there b o ((hO b z).symm.trans e) hx
      exact ⟨o', k.keep b _ (low e) z q⟩
  · obtain ⟨m1, hn, hl⟩ := I1.loc
    refine ⟨m1, ?_, fun i x v e1 e2 e3 => ?_⟩
    · obtain ⟨ob, es1, ep1, e, rr⟩ := hn
      exact ⟨ob, es1, ep1, k.keep _ ob (fun hb => f.fr _ hb rfl) (Ne.symm FnL) e, rr⟩
    · obtain ⟨u, ru, l⟩ := hl i x v e1 e2 e3
      refine ⟨u, ru, ?_⟩
      rcases l with l | ⟨l1, c, l2, l3⟩
      · exact .inl l
      · exact .inr ⟨l1, c, l2, kc l2 l3⟩
  · obtain ⟨v, z⟩ := I1.cell x c e
    exact ⟨v, kc e z⟩
  · rcases List.mem_append.mp hp with z | z
    · obtain ⟨q1, q2, q3, q4, q5⟩ := I1.pin p (List.mem_append_left _ z)
      exact ⟨k.keep _ _ (fun hb => f.pn _ hb p z rfl) (fun e => q4 (by rw [e]; exact f.ff)) q1, q2, q3, q4, q5⟩
    · obtain ⟨hb, e⟩ := of_pinsAt z
      obtain ⟨o, e', nc⟩ := k.st p.1 hb
      obtain ⟨_, _, _, n1, n2, n3⟩ := pin hb
      have eo : o = p.2 := Option.some.inj (e'.symm.trans e)
      subst eo
      exact ⟨e, n1, n2, n3, nc⟩
  · intro b u q
    refine (I1.hok b u q).stay (fun c v hc y => k.keep c v ?_ ?_ y) (fun _ y => y) fun _ _ y => y
    · rcases hc with y | y
      · rw [y]; exact nH b u q
      · exact nH c _ y
    · rintro rfl
      rcases hc with y | y
      · rw [y] at HF; rw [HF] at q; cases q
      · rw [HF] at y; cases y
/-! ### statements -/
def Aft (X : Cx) (F : Addr) (ch : List Addr) (t : Shared) (D : Ge) (ys : List V) : Flow → Shared → Prop
  | .next, s => ∃ σ H, Run X F ch t σ H s ∧ D.nx ys σ H
  | .brk, s => ∃ σ H, Run X F ch t σ H s ∧ D.bk ys σ H
  | .cont, s => ∃ σ H, Run X F ch t σ H s ∧ D.ct ys σ H
  | .ret u, s => ∃ v σ H, Run X F ch t σ H s ∧ RelV v u ∧ D.rt ys v H
section
variable (X : Cx) (F : Addr) (ch : List Addr) (N : Nat) (Yl : List V → V → Hp → Prop)
def Yq : Protocol := fun n t v s kap => ∃ ys x σ H, n + 1 + ys.length = N ∧ RelV x v ∧ Run X F ch t σ H s ∧ Yl ys x H ∧ ∀ s', Took F ch s s' → kap (.send .none) s'
structure At (A : Around) (c : Code) (fs : List Frame) (gd : Bool → Bool) : Prop where
  far : Far X F ch
  over : A.over c fs = X.A
  sp : splitAtGen fs = none
  gu : fs.any Frame.guarded = false
  gd : gd false = false
structure Then (A : Around) (R : GenEnd) (c : Code) (fs : List Frame) (K : Flow → Sem PySem.Fin) (J : Value → Sem PySem.Fin) (D : Ge) : Prop where
  ok : ∀ (n : Nat) (ys : List V) (t s : Shared) (f : Flow), n + ys.length = N → Aft X F ch t D ys f s → Seg (model X.prog X.w) A R (Yq X F ch N Yl) n t c (K f) fs s
  ex : ∀ (n : Nat) (t : Shared) (e : Value) (s : Shared), X.xe e s → Seg (model X.prog X.w) A R (Yq X F ch N Yl) n t c (J e) fs s
structure Sq (st : Stmt) (q : Tq) : Prop where
  run : ∀ (A : Around) (R : GenEnd) (n : Nat) (ys : List V) (t : Shared) (c : Code) (fs : List Frame) (K : Flow → Sem PySem.Fin) (J : Value → Sem PySem.Fin) (gd : Bool → Bool) (lv : List Value → List Value) (s : Shared) (σ : L2.St) (H : Hp) (D : Ge),
    At X F ch A c fs gd → n + ys.length = N → Then X F ch N Yl A R c fs K J D → Run X F ch t σ H s → q D ys σ H → Seg (model X.prog X.w) A R (Yq X F ch N Yl) n t c ((exec st X.env).wrap K J gd lv) fs s
structure Sqs (st : List Stmt) (q : Tq) : Prop where
  run : ∀ (A : Around) (R : GenEnd) (n : Nat) (ys : List V) (t : Shared) (c : Code) (fs : List Frame) (K : Flow → Sem PySem.Fin) (J : Value → Sem PySem.Fin) (gd : Bool → Bool) (lv : List Value → List Value) (s : Shared) (σ : L2.St) (H : Hp) (D : Ge),
    At X F ch A c fs gd → n + ys.length = N → Then X F ch N Yl A R c fs K J D → Run X F ch t σ H s → q D ys σ H → Seg (model X.prog X.w) A R (Yq X F ch N Yl) n t c ((execs st X.env).wrap K J gd lv) fs s
end
section
variable {X : Cx} {F : Addr} {ch : List Addr} {N : Nat} {Yl : List V → V → Hp → Prop} {st : Stmt} {rest : List Stmt}
theorem aft_of {t s : Shared} {h : Heap} {D : Ge} {ys : List V} {f : Flow} (h0 : Stand ch t) (dc : Dc X.s_0.heap F h t.heap) (q : SP (rb X h) (pinsAt ch t.heap) (D.at ys) f s) : Aft X F ch t D ys f s := by
  cases f with
  | next => obtain ⟨σ, H, I, q⟩ := q; exact ⟨σ, H, ⟨h0, h, dc, I⟩, q⟩
  | brk => obtain ⟨σ, H, I, q⟩ := q; exact ⟨σ, H, ⟨h0, h, dc, I⟩, q⟩
  | cont => obtain ⟨σ, H, I, q⟩ := q; exact ⟨σ, H, ⟨h0, h, dc, I⟩, q⟩
  | ret u => obtain ⟨v, σ, H, I, r, q⟩ := q; exact ⟨v, σ, H, ⟨h0, h, dc, I⟩, r, q⟩
theorem sq_ps {u : TS} (h : ∀ h, PS (rb X h) st u) : Sq X F ch N Yl st (qP u) := by
  refine ⟨fun A R n ys t c fs K J gd lv s σ H D a hn k r hu => seg_wrap ?_⟩
  rw [a.over]
  obtain ⟨h0, dc, I⟩ := r.inv
  exact wpAny_mono ((h h0).run _ s σ H (D.at ys) I hu) (fun f s' q => k.ok n ys t s' f hn (aft_of r.st dc q)) fun e s' q => k.ex n t e s' q
theorem sqs_nil : Sqs X F ch N Yl [] (fun D ys σ H => D.nx ys σ H) :=
  ⟨fun A R n ys t c fs K J gd lv s σ H D a hn k r hu => seg_execs_nil (k.ok n ys t s .next hn ⟨σ, H, r, hu⟩)⟩
theorem sqs_cons {q1 q2 : Tq} (h1 : Sq X F ch N Yl st q1) (h2 : Sqs X F ch N Yl rest q2) : Sqs X F ch N Yl (st :: rest) (fun D ys σ H => q1 { D with nx := fun ys' σ' H' => q2 D ys' σ' H' } ys σ H) := by
  refine ⟨fun A R n ys t c fs K J gd lv s σ H D a hn k r hu => seg_execs_cons ?_⟩
  refine h1.run A R n ys t c fs _ J gd lv s σ H _ a hn ⟨fun n' ys' t' s' f hn' hf => ?_, k.ex⟩ r hu
  cases f with
  | next =>
    obtain ⟨σ', H', r', hq⟩ := hf
    exact h2.run A R n' ys' t' c fs K J gd lv s' σ' H' D a hn' k r' hq
  | brk => exact k.ok n' ys' t' s' .brk hn' hf
  | cont => exact k.ok n' ys' t' s' .cont hn' hf
  | ret u => exact k.ok n' ys' t' s' (.ret u) hn' hf
theorem sq_yield {e : Expr} {te : TE} {yp pos : Pos} (he : ∀ h, PE (rb X h) e te) (hco : X.env.scope.isCoroutine = false := by rfl) (hi : interactive X.env = false := by rfl) : Sq X F ch N Yl (.Expr (.Yield (some e) yp) pos) (Gq.qY N Yl te) := by
  refine ⟨fun A R n ys t c fs K J gd lv s σ H D a hn k r hu => ?_⟩
  obtain ⟨hl, hu⟩ := hu
  obtain ⟨m, rfl⟩ : ∃ m, n = m + 1 := ⟨n - 1, by omega⟩
  refine seg_Expr_Yield a.sp a.gd a.gu ?_ hco hi
  rw [a.over]
  obtain ⟨h0, dc, I⟩ := r.inv
  refine wpAny_mono ((he h0).run _ s σ H _ I hu) (fun v s' hv => ?_) fun x s' hx => k.ex _ t x s' hx
  obtain ⟨x, H1, I1, rv, hy, hq⟩ := hv
  have r1 : Run X F ch t σ H1 s' := ⟨r.st, h0, dc, I1⟩
  intro kap hk
  refine ⟨ys, x, σ, H1, hn, rv, r1, hy, fun s'' z => hk .none s'' ?_⟩
  refine k.ok m (ys ++ [x]) s'' s'' .next ?_ ⟨σ, H1, r1.woken a.far z, hq⟩
  rw [List.length_append, List.length_singleton]; omega
end
end Gr

set_option Elab.async false
set_option linter.all false
set_option maxRecDepth 100000
set_option maxHeartbeats 2000000
namespace Gr
open PySem PySem.Spec PyProof.Rows GenW L2
open Gq (Stand Ge Tq qW outK)
section
variable {X : Cx} {F : Addr} {ch : List Addr} {N : Nat} {Yl : List V → V → Hp → Prop}
theorem at_in {A : Around} {c c' : Code} {fs : List Frame} {gd : Bool → Bool} {k : Result → Sem PySem.Fin} {l kp : List Value} {p : Pos} (a : At X F ch A c fs gd) (hw : c'.weight = 0) (hu : c'.cUnits = 0) : At X F ch A c' (.ret k none (gd false) l c p kp :: fs) id := by
  refine ⟨a.far, (over_loop hw hu).trans a.over, ?_, ?_, rfl⟩
  · show (splitAtGen fs).map _ = none
    simp [a.sp]
  · show (gd false || fs.any Frame.guarded) = false
    simp [a.gd, a.gu]
/-- an exception that came back out of a loop -/
theorem back_seg {A : Around} {R : GenEnd} {c : Code} {fs : List Frame} {K : Flow → Sem PySem.Fin} {J : Value → Sem PySem.Fin} {gd : Bool → Bool} {lv : List Value → List Value} {D : Ge} {n : Nat} {t s : Shared} {e : Value} (a : At X F ch A c fs gd) (k : Then X F ch N Yl A R c fs K J D)
    (h : cameBackBy (model X.prog X.w) X.A X.env X.xe e s) : Seg (model X.prog X.w) A R (Yq X F ch N Yl) n t c (outK X K J gd lv (.error e)) fs s := by
  show Seg _ _ _ _ _ _ _ (((cameBack X.env e).bind fun _ => Sem.raise (α := Flow) e).wrap K J gd lv) _ _
  rw [Sem.bind_eq_wrap, Sem.wrap_wrap]
  refine seg_wrap ?_
  rw [a.over]
  exact wpAny_mono h (fun _ s' q => k.ex n t e s' q) fun y s' q => k.ex n t y s' q
theorem sq_while {test : Expr} {body : List Stmt} {pos : Pos} {tc : TT} {tb : Tq} (hp : PassesOwn (model X.prog X.w) X.A X.env X.xe) (hc : ∀ h, PT (rb X h) test tc) (hb : Sqs X F ch N Yl body tb) : Sq X F ch N Yl (.While test body [] pos) (qW tc tb) := by
  refine ⟨fun A R n ys t c fs K J gd lv s σ H D a hn k r hu => ?_⟩
  obtain ⟨W, ⟨m0, w0⟩, turn⟩ := hu
  refine seg_While fun p => ?_
  have inn := fun (kk : Result → Sem PySem.Fin) => at_in (k := kk) (c' := .whileLoop test body [] X.env) (l := lv []) (kp := []) (p := p) a rfl rfl
  have all : ∀ (m n : Nat) (ys : List V) (t s : Shared) (σ : L2.St) (H : Hp), n + ys.length = N → W m ys σ H → Run X F ch t σ H s →
      Seg (model X.prog X.w) A R (Yq X F ch N Yl) n t (.whileLoop test body [] X.env) ((model X.prog X.w).den (.whileLoop test body [] X.env)) (.ret (outK X K J gd lv) none (gd false) (lv []) c p [] :: fs) s := by
    intro m
    induction m using Nat.strongRecOn with
    | ind m ih =>
      intro n ys t s σ H hn w r
      have out : ∀ (n : Nat) (t : Shared) (x : Value) (s' : Shared), X.xe x s' → Seg (model X.prog X.w) A R (Yq X F ch N Yl) n t (.whileLoop test body [] X.env)
          ((do noteFrame x X.env; theTreesLotGoes x : Sem Unit).wrap (fun _ => .raise x) .raise id id) (.ret (outK X K J gd lv) none (gd false) (lv []) c p [] :: fs) s' := by
        intro n t x s' hx
        refine seg_wrap ?_
        rw [(inn _).over]
        refine wpAny_bind (wpAny_mono (hp x s' hx) (fun _ s2 q => wpAny_theTreesLotGoes (seg_leaf (.error x) (back_seg a k q))) fun y s2 q => seg_leaf (.error y) (back_seg a k q))
      refine seg_whileLoop ?_
      rw [(inn _).over]
      obtain ⟨h0, dc, I0⟩ := r.inv
      refine wpAny_mono ((hc h0).run _ s σ H _ I0 (turn m ys σ H w)) (fun b s' hb' => ?_) fun x s' hx => out n t x s' hx
      obtain ⟨H2, I2, q2⟩ := hb'
      have r2 : Run X F ch t σ H2 s' := ⟨r.st, h0, dc, I2⟩
      by_cases cb : b = true
      · subst cb
        rw [if_pos rfl] at q2 ⊢
        obtain ⟨Nx, hNx, q2⟩ := q2
        refine hb.run A R n ys t _ _ _ _ id id s' σ H2 _ (inn _) hn ⟨fun n' ys' t' s3 f hn' hf => ?_, fun n' t' x s3 hx => out n' t' x s3 hx⟩ r2 q2
        have more : ∀ {ys' : List V} {σ3 : L2.St} {H3 : Hp} {n' : Nat} {t' s3 : Shared}, n' + ys'.length = N → Run X F ch t' σ3 H3 s3 → Nx ys' σ3 H3 → Seg (model X.prog X.w) A R (Yq X F ch N Yl) n' t' (.whileLoop test body [] X.env) (.pure (.again (.whileLoop test body [] X.env))) (.ret (outK X K J gd lv) none (gd false) (lv []) c p [] :: fs) s3 := by
          intro ys' σ3 H3 n' t' s3 hn' r3 hx
          obtain ⟨m', hm, w'⟩ := hNx ys' σ3 H3 hx
          exact seg_again rfl (ih m' hm n' ys' t' s3 σ3 H3 hn' w' r3)
        cases f with
        | next => obtain ⟨σ3, H3, r3, q3⟩ := hf; exact more hn' r3 q3
        | cont => obtain ⟨σ3, H3, r3, q3⟩ := hf; exact more hn' r3 q3
        | brk => exact seg_leaf (.ok .next) (k.ok n' ys' t' s3 .next hn' hf)
        | ret v => exact seg_leaf (.ok (.ret v)) (k.ok n' ys' t' s3 (.ret v) hn' hf)
      · rw [if_neg cb] at q2 ⊢
        exact seg_execs_nil (seg_leaf (.ok .next) (k.ok n ys t s' .next hn ⟨σ, H2, r2, q2⟩))
  exact all m0 n ys t s σ H hn w0 r
end
end Gr

set_option autoImplicit false
set_option Elab.async false
set_option linter.all false
set_option maxRecDepth 100000
set_option maxHeartbeats 2000000
namespace Gr
open PySem PySem.Spec PyProof.Rows GenW L2
open Gq (Stand Ge Tq SpQ)
/-- what the def's state and the consumer's objects are, seen from outside -/
structure Seen (P : Program) (w : World) (outer : List Env) (H : Hp) (s0 : Shared) (F : Addr) (ch : List Addr) (t : Shared) (H' : Hp) (s : Shared) : Prop where
  os : s.os = s0.os
  bare : AllBare s.gens
  lim : s.heap.NoLimit
  un : ∃ h, Dc s0.heap F h t.heap ∧ Un (frs outer) [] H H' h s.heap
  ok : HOk P w H' s.heap
  mine : ∀ b ∈ ch, H' b = none ∧ ∃ o, t.heap.get? b = some o ∧ s.heap.get? b = some o
/-- an item, seen from outside -/
def Item (P : Program) (w : World) (outer : List Env) (H : Hp) (s0 : Shared) (F : Addr) (ch : List Addr) (N : Nat) (Yl : List V → V → Hp → Prop) (a : Addr) (g : Nat) : Protocol := fun n t v s kap =>
  ∃ ys x H', n + 1 + ys.length = N ∧ RelV x v ∧ Seen P w outer H s0 F ch t H' s ∧ s.heap.IsGen a g ∧ Yl ys x H' ∧ ∀ s', Took F ch s s' → kap (.send .none) s'
/-- the end, seen from outside: nothing is let out -/
def Over (P : Program) (w : World) (outer : List Env) (H : Hp) (s0 : Shared) (F : Addr) (ch : List Addr) (N : Nat) (Q : List V → Hp → Prop) : GenEnd := fun n t r s =>
  (r = .ok (.ret .none) ∨ r = .ok .next) ∧ ∃ ys H', n + ys.length = N ∧ Seen P w outer H s0 F ch t H' s ∧ Q ys H'
/-- a generator that has not begun -/
def Born (P : Program) (w : World) (k : Nat) (outer : List Env) (H : Hp) (s0 : Shared) (N : Nat) (Yl : List V → V → Hp → Prop) (Q : List V → Hp → Prop) (u : Value) (s' : Shared) : Prop :=
  ∃ (a : Addr) (g : Nat) (c : Code), u = .ref a ∧ s0.heap.objs.size ≤ a ∧ a < s'.heap.objs.size ∧ s'.heap.IsGen a g ∧ s'.gens[g]? = some (.fresh c) ∧ s'.os = s0.os ∧ AllBare s'.gens ∧ s'.heap.NoLimit ∧ (∀ b o, s0.heap.get? b = some o → s'.heap.get? b = some o) ∧
    ∀ (A : Around) (F : Addr) (ch : List Addr) (s2 : Shared), Room k A → A.frames = some outer → F ∈ frs outer → (∀ b ∈ ch, s'.heap.objs.size ≤ b) → (∀ b o, s'.heap.get? b = some o → s2.heap.get? b = some o) → Stand ch s2 → s2.os = s0.os → AllBare s2.gens →
      Seg (model P w) A (Over P w outer H s0 F ch N Q) (Item P w outer H s0 F ch N Yl a g) N s2 c ((model P w).den c) [] s2
structure GdOk (P : Program) (w : World) (K : PySem.W.Frag) (mg : Str → Option Value) (base : Heap) (k : Nat) (f : Addr) (fd : FuncData) (ps : List Str) (sp : SpQ) : Prop where
  len : ∀ vs H N Yl Q, sp vs H N Yl Q → vs.length = ps.length
  run : ∀ (A : Around) (outer : List Env) (s : Shared) (H : Hp) (args : Args) (us : List Value) (vs : List V) (N : Nat) (Yl : List V → V → Hp → Prop) (Q : List V → Hp → Prop), Room k A → Env0 P w K mg base A outer s H → BindsTo s fd args (ps.zip us) → Vals vs us → sp vs H N Yl Q →
    codeAny (model P w) A (.call (.ref f) args) (fun r s' => match r with
      | .ok (.ret u) => Born P w k outer H s N Yl Q u s'
      | _ => False) s
theorem gd_of {P : Program} {w : World} {K : PySem.W.Frag} {mg : Str → Option Value} {base : Heap} {k : Nat} {f : Addr} {name qual : Str} {params : Arguments} {body : List Stmt} {scope : Scope} {dV kV doc pm cdv ct oc : Value} {an od : Option Addr} {osl : Array (Option Value)} {Ns ps : List Str} {sp : SpQ}
    (lk : K.lookup f = some ⟨oc, od, .func (PySem.W.fnOf name qual params body scope dV kV doc pm an cdv ct), osl⟩) (hcd : PySem.W.codeIn K cdv qual = true) (S : GScope Ns ps scope) (len : ∀ vs H N Yl Q, sp vs H N Yl Q → vs.length = ps.length)
    (hbody : ∀ (A : Around) (outer : List Env) (s : Shared) (H : Hp) (vs : List V) (N : Nat) (Yl : List V → V → Hp → Prop) (Q : List V → Hp → Prop) (pn : List (Addr × Obj)) (F : Addr) (ch : List Addr), Room k (A.deeper (envOfC qual scope s.heap.objs.size f cdv)) → sp vs H N Yl Q →
      ∃ q, Sqs (gcxOf P w K mg base Ns qual scope f cdv A outer s H E0 pn) F ch N Yl body q ∧ q { nx := fun ys _ H' => Q ys H', rt := fun ys v H' => v = .non ∧ Q ys H' } [] (start Ns vs) H) :
    GdOk P w K mg base (k + 1) f (PySem.W.fnOf name qual params body scope dV kV doc pm an cdv ct) ps sp := by
  refine ⟨len, fun A outer s H args us vs N Yl Q hr e0 hb rv hsp => ?_⟩
  have hl := len _ _ _ _ _ hsp
  have KX : K.In s.heap := e0.mod.kin.keeps fun b o e => (e0.bs b o e).1
  have lim : s.heap.NoLimit := e0.mod.nolimit.keeps fun b o e => (e0.bs b o e).1
  have hk : ∀ y ∈ ps.zip us, scope.names.lookup y.1 = some .local ∨ (scope.names.lookup y.1 = some .cell ∧ ((cellsFrom (s.heap.objs.size + 1) scope.names []).lookup y.1).isSome = true) := by
    rintro ⟨x, v⟩ hy
    rcases S.par x (List.of_mem_zip hy).1 with q | q
    · exact .inl q
    · exact .inr ⟨q, PySem.W.cellsFrom_some _ _ _ (.inl q)⟩
  refine codeAny_call_generator hr.depth (KX _ _ lk) rfl S.co S.gen rfl (PySem.W.codeRec_of KX hcd) (hb _ _ _ _ (wpAny_newFunctionEnv_cells S.kind hk fun env he s1 x => ?_))
  subst he
  have lim1 : s1.heap.NoLimit := lim.keeps x.toInCall.keep
  refine ⟨lim1, ?_⟩
  obtain ⟨h1, tk, es, hk1⟩ := x.done
  have os1 : s1.os = s.os := by rw [es]
  have gs1 : s1.gens = s.gens := by rw [es]
  have lt1 : s.heap.objs.size < s1.heap.objs.size := x.toInCall.ns.lt
  have kp1 : ∀ b o, s.heap.get? b = some o → s1.heap.get? b = some o := x.toInCall.keep
  have go : ∀ (ob : Obj) (nm qn : Value) (tk2 : Nat), ob.cls = .type "generator" → ob.data = .fields #[.int s1.gens.size 0, nm, qn] → ob.slots = #[] → (∀ h : Heap, (h.push ob).get? h.objs.size = some ob) →
      Born P w (k + 1) outer H s N Yl Q (.ref s1.heap.objs.size) { s1 with gens := s1.gens.push (.fresh (.func body (envOfC qual scope s.heap.objs.size f cdv))), toks := tk2, heap := s1.heap.push ob } := by
    intro ob nm qn tk2 oc od osl' op
    have isg : ∀ h : Heap, h.get? s1.heap.objs.size = some ob → h.IsGen s1.heap.objs.size s1.gens.size := fun h e => ⟨ob, nm, qn, e, oc, od, osl'⟩
    refine ⟨s1.heap.objs.size, s1.gens.size, _, rfl, Nat.le_of_lt lt1, ?_, isg _ (op _), Array.getElem?_push_size .., os1, AllBare.push (by rw [gs1]; exact e0.bare) rfl, lim1.keeps fun b o e => Heap.get?_push_of_some _ e, fun b o e => Heap.get?_push_of_some _ (kp1 b o e), ?_⟩
    · show _ < (s1.heap.push _).objs.size
      rw [Heap.size_push]; exact Nat.lt_succ_self _
    intro Aw F ch s2 hrw hfr hFF hch hk2 hst hos hba
    have e0w : Env0 P w K mg base Aw outer s H := ⟨hfr, e0.mod, e0.bs, e0.bsz, e0.funs, e0.frf, e0.hok, e0.bare⟩
    obtain ⟨q, hq, hqr⟩ := hbody Aw outer s H vs N Yl Q [(s1.heap.objs.size, ob)] F ch (hrw.deeper _) hsp
    have I1 : Inv (gcxOf P w K mg base Ns qual scope f cdv Aw outer s H E0 []) [] (start Ns vs) H s1 := inv_startG S hrw.hd e0w hl rv x
    have kp2 : ∀ b o, s1.heap.get? b = some o → s2.heap.get? b = some o := fun b o e => hk2 b o (Heap.get?_push_of_some _ e)
    have I2 : Inv (gcxOf P w K mg base Ns qual scope f cdv Aw outer s H E0 []) [] (start Ns vs) H s2 :=
      I1.call' (ch := []) (hos.trans os1.symm) (Un.kept kp2) (I1.hok.kept kp2) hba fun b z => by simp at z
    have hch2 : ∀ b ∈ ch, s1.heap.objs.size < b := fun b hb' => by
      have z : (s1.heap.push ob).objs.size ≤ b := hch b hb'
      rw [Heap.size_push] at z
      exact z
    have eob : s2.heap.get? s1.heap.objs.size = some ob := hk2 _ ob (op _)
    have nod : ∀ v, ob.data ≠ .cell v := fun v z => by rw [od] at z; cases z
    have yng : ∀ b, s1.heap.objs.size ≤ b → H b = none ∧ b ≠ s.heap.objs.size ∧ b ∉ frs outer ∧ s.heap.objs.size ≤ b ∧ ∀ y c, (cellsFrom (s.heap.objs.size + 1) scope.names []).lookup y = some c → c ≠ b := fun b hb' => by
      refine ⟨I1.hok.fresh hb', Nat.ne_of_gt (Nat.lt_of_lt_of_le lt1 hb'), I1.nofs hb', Nat.le_trans (Nat.le_of_lt lt1) hb', fun y c e z => ?_⟩
      obtain ⟨v, o', ho, _⟩ := I1.cell y c e
      have hlt := Heap.lt_size ho
      rw [z] at hlt
      exact absurd (Nat.lt_of_lt_of_le hlt hb') (Nat.lt_irrefl _)
    obtain ⟨oF, eF⟩ : ∃ o, s.heap.get? F = some o := by
      obtain ⟨_, o, e, _⟩ := e0.funs.mem hFF
      exact ⟨o, e⟩
    have hFs : F < s.heap.objs.size := Heap.lt_size eF
    have far : Far (gcxOf P w K mg base Ns qual scope f cdv Aw outer s H E0 [(s1.heap.objs.size, ob)]) F ch :=
      ⟨fun b hb' => (yng b (Nat.le_of_lt (hch2 b hb'))).2.2.2.1, fun b hb' => (yng b (Nat.le_of_lt (hch2 b hb'))).2.1, fun b hb' => (yng b (Nat.le_of_lt (hch2 b hb'))).2.2.2.2, fun b hb' p hp => by
        rw [List.mem_singleton.mp hp]; exact Nat.ne_of_lt (hch2 b hb'), hFF, hFs, fun y c e z => by
        have := x.above y c (PySem.mem_of_lookup e)
        rw [z] at this
        exact absurd (Nat.lt_of_le_of_lt (Nat.le_of_lt this) hFs) (Nat.lt_irrefl _)⟩
    have r0 : Run (gcxOf P w K mg base Ns qual scope f cdv Aw outer s H E0 [(s1.heap.objs.size, ob)]) F ch s2 (start Ns vs) H s2 := by
      refine ⟨hst, s.heap, ⟨rfl, fun _ _ => rfl, eF.trans (kp2 F oF (kp1 F oF eF)).symm⟩, Inv.pinnedG I2 fun p hp => ?_⟩
      rcases List.mem_append.mp hp with z | z
      · rw [List.mem_singleton.mp z]
        obtain ⟨y1, y2, y3, _, _⟩ := yng s1.heap.objs.size (Nat.le_refl _)
        exact ⟨eob, y1, y2, y3, nod⟩
      · obtain ⟨hb', e⟩ := of_pinsAt z
        obtain ⟨o', e', nc⟩ := hst p.1 hb'
        have : o' = p.2 := Option.some.inj (e'.symm.trans e)
        subst this
        obtain ⟨y1, y2, y3, _, _⟩ := yng p.1 (Nat.le_of_lt (hch2 _ hb'))
        exact ⟨e, y1, y2, y3, nc⟩
    have seen : ∀ {t s' : Shared} {σ' : L2.St} {H' : Hp}, Run (gcxOf P w K mg base Ns qual scope f cdv Aw outer s H E0 [(s1.heap.objs.size, ob)]) F ch t σ' H' s' → Seen P w outer H s F ch t H' s' ∧ s'.heap.IsGen s1.heap.objs.size s1.gens.size := fun {t s' σ' H'} r =>
      by
      obtain ⟨h, dc, I⟩ := r.inv
      exact ⟨⟨I.os, I.bare, I.nolimit, ⟨h, dc, I.base⟩, I.hok, fun b hb' => by obtain ⟨o', q1, q2, q3, _, _⟩ := r.pin hb'; exact ⟨q3, o', q1, q2⟩⟩, isg _ (I.pin (s1.heap.objs.size, ob) (List.mem_append_left _ (List.mem_singleton.mpr rfl))).1⟩
    refine seg_func ?_
    refine seg_imp (R := fun n t r s' => ∃ u, r = .ok (.ret u) ∧ ∃ ys v σ' H', n + ys.length = N ∧ Run (gcxOf P w K mg base Ns qual scope f cdv Aw outer s H E0 [(s1.heap.objs.size, ob)]) F ch t σ' H' s' ∧ RelV v u ∧ v = .non ∧ Q ys H') (Y := Yq (gcxOf P w K mg base Ns qual scope f cdv Aw outer s H E0 [(s1.heap.objs.size, ob)]) F ch N Yl)
      (fun n t r s' h => ?_) (fun n t v s' kap kap' hkk hY => ?_) N ?_
    · obtain ⟨u, rfl, ys, v, σ', H', hn, r, ru, ev, hQ⟩ := h
      subst ev
      have eu : u = Value.none := ru
      subst eu
      exact ⟨.inl rfl, ys, H', hn, (seen r).1, hQ⟩
    · obtain ⟨ys, x, σ', H', hn, rx, r, hy, h3⟩ := hY
      exact ⟨ys, x, H', hn, rx, (seen r).1, (seen r).2, hy, fun s'' z => hkk _ _ (h3 s'' z)⟩
    · refine hq.run Aw _ N [] s2 _ [] _ _ id id s2 (start Ns vs) H _ ⟨far, over_func, rfl, rfl, rfl⟩ (Nat.add_zero _) ⟨fun n ys t s' fl hn hs => ?_, fun n t e s' hx => ?_⟩ r0 hqr
      · cases fl with
        | next =>
          obtain ⟨σ', H', r, hQ⟩ := hs
          exact seg_end (.ok (.ret .none)) ⟨_, rfl, ys, .non, σ', H', hn, r, rfl, rfl, hQ⟩
        | brk => obtain ⟨_, _, _, z⟩ := hs; exact z.elim
        | cont => obtain ⟨_, _, _, z⟩ := hs; exact z.elim
        | ret u =>
          obtain ⟨v, σ', H', r, ru, ev, hQ⟩ := hs
          exact seg_end (.ok (.ret u)) ⟨_, rfl, ys, v, σ', H', hn, r, ru, ev, hQ⟩
      · refine seg_wrap ?_
        rw [over_func]
        refine wpAny_mono (show wpAny (model P w) (Aw.deeper (envOfC qual scope s.heap.objs.size f cdv)) (leaving (envOfC qual scope s.heap.objs.size f cdv) e) (fun _ s'' => L2.CX P w outer H s E0 e s'' ∧ ∀ p ∈ [(s1.heap.objs.size, ob)], s''.heap.get? p.1 = some p.2) (fun _ _ => False) s' from hx) (fun _ s'' z => ?_) fun _ s'' z => z.elim
        obtain ⟨⟨_, _, _, _, _, _, _, _, _, _, _, _, z⟩, _⟩ := z
        exact False.elim z
  exact go _ _ _ _ rfl rfl rfl fun h => Heap.get?_push_size _ rfl
end Gr

set_option Elab.async false
set_option linter.all false
set_option maxRecDepth 100000
set_option maxHeartbeats 4000000
namespace Dk
open PySem PySem.Spec PyProof.Rows L2 TL
open Dn (NXs DnO KAt0 KAt)
section
variable {P : Program} {w : World} {K : PySem.W.Frag} {mg : Str → Option Value} {base : Heap} {CC CH fCi fAd fSn : Addr} {fdCi fdAd fdSn : FuncData}
theorem gdr_scenes {f : Addr} {fd : FuncData} (F : Fun K "scenes_of" "scenes_of" sScenes f fd) (Z : TxtSc P w K mg base CC CH fCi fAd fSn fdCi fdAd fdSn) : Gr.GdOk P w K mg base 6 f fd ["house"] (spScQ K CH) := by
  obtain ⟨oc, od, kV, doc, pm, an, cdv, ct, osl, rfl, lk, hcd⟩ := F.ex
  refine Gr.gd_of (k := 5) lk hcd scScs (fun vs H N Yl Q h => ?_) (fun A outer s H vs N Yl Q pn F' ch hr h => ?_)
  · obtain ⟨hp, h, rfl, _⟩ := h
    rfl
  · obtain ⟨hp, h, rfl, hho, hT, h6, hN, ky, k⟩ := h
    subst hN
    have hr4 : Room 4 (A.deeper (envOfC (Str.ofString "scenes_of") (defScope sScenes) s.heap.objs.size f cdv)) := hr.mono (by decide)
    have hr1 : Room 1 (A.deeper (envOfC (Str.ofString "scenes_of") (defScope sScenes) s.heap.objs.size f cdv)) := hr.mono (by decide)
    have hu : (A.deeper (envOfC (Str.ofString "scenes_of") (defScope sScenes) s.heap.objs.size f cdv)).units + 16 < cLine := by have := hr.un; omega
    have hpp := per_pos hT
    refine ⟨_, Gr.sqs_cons (Gr.sq_ps (fun _ => by exact ps_set (i := 1) scScs.nd rfl (.inl rfl) (pe_make Z.M Z.GI hr rfl Z.gC Z.bI .nil pass0 (pa_cons (pv 0) pa_nil))))
      (Gr.sqs_cons (Gr.sq_ps (fun _ => by exact ps_expr (pe_meth0 (pv 1) Z.cl Z.mAd Z.GA hr4 Z.bAd .nil pass0)))
      (Gr.sqs_cons (Gr.sq_ps (fun _ => by exact ps_set (i := 2) scScs.nd rfl (.inl rfl) (pe_newP (P := P) (w := w) rfl rfl)))
      (Gr.sqs_cons (Gr.sq_while owns_gcx (fun _ => by exact pt_cmp (pc_notInP (P := P) (w := w) rfl rfl hu (pe_meth0 (pv 1) Z.cl Z.mSn Z.GS hr1 Z.bSn .nil pass0) (pv 2)) (by rfl))
        (Gr.sqs_cons (Gr.sq_ps (fun _ => by exact ps_putP (P := P) (w := w) rfl rfl hu (pv 2) (pe_meth0 (pv 1) Z.cl Z.mSn Z.GS hr1 Z.bSn .nil pass0)))
        (Gr.sqs_cons (Gr.sq_yield (fun _ => by exact pe_meth0 (pv 1) Z.cl Z.mSn Z.GS hr1 Z.bSn .nil pass0))
        (Gr.sqs_cons (Gr.sq_ps (fun _ => by exact ps_expr (pe_meth0 (pv 1) Z.cl Z.mAd Z.GA hr4 Z.bAd .nil pass0))) Gr.sqs_nil))))
      (Gr.sqs_cons (Gr.sq_yield (fun _ => by exact pe_meth0 (pv 1) Z.cl Z.mSn Z.GS hr1 Z.bSn .nil pass0)) Gr.sqs_nil)))), ?_⟩
    -- the course
    refine ⟨_, rfl, fun p dx hpn hdx npd => ?_⟩
    have sN : Same H (upd (upd H dx (.own p)) p (.ins CC dx [])) := fun b o e => by
      rw [upd_ne (ne_of_none e hpn), upd_ne (ne_of_none e hdx)]; exact e
    have nhp : hp ≠ p := by
      obtain ⟨⟨d, _, _, _, _, e1, _⟩⟩ := hho
      exact ne_of_none e1 hpn
    refine ⟨p, dx, hp, h, rfl, upd_same, hho.mono sN, nhp, hT, h6, fun H1 k1 co1 _ => ⟨rfl, ?_⟩⟩
    have ho1 := (hho.mono sN).kp k1 upd_same nhp
    have s1 : Same H H1 := fun b o e => k1 b o (ne_of_none e hpn) (sN _ _ e)
    obtain ⟨d1, b1, b2, b3, w1, w2, w3, w4⟩ := id co1
    have g0 := gd_stt h 0
    have hhl : ∀ n, (stt h n).home.length ≤ 50 ∧ (stt h n).carr.length ≤ 50 := fun n => by
      have g := gd_stt h n
      have a1 := up_len g.hu g.hi
      have a2 := up_len g.cu g.ci
      omega
    refine ⟨_, rfl, p, d1, _, rfl, w1, by rfl, p, hp, -1, st0 h, h, rfl, co1, ho1, nhp, hT, h6, g0.hi, (hhl 0).1, (hhl 0).2, fun H2 e2 k2 co2 _ _ => ?_⟩
    have ho2 := ho1.kp k2 w1 nhp
    have s2 : Same H H2 := fun b o e => k2 b o (ne_of_none e hpn) (s1 _ _ e)
    have co2' : CoAt CC H2 p hp ((per h.ts : Nat) : Int) ((0 : Nat) : Int) (stt h (0 + 1)) := co2
    clear co1 co2 k1 k2 s1 ho1 w1 w2 w3 w4 d1 b1 b2 b3
    intro d hd
    have s3 := same_upd (o := DnO P w d []) hd
    have np3 : p ≠ d := by
      obtain ⟨_, _, _, _, z, _⟩ := id co2'
      exact ne_of_none z hd
    have hHd : H d = none := by
      cases z : H d with
      | none => rfl
      | some o => have := s2 _ _ z; rw [hd] at this; cases this
    -- the loop
    refine ⟨fun m ys σ H' => ∃ (n : Nat) (xs : NXs), m = 196609 - n ∧ σ = [some (.ref hp), some (.ref p), some (.ref d)] ∧ CoAt CC H' p hp ((per h.ts : Nat) : Int) (n : Int) (stt h (n + 1)) ∧ HoAt K CH H' hp h ∧ H' d = some (DnO P w d xs) ∧
      xs.map (·.1) = (List.range n).map (fun i => scK (scn h i)) ∧ (∀ q ∈ xs, KAt H' q.1 q.2.1) ∧ ((List.range n).map (scn h)).Nodup ∧ Scs H' h ys (List.range n) ∧ Same H H',
      ⟨_, 0, [], rfl, rfl, co2'.mono s3, ho2.mono s3, upd_same, rfl, fun q hq => (by cases hq), .nil, .nil, s2.trans s3⟩, ?_⟩
    clear co2' ho2 s2 s3 hd
    rintro m ys σ H3 ⟨n, xs, rfl, rfl, co3, ho3, eD, ekeys, hK, nd, hS, s3⟩
    have hn := nd_le hT h6 nd
    obtain ⟨dx3, c1, c2, c3, w1, w2, w3, w4⟩ := id co3
    have hxl : xs.length = n := by
      have := congrArg List.length ekeys
      rw [List.length_map, List.length_map, List.length_range] at this
      exact this
    refine ⟨_, rfl, p, dx3, _, rfl, w1, by rfl, p, hp, _, _, _, rfl, co3, by omega, fun H4 a4 s4 sc4 => ?_⟩
    have eD4 := s4 _ _ eD
    have hK4 : ∀ q ∈ xs, KAt H4 q.1 q.2.1 := fun q hq => (hK q hq).mono fun t zs z => s4 _ _ z
    have esc : scOf ((per h.ts : Nat) : Int) (n : Int) (stt h (n + 1)) = scn h n := rfl
    rw [esc] at sc4
    refine ⟨_, rfl, d, a4, xs, scK (scn h n), rfl, rfl, eD4, hK4, scAt_key sc4, _, rfl, ?_⟩
    rw [atKey_some, ekeys]
    have co4 := co3.mono s4
    have ho4 := ho3.mono s4
    have hS4 := hS.mono fun t zs z => s4 _ _ z
    have s04 := s3.trans s4
    have w14 := s4 _ _ w1
    by_cases hin : scn h n ∈ (List.range n).map (scn h)
    · rw [decide_eq_true (key_in.mpr hin)]
      refine iteF ⟨?_, _, rfl, p, dx3, _, rfl, w14, by rfl, p, hp, _, _, _, rfl, co4, by omega, fun H5 a5 s5 sc5 => ?_⟩
      · rw [hS4.len, List.length_range]; exact Nat.lt_of_le_of_lt hn (by decide)
      rw [esc] at sc5
      have hS5 := hS4.mono fun t zs z => s5 _ _ z
      refine ⟨ky H5 ys a5 n (s04.trans s5) hn hS5 sc5, k H5 _ n (s04.trans s5) ⟨nd, hin⟩ hn ?_⟩
      rw [List.range_succ]
      exact hS5.snoc sc5
    · rw [decide_eq_false (fun z => hin (key_in.mp z))]
      have nd' := nd_succ nd hin
      have hn' := nd_le hT h6 nd'
      refine iteT ⟨fun ys' σ' H' => ∃ (n' : Nat) (xs' : NXs), n' = n + 1 ∧ σ' = [some (.ref hp), some (.ref p), some (.ref d)] ∧ CoAt CC H' p hp ((per h.ts : Nat) : Int) (n' : Int) (stt h (n' + 1)) ∧ HoAt K CH H' hp h ∧ H' d = some (DnO P w d xs') ∧
        xs'.map (·.1) = (List.range n').map (fun i => scK (scn h i)) ∧ (∀ q ∈ xs', KAt H' q.1 q.2.1) ∧ ((List.range n').map (scn h)).Nodup ∧ Scs H' h ys' (List.range n') ∧ Same H H', fun ys' σ' H' ⟨n', xs', e, r⟩ => ⟨196609 - n', by omega, n', xs', rfl, r⟩, ?_⟩
      -- the scene is noted
      refine ⟨_, rfl, _, rfl, p, dx3, _, rfl, w14, by rfl, p, hp, _, _, _, rfl, co4, by omega, fun H5 a5 s5 sc5 => ?_⟩
      rw [esc] at sc5
      have eD5 := s5 _ _ eD4
      have hK5 : ∀ q ∈ xs, KAt H5 q.1 q.2.1 := fun q hq => (hK4 q hq).mono fun t zs z => s5 _ _ z
      have hnone : atKey xs (scK (scn h n)) = none := by
        have := atKey_some xs (scK (scn h n))
        rw [ekeys, decide_eq_false (fun z => hin (key_in.mp z))] at this
        cases z : atKey xs (scK (scn h n)) with
        | none => rfl
        | some v => rw [z] at this; cases this
      refine ⟨d, a5, xs, scK (scn h n), rfl, rfl, eD5, hK5, scAt_key sc5, hnone, by rw [hxl]; exact Nat.lt_of_le_of_lt hn (by decide), ?_⟩
      have tK := dn_tup (o := DnO P w d (xs ++ [(scK (scn h n), a5, Value.bool true)])) eD5
      have kD : Kp d H5 (upd H5 d (DnO P w d (xs ++ [(scK (scn h n), a5, Value.bool true)]))) := kp_upd
      have co6 : CoAt CC (upd H5 d (DnO P w d (xs ++ [(scK (scn h n), a5, Value.bool true)]))) p hp ((per h.ts : Nat) : Int) (n : Int) (stt h (n + 1)) := by
        obtain ⟨e5, q1, q2, q3, z1, z2, z3, z4⟩ := co4.mono s5
        have nl : ∀ a zs, H5 a = some (.lst zs) → a ≠ d := fun a zs hz z => by rw [z, eD5] at hz; cases hz
        exact ⟨e5, q1, q2, q3, kD _ _ np3 z1, kD _ _ (nl _ _ z2) z2, kD _ _ (nl _ _ z3) z3, kD _ _ (nl _ _ z4) z4⟩
      have ho6 : HoAt K CH (upd H5 d (DnO P w d (xs ++ [(scK (scn h n), a5, Value.bool true)]))) hp h := by
        obtain ⟨⟨e5, q1, q2, q3, q4, z1, z2, z3, z4, z5⟩⟩ := ho4.mono s5
        have nsq : ∀ a zs, SqT K H5 a zs → SqT K (upd H5 d (DnO P w d (xs ++ [(scK (scn h n), a5, Value.bool true)]))) a zs := fun a zs hz => by
          rcases hz with (hz | ⟨o, hz⟩) | hz
          · exact .inl (.inl (tK _ _ hz))
          · exact .inl (.inr ⟨o, kD _ _ (fun z => by rw [z, eD5] at hz; cases hz) hz⟩)
          · exact .inr hz
        exact ⟨⟨e5, q1, q2, q3, q4, kD _ _ (fun z => by rw [z, eD5] at z1; cases z1) z1, nsq _ _ z2, nsq _ _ z3, nsq _ _ z4, z5.mono tK⟩⟩
      have hK6 : ∀ q ∈ xs ++ [(scK (scn h n), a5, Value.bool true)], KAt (upd H5 d (DnO P w d (xs ++ [(scK (scn h n), a5, Value.bool true)]))) q.1 q.2.1 := fun q hq => by
        rcases List.mem_append.mp hq with hq | hq
        · exact (hK5 q hq).mono tK
        · rw [List.mem_singleton.mp hq]; exact (scAt_key sc5).mono tK
      have hS6 := (hS4.mono fun t zs z => s5 _ _ z).mono tK
      have s06 : Same H (upd H5 d (DnO P w d (xs ++ [(scK (scn h n), a5, Value.bool true)]))) := fun b o e => kD _ _ (ne_of_none e hHd) (s5 _ _ (s04 _ _ e))
      have eD6 : (upd H5 d (DnO P w d (xs ++ [(scK (scn h n), a5, Value.bool true)]))) d = some (DnO P w d (xs ++ [(scK (scn h n), a5, Value.bool true)])) := upd_same
      have ek6 : (xs ++ [(scK (scn h n), a5, Value.bool true)]).map (·.1) = (List.range (n + 1)).map (fun i => scK (scn h i)) := by
        rw [List.map_append, ekeys, List.range_succ, List.map_append]; rfl
      generalize xs ++ [(scK (scn h n), a5, Value.bool true)] = xs6 at co6 ho6 hK6 hS6 s06 eD6 ek6
      generalize upd H5 d (DnO P w d xs6) = H6 at co6 ho6 hK6 hS6 s06 eD6
      clear tK kD co4 ho4 hS4 hK4 hK5 eD4 eD5 sc4 sc5 s04 w14 hK hS co3 ho3 eD ekeys s4 s5 w1 w2 w3 w4
      obtain ⟨dx6, c1, c2, c3, w1, w2, w3, w4⟩ := id co6
      -- it is yielded
      refine ⟨by rw [hS6.len, List.length_range]; exact Nat.lt_of_le_of_lt hn (by decide), _, rfl, p, dx6, _, rfl, w1, by rfl, p, hp, _, _, _, rfl, co6, by omega, fun H7 a7 s7 sc7 => ?_⟩
      rw [esc] at sc7
      have hS7 : Scs H7 h (ys ++ [.ref a7]) (List.range (n + 1)) := by
        rw [List.range_succ]
        exact (hS6.mono fun t zs z => s7 _ _ z).snoc sc7
      refine ⟨ky H7 ys a7 n (s06.trans s7) hn (hS6.mono fun t zs z => s7 _ _ z) sc7, ?_⟩
      -- the next tick
      have co7 := co6.mono s7
      have ho7 := ho6.mono s7
      have g := gd_stt h (n + 1)
      refine ⟨_, rfl, p, dx6, _, rfl, s7 _ _ w1, by rfl, p, hp, (n : Int), stt h (n + 1), h, rfl, co7, ho7, nhp, hT, h6, g.hi, (hhl (n + 1)).1, (hhl (n + 1)).2, fun H8 e8 k8 co8 _ _ => ?_⟩
      have tK8 := kp_tup2 k8 (s7 _ _ w1)
      refine ⟨n + 1, xs6, rfl, rfl, co8, ho7.kp k8 (s7 _ _ w1) nhp, k8 _ _ np3.symm (s7 _ _ eD6), ek6, fun q hq => ((hK6 q hq).mono fun t zs z => s7 _ _ z).mono tK8, nd', hS7.mono tK8, fun b o e => k8 _ _ (ne_of_none e hpn) (s7 _ _ (s06 _ _ e))⟩
end
end Dk

set_option Elab.async false
set_option linter.all false
set_option maxRecDepth 100000
set_option maxHeartbeats 2000000
set_option autoImplicit false
namespace Gq
open PySem PySem.Spec PyProof.Rows GenW L2
/-- an expression whose value is told with the state left as it is -/
structure Ex1 (X : Cx) (e : Expr) (te : L2.St → Hp → V → Prop) : Prop where
  run : ∀ (pins : List (Addr × Obj)) (σ : L2.St) (H : Hp) (s : Shared) (x : V), Inv X pins σ H s → te σ H x → ∃ u, RelV x u ∧ ∀ (Q : Value → Shared → Prop) (E : Value → Shared → Prop), Q u s → wpAny (model X.prog X.w) X.A (eval e X.env) Q E s
section
variable {X : Cx}
theorem ex_var {i : Nat} {x : Str} {pos : Pos} (hN : X.N[i]? = some x) (hv : Vis X.env.scope x) (hd : (x == ("__debug__" : Str)) = false := by decide) (hcd : (x == ("__classdict__" : Str)) = false := by decide) : Ex1 X (.Name x pos) (fun σ _ v => σ[i]? = some (some v)) := by
  refine ⟨fun pins σ H s v I h => ?_⟩
  obtain ⟨m, hn, hl⟩ := I.loc
  obtain ⟨u, r, l⟩ := hl i x v hN h hv
  refine ⟨u, r, fun Q E q => ?_⟩
  rcases l with ⟨hk, hm⟩ | ⟨hk, c, hc, hcell⟩
  · exact wpAny_Name (wpAny_loadName_local I.ok.kind hk hn hm q) hd
  · rcases hk with hk | hk
    · exact wpAny_Name (wpAny_loadName_cell I.ok.kind hk hc hcell q) hd
    · exact wpAny_Name (wpAny_loadName_free I.ok.kind hk hc hcell q hcd) hd
theorem ex_glob {x : Str} {v : V} {u : Value} {pos : Pos} (hg : Gl X x) (hm : X.mg x = some u) (r : RelV v u) (hd : (x == ("__debug__" : Str)) = false := by decide) : Ex1 X (.Name x pos) (fun _ _ y => y = v) :=
  ⟨fun pins σ H s y I e => ⟨u, by rw [e]; exact r, fun Q E q => ld_glob I hg hm q hd⟩⟩
theorem ex_ixT {K : PySem.W.Frag} {a b : Expr} {pos : Pos} {ta tb : L2.St → Hp → V → Prop} (hK : X.K = K) (ha : Ex1 X a ta) (hb : Ex1 X b tb) (hs : PlainIx b) : Ex1 X (.Subscript a b pos) (fun σ H y => ∃ p xs i, ta σ H (.ref p) ∧ tb σ H (.int i) ∧ SqT K H p xs ∧ atI xs i = some y) := by
  subst hK
  refine ⟨fun pins σ H s y I h => ?_⟩
  obtain ⟨p, xs, i, h1, h2, h3, h4⟩ := h
  obtain ⟨u1, r1, q1⟩ := ha.run pins σ H s _ I h1
  obtain ⟨u2, r2, q2⟩ := hb.run pins σ H s _ I h2
  cases r1
  obtain ⟨t, rfl⟩ := r2
  obtain ⟨its, r, pl, hz⟩ := I.tuple h3
  obtain ⟨j, g1, g2, g3, g4, g5⟩ := atI_get h4
  obtain ⟨w, ew, rw'⟩ := r.get g2
  have hl := r.length
  have hn := line63
  refine ⟨w, rw', fun Q E q => ?_⟩
  refine Subscript_ (q1 _ _ (q2 _ _ ?_))
  exact subscriptTail_builtinR (x := w) pl.typeIs slot_tuple_getitem.lookup (getItem_tuple (j := j) (Q := fun r s' => r = w ∧ Q r s') pl (by omega) (by omega) (by rw [List.size_toArray, ← hl]; exact g1) (by simpa using ew) ⟨rfl, q⟩) (hs _ _)
end
end Gq

set_option Elab.async false
set_option linter.all false
set_option maxRecDepth 100000
set_option maxHeartbeats 2000000
set_option autoImplicit false
namespace Gq
open PySem PySem.Spec PyProof.Rows GenW L2
/-- an address that stands for nothing below the heap's size -/
def Dead (b : Addr) (h : Heap) : Prop := b < h.objs.size ∧ h.get? b = none
theorem dead_push {b : Addr} {h : Heap} {o : Obj} (d : Dead b h) : Dead b (h.push o) := by
  refine ⟨by rw [Heap.size_push]; exact Nat.lt_succ_of_lt d.1, ?_⟩
  cases q : (h.push o).get? b with
  | none => rfl
  | some u =>
    obtain ⟨e1, e2⟩ := Heap.get?_some_iff.mp q
    have e3 : h.objs[b]? = some u := by
      have e4 : (h.push o).objs = h.objs.push o := by cases h; rfl
      rw [e4, Array.getElem?_push_lt d.1] at e1
      rw [Array.getElem?_eq_getElem d.1]; exact e1
    have := Heap.get?_some_iff.mpr ⟨e3, e2⟩
    rw [d.2] at this; cases this
theorem dead_update {b a : Addr} {h : Heap} {f : Obj → Obj} (d : Dead b h) (ha : (h.get? a).isSome = true) : Dead b (h.update a f) := by
  have n : a ≠ b := fun z => by rw [z, d.2] at ha; cases ha
  refine ⟨?_, by rw [Heap.get?_update_other _ _ n]; exact d.2⟩
  have e : (h.update a f).objs.size = h.objs.size := by
    unfold Heap.update
    first | simp | (split <;> simp) | rfl
  rw [e]; exact d.1
theorem runs_dead {M : Model} {b : Addr} {Γ : PySem.Ctx} {p : Pos} {t : Sem PySem.Fin} {fs : List Frame} {s s' : Shared} {e : End} (h : Runs M Γ p t fs s e s') : Dead b s.heap → Dead b s'.heap := by
  induction h with
  | update ha _ ih => exact fun d => ih (dead_update d ha)
  | alloc _ ih => exact fun d => ih (dead_push d)
  | call _ _ ih1 ih2 => exact fun d => ih2 (ih1 d)
  | resumeFresh _ _ _ _ ih1 ih2 => exact fun d => ih2 (ih1 d)
  | resumeSuspended _ _ _ _ ih1 ih2 => exact fun d => ih2 (ih1 d)
  | segRet _ _ ih1 ih2 => exact fun d => ih2 (ih1 d)
  | segGen _ _ ih1 ih2 => exact fun d => ih2 (ih1 d)
  | segSuspGen _ _ _ _ ih1 ih2 => exact fun d => ih2 (ih1 d)
  | _ => first | exact id | assumption
end Gq
namespace Gq
open PySem PySem.Spec PyProof.Rows GenW L2
theorem codeAny_dead {M : Model} {A : Around} {c : Code} {R : Result → Shared → Prop} {s : Shared} (h : codeAny M A c R s) : codeAny M A c (fun r s' => (∀ b, Dead b s.heap → Dead b s'.heap) ∧ R r s') s := by
  intro Γ p hc hΓ
  obtain ⟨r, s', hr, hR⟩ := h Γ p hc hΓ
  exact ⟨r, s', hr, fun b d => runs_dead hr d, hR⟩
end Gq

set_option Elab.async false
set_option linter.all false
set_option maxRecDepth 100000
set_option maxHeartbeats 2000000
set_option autoImplicit false
namespace Gq
open PySem PySem.Spec PyProof.Rows GenW L2
/-- what stands now and didn't then is younger -/
def Young (sc s : Shared) : Prop := ∀ b o, s.heap.get? b = some o → sc.heap.get? b = none → sc.heap.objs.size ≤ b
theorem young_of {sc s : Shared} (h : ∀ b, Dead b sc.heap → Dead b s.heap) : Young sc s := fun b o e n => by
  by_cases c : sc.heap.objs.size ≤ b
  · exact c
  · have := (h b ⟨Nat.lt_of_not_le c, n⟩).2
    rw [e] at this; cases this
/-- an expression whose value is a generator that has not begun -/
abbrev TGq := L2.St → Hp → Nat → (List V → V → Hp → Prop) → (List V → Hp → Prop) → (Hp → Prop) → Prop
structure PGq (X : Cx) (k : Nat) (e : Expr) (tg : TGq) : Prop where
  run : ∀ (pins : List (Addr × Obj)) (s : Shared) (σ : L2.St) (H : Hp) (N : Nat) (Yl : List V → V → Hp → Prop) (Q : List V → Hp → Prop) (K : Hp → Prop), Inv X pins σ H s → tg σ H N Yl Q K →
    wpAny (model X.prog X.w) X.A (eval e X.env) (fun u s' => ∃ H1 sc, K H1 ∧ Inv X pins σ H1 sc ∧ Born X.prog X.w k X.stack H1 sc N Yl Q u s' ∧ Young sc s') X.xe s
section
variable {X : Cx} {k : Nat} {f : Addr} {fd : FuncData} {ps : List Str} {sp : SpQ}
theorem run_gd {pins : List (Addr × Obj)} {σ : L2.St} {H : Hp} {s : Shared} {us : List Value} {vs : List V} {N : Nat} {Yl : List V → V → Hp → Prop} {Q : List V → Hp → Prop} {E1 : Value → Shared → Prop} (F : GdOk X.prog X.w X.K X.mg X.base k f fd ps sp) (hr : Room k X.A) (hb : Binds X.K fd ps [])
    (I : Inv X pins σ H s) (r : Vals vs us) (h : sp vs H N Yl Q) : wpAny (model X.prog X.w) X.A (call (.ref f) us) (fun u s' => Born X.prog X.w k X.stack H s N Yl Q u s' ∧ Young s s') E1 s := by
  have hl : us.length = ps.length := by rw [← r.length]; exact F.len _ _ _ _ _ h
  have hb' : BindsTo s fd ⟨us, []⟩ (ps.zip us) := by
    have z := hb s us I.kIn (by rw [List.append_nil]; exact hl)
    rw [List.append_nil] at z
    exact z
  refine wpAny_call (codeAny_mono (codeAny_dead (F.run X.A X.stack s H ⟨us, []⟩ us vs N Yl Q hr I.env0 hb' r h)) fun res s' hq => ?_)
  obtain ⟨hd, hq⟩ := hq
  cases res with
  | error e => exact hq.elim
  | ok fl =>
    cases fl with
    | ret u => exact ⟨hq, young_of hd⟩
    | next => exact hq.elim
    | brk => exact hq.elim
    | cont => exact hq.elim
def tCq (sp : SpQ) (t : TA) : TGq := fun σ H N Yl Q K => t σ H fun vs H1 => K H1 ∧ sp vs H1 N Yl Q
theorem pgq_call {x : Str} {p pos : Pos} {e : Expr} {es : List Expr} {t : TA} (F : GdOk X.prog X.w X.K X.mg X.base k f fd ps sp) (hr : Room k X.A) (hg : Gl X x) (hm : X.mg x = some (.ref f)) (hk : PySem.W.keepIn X.K (.ref f) = true) (hb : Binds X.K fd ps []) (ha : PA X (e :: es) t)
    (hd : (x == ("__debug__" : Str)) = false := by decide) (he : starEach (e :: es) X.env = (false, eval e X.env) :: starEach es X.env := by rfl) (hp : (backTo pos (starEach es X.env)).any (·.1) = false := by rfl) : PGq X k (.Call (.Name x p) (e :: es) [] pos) (tCq sp t) := by
  refine ⟨fun pins s σ H N Yl Q K I h => ?_⟩
  refine wpAny_Call_Name_kw (ld_glob I hg hm ?_ hd)
  exact PySem.W.callWith_K (h₀ := X.base) I.ok.mod.kin hk (thn (ha.run pos pins s σ H _ I h) fun us s1 ⟨vs, H1, I1, r, qk, q⟩ => ⟨I1.kIn, thn (run_gd F hr hb I1 r q) fun u s' z => ⟨H1, s1, qk, I1, z.1, z.2⟩⟩) he hp
/-- behind the call: the caller's state stands -/
theorem born_inv {pins : List (Addr × Obj)} {σ : L2.St} {H : Hp} {sc s' : Shared} (I : Inv X pins σ H sc) (os : s'.os = sc.os) (ba : AllBare s'.gens) (kp : ∀ b o, sc.heap.get? b = some o → s'.heap.get? b = some o) : Inv X pins σ H s' :=
  I.call' (ch := []) os (Un.kept kp) (I.hok.kept kp) ba fun b z => by simp at z
end
end Gq

set_option Elab.async false
set_option linter.all false
set_option maxRecDepth 100000
set_option maxHeartbeats 2000000
set_option autoImplicit false
namespace Gr
open PySem PySem.Spec PyProof.Rows GenW L2
open Gq (Stand Ge Tq SpQ Young young_of TGq tCq born_inv codeAny_dead)
/-- an expression whose value is a generator that has not begun -/
structure PGq (X : Cx) (k : Nat) (e : Expr) (tg : TGq) : Prop where
  run : ∀ (pins : List (Addr × Obj)) (s : Shared) (σ : L2.St) (H : Hp) (N : Nat) (Yl : List V → V → Hp → Prop) (Q : List V → Hp → Prop) (K : Hp → Prop), Inv X pins σ H s → tg σ H N Yl Q K →
    wpAny (model X.prog X.w) X.A (eval e X.env) (fun u s' => ∃ H1 sc, K H1 ∧ Inv X pins σ H1 sc ∧ Born X.prog X.w k X.stack H1 sc N Yl Q u s' ∧ Young sc s') X.xe s
section
variable {X : Cx} {k : Nat} {f : Addr} {fd : FuncData} {ps : List Str} {sp : SpQ}
theorem run_gd {pins : List (Addr × Obj)} {σ : L2.St} {H : Hp} {s : Shared} {us : List Value} {vs : List V} {N : Nat} {Yl : List V → V → Hp → Prop} {Q : List V → Hp → Prop} {E1 : Value → Shared → Prop} (F : GdOk X.prog X.w X.K X.mg X.base k f fd ps sp) (hr : Room k X.A) (hb : Binds X.K fd ps [])
    (I : Inv X pins σ H s) (r : Vals vs us) (h : sp vs H N Yl Q) : wpAny (model X.prog X.w) X.A (call (.ref f) us) (fun u s' => Born X.prog X.w k X.stack H s N Yl Q u s' ∧ Young s s') E1 s := by
  have hl : us.length = ps.length := by rw [← r.length]; exact F.len _ _ _ _ _ h
  have hb' : BindsTo s fd ⟨us, []⟩ (ps.zip us) := by
    have z := hb s us I.kIn (by rw [List.append_nil]; exact hl)
    rw [List.append_nil] at z
    exact z
  refine wpAny_call (codeAny_mono (codeAny_dead (F.run X.A X.stack s H ⟨us, []⟩ us vs N Yl Q hr I.env0 hb' r h)) fun res s' hq => ?_)
  obtain ⟨hd, hq⟩ := hq
  cases res with
  | error e => exact hq.elim
  | ok fl =>
    cases fl with
    | ret u => exact ⟨hq, young_of hd⟩
    | next => exact hq.elim
    | brk => exact hq.elim
    | cont => exact hq.elim
theorem pgq_call {x : Str} {p pos : Pos} {e : Expr} {es : List Expr} {t : TA} (F : GdOk X.prog X.w X.K X.mg X.base k f fd ps sp) (hr : Room k X.A) (hg : Gl X x) (hm : X.mg x = some (.ref f)) (hk : PySem.W.keepIn X.K (.ref f) = true) (hb : Binds X.K fd ps []) (ha : PA X (e :: es) t)
    (hd : (x == ("__debug__" : Str)) = false := by decide) (he : starEach (e :: es) X.env = (false, eval e X.env) :: starEach es X.env := by rfl) (hp : (backTo pos (starEach es X.env)).any (·.1) = false := by rfl) : PGq X k (.Call (.Name x p) (e :: es) [] pos) (tCq sp t) := by
  refine ⟨fun pins s σ H N Yl Q K I h => ?_⟩
  refine wpAny_Call_Name_kw (ld_glob I hg hm ?_ hd)
  exact PySem.W.callWith_K (h₀ := X.base) I.ok.mod.kin hk (thn (ha.run pos pins s σ H _ I h) fun us s1 ⟨vs, H1, I1, r, qk, q⟩ => ⟨I1.kIn, thn (run_gd F hr hb I1 r q) fun u s' z => ⟨H1, s1, qk, I1, z.1, z.2⟩⟩) he hp
end
end Gr

set_option Elab.async false
set_option linter.all false
set_option maxRecDepth 100000
set_option maxHeartbeats 2000000
set_option autoImplicit false
namespace Gq
open PySem PySem.Spec PyProof.Rows GenW L2
/-- the block's Inv once the generator has run on -/
theorem turn_inv {B : Cx} {st : List Env} {σ : L2.St} {H1 Hg Hg' : Hp} {D : Addr} {rs : List V} {sc s5 s6 t : Shared}
    (hst : B.fs = frs st) (hpn : B.pn = []) (hH : ∀ b, b ≠ D → B.H_0 b = H1 b) (hD0 : ∀ u, B.H_0 D = some u → ∃ xs, u = .lst xs) (hDn : B.H_0 D ≠ none) (k3 : ∀ b o, sc.heap.get? b = some o → B.s_0.heap.get? b = some o) (y3 : ∀ b o, B.s_0.heap.get? b = some o → sc.heap.get? b = none → b = D ∨ b ∈ B.ex)
    (o3 : B.s_0.os = sc.os) (hc : ∀ x c, B.env.cells.lookup x = some c → ∃ v, sc.heap.IsCell c v) (I5 : Inv B [] σ (upd Hg D (.lst rs)) s5) (nD : H1 D = none) (U5 : Un (frs st) [] H1 Hg sc.heap s5.heap) (S5 : Same H1 Hg)
    (sn : Seen B.prog B.w st H1 sc [D, B.env.locals] t Hg' s6) (ht : t.heap = s5.heap) : Inv B [] σ (upd Hg' D (.lst rs)) s6 := by
  obtain ⟨gD, oD, tD, s6D⟩ := sn.mine D (by simp)
  obtain ⟨gL, oL, tL, s6L⟩ := sn.mine B.env.locals (by simp)
  rw [ht] at tD tL
  have un := sn.un
  have nL : B.env.locals ≠ D := fun z => by
    have := I5.free
    rw [z, upd_same] at this; cases this
  have cellc : ∀ {c : Addr} {v : Option Value}, (∃ x, B.env.cells.lookup x = some c) → s5.heap.IsCell c v → s6.heap.IsCell c v := by
    rintro c v ⟨x, e⟩ h5
    obtain ⟨v0, ob, ho, hd⟩ := hc x c e
    have nc : H1 c = none := by
      have z := I5.freeC x c e
      cases q : H1 c with
      | none => rfl
      | some u =>
        have z2 := S5 _ _ q
        have : c ≠ D := fun w => by rw [w, nD] at q; cases q
        rw [upd_ne this, z2] at z; cases z
    obtain ⟨sl5, e5⟩ := U5.any ho nc (by simp)
    obtain ⟨sl6, e6⟩ := un.any ho nc (by simp)
    obtain ⟨ob5, ho5, hd5⟩ := h5
    rw [e5] at ho5
    cases ho5
    exact ⟨_, e6, hd5⟩
  refine ⟨I5.ok, by rw [sn.os, o3], sn.bare, ?_, ?_, fun x c e => ?_, by rw [upd_ne nL]; exact gL, fun x c e => ?_, fun p hp => ?_, fun b u q => ?_, I5.len⟩
  · rw [hst]
    have insc : ∀ b o, B.s_0.heap.get? b = some o → b ≠ D → b ∉ B.ex → sc.heap.get? b = some o := fun b o e n1 n2 => by
      cases q : sc.heap.get? b with
      | none => exact ((y3 b o e q).elim n1 n2).elim
      | some o' => rw [k3 b o' q] at e; exact e
    have nd : ∀ b, B.H_0 b = none → b ≠ D := fun b n z => hDn (by rw [← z]; exact n)
    refine ⟨fun b o e n hb hx => ?_, fun b o e n hb hx => ?_, fun b o e n hx => ?_, fun b o e hx => ?_, fun b xs e => ?_, fun b o u e => ?_, fun b ps e => ?_⟩
    · exact un.keep b o (insc b o e (nd b n) hx) (by rw [← hH b (nd b n)]; exact n) hb (by simp)
    · exact un.slot b o (insc b o e (nd b n) hx) (by rw [← hH b (nd b n)]; exact n) hb (by simp)
    · rw [upd_ne (nd b n)]; exact un.free b o (insc b o e (nd b n) hx) (by rw [← hH b (nd b n)]; exact n) (by simp)
    · by_cases z : b = D
      · subst z; exact ⟨_, s6D⟩
      · exact un.there b o (insc b o e z hx) (by simp)
    · have z : b ≠ D := fun z => by rw [z] at e; obtain ⟨_, w⟩ := hD0 _ e; cases w
      rw [upd_ne z]; exact un.tups b xs (by rw [← hH b z]; exact e)
    · have z : b ≠ D := fun z => by rw [z] at e; obtain ⟨_, w⟩ := hD0 _ e; cases w
      rw [upd_ne z]; exact un.frzs b o u (by rw [← hH b z]; exact e)
    · have z : b ≠ D := fun z => by rw [z] at e; obtain ⟨_, w⟩ := hD0 _ e; cases w
      rw [upd_ne z]; exact un.tbls b ps (by rw [← hH b z]; exact e)
  · obtain ⟨m, hn, hl⟩ := I5.loc
    refine ⟨m, ?_, fun i x v e1 e2 e3 => ?_⟩
    · obtain ⟨ob, es, ep, ho, r⟩ := hn
      rw [tL] at ho
      cases ho
      exact ⟨_, es, ep, s6L, r⟩
    · obtain ⟨u, r, l⟩ := hl i x v e1 e2 e3
      refine ⟨u, r, ?_⟩
      rcases l with l | ⟨l1, c, l2, l3⟩
      · exact .inl l
      · exact .inr ⟨l1, c, l2, cellc ⟨x, l2⟩ l3⟩
  · obtain ⟨v, h5⟩ := I5.cell x c e
    exact ⟨v, cellc ⟨x, e⟩ h5⟩
  · obtain ⟨v0, ob, ho, hd⟩ := hc x c e
    have z := I5.freeC x c e
    have cD : c ≠ D := fun w => by rw [w, upd_same] at z; cases z
    rw [upd_ne cD] at z ⊢
    have nc : H1 c = none := by
      cases q : H1 c with
      | none => rfl
      | some u => rw [S5 _ _ q] at z; cases z
    exact un.free c ob ho nc (by simp)
  · rw [hpn] at hp; simp at hp
  · by_cases z : b = D
    · subst z
      rw [upd_same] at q
      cases q
      obtain ⟨hz, its, n, rv, e⟩ := I5.hok b _ upd_same
      rw [tD] at e
      cases e
      exact ⟨hz, its, n, rv, s6D⟩
    · rw [upd_ne z] at q
      exact (sn.ok b u q).stay (fun _ _ _ w => w) (fun d w => by rw [upd_ne (ne_of_none w gD)]; exact w) fun d xs w => by rw [upd_ne (ne_of_none w gD)]; exact w
end Gq

set_option Elab.async false
set_option linter.all false
set_option maxRecDepth 100000
set_option maxHeartbeats 2000000
set_option autoImplicit false
namespace Gq
open PySem PySem.Spec PyProof.Rows GenW L2
section
variable {X : Cx}
/-- a local name is set: the state told exactly -/
theorem named {pins : List (Addr × Obj)} {σ : L2.St} {H : Hp} {s : Shared} {i : Nat} {x : Str} {v : V} {u : Value} {m : Str → Option Value} {h' : Heap} {tk : Nat} (I : Inv X pins σ H s) (hN : X.N.Nodup) (hi : X.N[i]? = some x) (hk : X.env.scope.names.lookup x = some .local) (r : RelV v u)
    (hm : s.heap.Ns X.env.locals m) (hl : ∀ (j : Nat) (y : Str) (v' : V), X.N[j]? = some y → σ[j]? = some (some v') → Vis X.env.scope y → ∃ u', RelV v' u' ∧ Look X.env s.heap m y u')
    (hn : h'.Ns X.env.locals (fun y => if y = x then some u else m y)) (sb : Heap.SameBut X.env.locals s.heap h') : Inv X pins (σ.set i (some v)) H { s with heap := h', toks := tk } := by
  have same : ∀ {b : Addr} {o : Obj}, b ≠ X.env.locals → s.heap.get? b = some o → h'.get? b = some o := fun n e => (sb.2 _ n).trans e
  have low : ∀ {b : Addr} {o : Obj}, X.s_0.heap.get? b = some o → b ≠ X.env.locals := fun e => Nat.ne_of_lt (Nat.lt_of_lt_of_le (Heap.lt_size e) I.ok.above)
  have nl : ∀ {b : Addr} {w : HO}, H b = some w → b ≠ X.env.locals := fun {b w} e z => by
    have := I.free
    rw [← z, e] at this; cases this
  have iz : i < σ.length := by rw [I.len]; exact (List.getElem?_eq_some_iff.mp hi).1
  refine ⟨I.ok, I.os, I.bare, ⟨fun b o e n hb hx => same (low e) (I.base.keep b o e n hb hx), fun b o e n hb hx => ?_, I.base.free, fun b o e hx => ?_, I.base.tups, I.base.frzs, I.base.tbls⟩,
    ⟨_, hn, fun j y v' e1 e2 e3 => ?_⟩, fun y c e => ?_, I.free, I.freeC, fun p hp => ?_, fun b w e => ?_, by simpa using I.len⟩
  · obtain ⟨sl, e1⟩ := I.base.slot b o e n hb hx
    exact ⟨sl, same (low e) e1⟩
  · obtain ⟨o', e1⟩ := I.base.there b o e hx
    exact ⟨o', same (low e) e1⟩
  · by_cases hj : j = i
    · subst hj
      rw [hi] at e1; cases e1
      rw [List.getElem?_set_self iz] at e2
      cases e2
      exact ⟨u, r, .inl ⟨hk, by simp⟩⟩
    · rw [List.getElem?_set_ne (Ne.symm hj)] at e2
      obtain ⟨u', r', q⟩ := hl j y v' e1 e2 e3
      refine ⟨u', r', ?_⟩
      rcases q with ⟨k, e⟩ | ⟨k, c, e, z⟩
      · have : y ≠ x := fun e => hj (nodup_ix hN e1 (e ▸ hi))
        exact .inl ⟨k, by simp [this, e]⟩
      · exact .inr ⟨k, c, e, z.sameBut sb (I.cne y c e)⟩
  · obtain ⟨w', z⟩ := I.cell y c e
    exact ⟨w', z.sameBut sb (I.cne y c e)⟩
  · obtain ⟨e, n, ne, nf, d⟩ := I.pin p hp
    exact ⟨same ne e, n, ne, nf, d⟩
  · refine (I.hok b w e).stay (fun c w' hc q => (sb.2 c ?_).trans q) (fun _ q => q) fun _ _ q => q
    rintro rfl
    rcases hc with rfl | hc
    · exact nl e rfl
    · exact nl hc rfl
/-- one turn's work in a comprehension: the item under its name, elt, the append -/
theorem turn_work {pins : List (Addr × Obj)} {σ : L2.St} {H : Hp} {s : Shared} {i : Nat} {x : Str} {px : Pos} {v y : V} {u : Value} {elt : Expr} {te : L2.St → Hp → V → Prop} {D : Addr} {rs : List V} {Q : Shared → Prop} {E E2 E3 : Value → Shared → Prop}
    (I : Inv X pins σ H s) (hN : X.N.Nodup) (hi : X.N[i]? = some x) (hk : X.env.scope.names.lookup x = some .local) (r : RelV v u) (he : Ex1 X elt te)
    (hD : H D = some (.lst rs)) (hz : rs.length < sizeLine) (ht : te (σ.set i (some v)) H y)
    (h : ∀ s', Inv X pins (σ.set i (some v)) (upd H D (.lst (rs ++ [y]))) s' → s'.gens = s.gens → s'.os = s.os → (∀ b o, b ∉ [D, X.env.locals] → s.heap.get? b = some o → s'.heap.get? b = some o) →
      (∃ its n, s'.heap.get? D = some { cls := .type "list", data := .seq its n }) → Q s') :
    wpAny (model X.prog X.w) X.A (assign (.Name x px) X.env u) (fun _ s2 => wpAny (model X.prog X.w) X.A (eval elt X.env) (fun z s4 => wpAny (model X.prog X.w) X.A (call (.builtin "list.append") [.ref D, z]) (fun _ s5 => Q s5) E3 s4) E2 s2) E s := by
  obtain ⟨m, hn, hl⟩ := id I.loc
  have hcls : (X.env.scope.kind == .class || (X.env.scope.kind == .module && X.env.locals != X.env.globals)) = false := by rw [I.ok.kind]; rfl
  refine wpAny_assign_Name (wpAny_storeName_local hk hn (fun h' hn' sb => ?_) hcls)
  have I2 := named (tk := s.toks + 1) I hN hi hk r hn hl hn' sb
  obtain ⟨w, rw', q⟩ := he.run pins _ H _ y I2 ht
  refine q _ _ ?_
  obtain ⟨hz', its, n, ri, e⟩ := I2.hok D _ hD
  have hlen := ri.length
  refine append_at (hsz := by rw [List.size_toArray]; omega) e fun h2 sb2 ho' => ?_
  refine h _ (I2.write (t' := s.toks + 1) (by rw [hD]; trivial) (.inl rfl) (fun b u hb q => (sb2.2 b hb).trans q) ⟨_, ho'⟩ ⟨by rw [List.length_append]; exact hz, its ++ [w], n + 1, ri.append (.cons rw' .nil), ?_⟩) rfl rfl (fun b o nb e0 => ?_) ⟨_, _, ho'⟩
  · rw [ho']
    simp
  · have n1 : b ≠ D := fun z => nb (by simp [z])
    have n2 : b ≠ X.env.locals := fun z => nb (by simp [z])
    exact (sb2.2 b n1).trans ((sb.2 b n2).trans e0)
end
end Gq

set_option Elab.async false
set_option linter.all false
set_option maxRecDepth 100000
set_option maxHeartbeats 2000000
set_option autoImplicit false
namespace Gq
open PySem PySem.Spec PyProof.Rows GenW L2
/-- the new list and the block's frame stand, and are no cells -/
theorem stand_of {B : Cx} {pins : List (Addr × Obj)} {σ : L2.St} {H : Hp} {s : Shared} {D : Addr} {rs : List V} (I : Inv B pins σ H s) (hD : H D = some (.lst rs)) : Stand [D, B.env.locals] s := by
  intro b hb
  rcases List.mem_cons.mp hb with z | z
  · subst z
    obtain ⟨_, its, n, _, e⟩ := I.hok _ _ hD
    exact ⟨_, e, fun v h => by cases h⟩
  · have z : b = B.env.locals := by simpa using z
    subst z
    obtain ⟨m, hn, _⟩ := I.loc
    obtain ⟨ob, es, ep, ho, hd, _⟩ := hn
    exact ⟨ob, ho, fun v h => by rw [hd] at h; cases h⟩
/-- gens, heap by what stood: the block's state stays -/
theorem regen {B : Cx} {σ : L2.St} {H : Hp} {s s' : Shared} (I : Inv B [] σ H s) (os : s'.os = s.os) (ba : AllBare s'.gens) (kp : ∀ b o, s.heap.get? b = some o → s'.heap.get? b = some o) : Inv B [] σ H s' :=
  I.call' (ch := []) os (Un.kept kp) (I.hok.kept kp) ba fun b z => by simp at z
/-- what next() of the generator is told with -/
abbrev R0 (P : Program) (w : World) (st : List Env) (H1 : Hp) (sc : Shared) (ch : List Addr) (N : Nat) (Q : List V → Hp → Prop) : GenEnd := fun n t r s =>
  ((r = .ok (.ret .none) ∨ r = .ok .next) ∧ ∃ ys H', n + ys.length = N ∧ Seen P w st H1 sc ch t H' s ∧ Q ys H') ∨ ∃ e, r = .error e ∧ (fun (_ : Value) (_ : Shared) => False) e s
/-- before a turn: n items may come yet -/
structure Bt (B : Cx) (st : List Env) (H1 : Hp) (sc : Shared) (N : Nat) (Yl : List V → V → Hp → Prop) (Q : List V → Hp → Prop) (a D : Addr) (g : Nat) (σ : L2.St) (Wn : Nat → List V → Prop) (n : Nat) (Hg : Hp) (rs : List V) (gs : GenState) (s : Shared) : Prop where
  le : n ≤ N
  inv : Inv B [] σ (upd Hg D (.lst rs)) s
  isg : s.heap.IsGen a g
  at_ : s.gens[g]? = some gs
  go : gs.Goes (model B.prog B.w) B.A.in1 (R0 B.prog B.w st H1 sc [D, B.env.locals] N Q) (Item B.prog B.w st H1 sc [D, B.env.locals] N Yl a g) n (.send .none) (s.setGen g .running)
  un : Un (frs st) [] H1 Hg sc.heap s.heap
  same : Same H1 Hg
  w : Wn (N - n) rs
theorem gq_loop {B : Cx} {st : List Env} {H1 : Hp} {sc : Shared} {N : Nat} {Yl : List V → V → Hp → Prop} {Q : List V → Hp → Prop} {a D : Addr} {g i : Nat} {σ : L2.St} {Wn : Nat → List V → Prop} {x : Str} {px pos : Pos} {elt iter : Expr} {scope : Scope} {te : L2.St → Hp → V → Prop} {R : Result → Shared → Prop}
    (hh : B.A.handled = none) (hd : B.A.depth < recursionLimit) (hN : B.N.Nodup) (hi : B.N[i]? = some x) (hk : B.env.scope.names.lookup x = some .local) (hw : ∀ v, σ[i]? ≠ some (some v)) (he : Ex1 B elt te)
    (hst : B.fs = frs st) (hpn : B.pn = []) (hH : ∀ b, b ≠ D → B.H_0 b = H1 b) (hD0 : ∀ u, B.H_0 D = some u → ∃ xs, u = .lst xs) (hDn : B.H_0 D ≠ none) (k3 : ∀ b o, sc.heap.get? b = some o → B.s_0.heap.get? b = some o) (y3 : ∀ b o, B.s_0.heap.get? b = some o → sc.heap.get? b = none → b = D ∨ b ∈ B.ex)
    (o3 : B.s_0.os = sc.os) (hc : ∀ x c, B.env.cells.lookup x = some c → ∃ v, sc.heap.IsCell c v) (nD : H1 D = none) (nsD : sc.heap.get? D = none) (nsC : sc.heap.get? B.env.locals = none) (aD : a ≠ D) (aC : a ≠ B.env.locals)
    (hs : ∀ ys x Hg rs, ys.length < N → Yl ys x Hg → Hg D = none → Wn ys.length rs → Same H1 Hg ∧ rs.length < sizeLine ∧ ∃ y, te (σ.set i (some x)) (upd Hg D (.lst rs)) y ∧ Wn (ys.length + 1) (rs ++ [y]))
    (hend : ∀ ys Hg rs s', ys.length ≤ N → Q ys Hg → Wn ys.length rs → Hg D = none → Inv B [] σ (upd Hg D (.lst rs)) s' → Un (frs st) [] H1 Hg sc.heap s'.heap → R (.ok .next) s')
    (n : Nat) {Hg : Hp} {rs : List V} {gs : GenState} {s : Shared} (b0 : Bt B st H1 sc N Yl Q a D g σ Wn n Hg rs gs s) :
    codeAny (model B.prog B.w) B.A (.compLoop (.ListComp elt [⟨.Name x px, iter, [], 0⟩] scope pos) 0 (.ref a) (.ref D) B.env) R s := by
  refine compLoop_any (fun n s' => ∃ Hg rs gs, Bt B st H1 sc N Yl Q a D g σ Wn n Hg rs gs s') (fun n s5 hb => ?_) n ⟨Hg, rs, gs, b0⟩
  obtain ⟨Hg, rs, gs, b⟩ := hb
  have hgl : g + 1 ≤ s5.gens.size := (Array.getElem?_eq_some_iff.mp b.at_).1
  refine wpAny_gsz hgl (next_genG (Er := fun _ _ => False) hh b.inv.nolimit hd b.isg b.at_ b.go (fun v s1 gs' hbare hv => ?_) (fun s1 hp h' hk' => ?_) fun e s1 he' => he'.elim)
  · intro hsz
    obtain ⟨ys, xv, Hg', hn, rx, sn, hg1, hy, hk'⟩ := hv
    have I6 := turn_inv (t := s5.setGen g .running) hst hpn hH hD0 hDn k3 y3 o3 hc b.inv nD b.un b.same sn rfl
    have gD : Hg' D = none := (sn.mine D (by simp)).1
    have hlt : ys.length < N := by omega
    have I6' : Inv B [] σ (upd Hg' D (.lst rs)) (s1.setGen g gs') := regen I6 rfl (allBare_setGen sn.bare hbare) fun _ _ e => e
    cases n with
    | zero => exact (hk' s1 ⟨rfl, sn.bare, fun _ _ _ e => e, stand_of I6 upd_same⟩).elim
    | succ m =>
      have hm : m + 1 + ys.length = N := by simpa using hn
      have ew : N - (m + 1) = ys.length := by omega
      have wn : Wn ys.length rs := by have := b.w; rw [ew] at this; exact this
      obtain ⟨sm, hz, y, ht, wy⟩ := hs ys xv Hg' rs hlt hy gD wn
      obtain ⟨o, nm, qn, ho, oc, od, osl⟩ := hg1
      refine go_of (s := s1.setGen g gs') ho oc od (by decide) ?_
      refine thn (turn_work I6' hN hi hk rx he upd_same hz ht fun s8 I8 e1 e2 kp hDl => ?_) fun _ s2 h2 => wpAny_tests_nil (by rw [if_pos rfl]; exact h2)
      have I8 : Inv B [] (σ.set i (some xv)) (upd Hg' D (.lst (rs ++ [y]))) s8 := by
        have q := I8
        have : upd (upd Hg' D (.lst rs)) D (.lst (rs ++ [y])) = upd Hg' D (.lst (rs ++ [y])) := by
          funext c
          by_cases z : c = D
          · subst z; rw [upd_same, upd_same]
          · rw [upd_ne z, upd_ne z, upd_ne z]
        rw [this] at q
        exact q
      have hi1 : i < σ.length := by
        have := I6.len
        rw [this]; exact (List.getElem?_eq_some_iff.mp hi).1
      have I9 : Inv B [] σ (upd Hg' D (.lst (rs ++ [y]))) s8 := I8.weak (by simp) fun j v e => by
        by_cases z : j = i
        · subst z; exact absurd e (hw v)
        · rw [List.getElem?_set_ne (Ne.symm z)]; exact e
      have kp1 : ∀ c oo, c ∉ [D, B.env.locals] → s1.heap.get? c = some oo → s8.heap.get? c = some oo := kp
      have hsz1 : g < s1.gens.size := by
        have q : (s1.setGen g gs').gens.size = s1.gens.size := setGen_size _ _ _
        have hsz' : g + 1 ≤ (s1.setGen g gs').gens.size := hsz
        omega
      have g8 : s8.gens[g]? = some gs' := by rw [e1]; exact setGen_at hsz1
      have st8 : Stand [D, B.env.locals] s8 := stand_of I9 upd_same
      refine ⟨m, Nat.lt_succ_self _, Hg', rs ++ [y], gs', by omega, I9, ⟨o, nm, qn, kp1 a o (by simp [aD, aC]) ho, oc, od, osl⟩, g8, ?_, ?_, sm, ?_⟩
      · exact hk' (s8.setGen g .running) ⟨e2, allBare_setGen I9.bare rfl, kp1, st8⟩
      · have out : ∀ {c : Addr} {oo : Obj}, sc.heap.get? c = some oo → c ∉ [D, B.env.locals] := fun {c oo} e z => by
          rcases List.mem_cons.mp z with z | z
          · rw [z, nsD] at e; cases e
          · have z : c = B.env.locals := by simpa using z
            rw [z, nsC] at e; cases e
        refine ⟨fun c oo e n1 h1 h2 => kp1 c _ (out e) (sn.un.keep c oo e n1 h1 h2), fun c oo e n1 h1 h2 => ?_, sn.un.free, fun c oo e h2 => ?_, sn.un.tups, sn.un.frzs, sn.un.tbls⟩
        · obtain ⟨sl, q⟩ := sn.un.slot c oo e n1 h1 h2
          exact ⟨sl, kp1 c _ (out e) q⟩
        · obtain ⟨o', q⟩ := sn.un.there c oo e h2
          exact ⟨o', kp1 c _ (out e) q⟩
      · have : N - m = ys.length + 1 := by omega
        rw [this]; exact wy
  · intro hsz
    obtain ⟨ys, Hg', hn, sn, hQ⟩ := hp
    have I6 := turn_inv (t := s5.setGen g .running) hst hpn hH hD0 hDn k3 y3 o3 hc b.inv nD b.un b.same sn rfl
    have gD : Hg' D = none := (sn.mine D (by simp)).1
    have ew : N - n = ys.length := by omega
    have wn : Wn ys.length rs := by have := b.w; rw [ew] at this; exact this
    exact hend ys Hg' rs _ (by omega) hQ wn gD (regen I6 rfl (allBare_setGen sn.bare rfl) hk') (sn.un.trans (Un.kept hk'))
end Gq

set_option Elab.async false
set_option linter.all false
set_option maxRecDepth 100000
set_option maxHeartbeats 2000000
set_option autoImplicit false
namespace Gq
open PySem PySem.Spec PyProof.Rows GenW L2
section
variable {X : Cx} {k : Nat}
/-- [elt for x in g(..)]: Wn by the number of items and the results so far -/
def tGc (tg : TGq) (te : L2.St → Hp → V → Prop) (i : Nat) (vs : List Nat) : TE := fun σ H Qv => ∃ (N : Nat) (Yl : List V → V → Hp → Prop) (Qe : List V → Hp → Prop) (K : Hp → Prop), tg σ H N Yl Qe K ∧ ∀ H1, K H1 → ∀ D, H1 D = none → ∃ Wn : Nat → List V → Prop, Wn 0 [] ∧
  (∀ ys x Hg rs, ys.length < N → Yl ys x Hg → Hg D = none → Wn ys.length rs → Same H1 Hg ∧ rs.length < sizeLine ∧ ∃ y, te ((wipe σ vs).set i (some x)) (upd Hg D (.lst rs)) y ∧ Wn (ys.length + 1) (rs ++ [y])) ∧
  ∀ ys Hg rs, ys.length ≤ N → Qe ys Hg → Wn ys.length rs → Hg D = none → Qv (.ref D) (upd Hg D (.lst rs))
theorem gc_core {pins : List (Addr × Obj)} {s : Shared} {σ : L2.St} {H : Hp} {Qv : VK} {use : Option (Value → Sem Unit)} {Qf : Value → Shared → Prop} {pos' : Pos} {elt iter : Expr} {x : Str} {i : Nat} {px pos : Pos} {scope : Scope} {own : List (Str × Nat)} {tg : TGq} {te : L2.St → Hp → V → Prop} (I : Inv X pins σ H s) (hr : Room (k + 1) X.A) (hN : X.N.Nodup) (hg : PGq X k iter tg) (ok : BlkOk X.N X.env.scope scope own)
    (hi : X.N[i]? = some x) (hix : i ∈ own.map (·.2)) (hk : scope.names.lookup x = some .local) (hnc : ∀ y ∈ scope.names, y.2 ≠ .cell)
    (he : ∀ (s : Shared) (H : Hp) (C : Addr) (cl : List (Str × Addr)) (fp : List Addr), Ex1 (X.blk s H scope (compEnvC scope cl C X.env) fp) elt te) (hs : ∀ x, foldedSetIterable iter X.env x = pure x)
    (h : tGc tg te i (own.map (·.2)) σ H Qv)
    (hRR : ∀ D C s' m H', Inv X pins σ H' s' → Qv (.ref D) H' → s'.heap.Ns C m → FpOk X pins H' C → compPost (model X.prog X.w) X.A X.xe use Qf (.ref D) C (.ok .next) s') :
    wpAny (model X.prog X.w) X.A (comprehension (.ListComp elt [⟨.Name x px, iter, [], 0⟩] scope pos) scope X.env pos' (newList []) false (eval iter X.env) use) Qf X.xe s := by
  obtain ⟨N, Yl, Qe, K, htg, hcon⟩ := h
  have hfree : ∀ y ∈ scope.names, y.2 = .free → ∃ c, X.env.cells.lookup y.1 = some c := fun y hy e => by
    rcases ok.free y hy e with k | k
    · exact I.ok.has _ (.inl k)
    · exact I.ok.has _ (.inr k)
  refine wpAny_comprehension_free (use := use) rfl hs (closure_ok hfree) ok.kind (fun y hy e => by rw [ok.uniq y hy, e])
    (thn (hg.run pins s σ H N Yl Qe K I htg) fun u s1 hx => ?_)
  obtain ⟨H1, sc, hK, Isc, born, young⟩ := hx
  obtain ⟨a, g, c, rfl, ha1, ha2, hisg, hgs, hos, hba, hlim, hkp, wake⟩ := born
  refine wpAny_pyIter_gen hisg ?_
  have I1 : Inv X pins σ H1 s1 := born_inv Isc hos hba hkp
  refine wpAny_newObj_type (newEnv_comp ?_) (by show 0 ≤ sizeLine; decide)
  generalize hD : s1.heap.objs.size = D
  have hDn : H1 D = none := I1.hok.fresh (Nat.le_of_eq hD)
  obtain ⟨Wn, w0, hstep, hfin⟩ := hcon H1 hK D hDn
  generalize hs3 : ({ s1 with heap := s1.heap.push { cls := .type "list", data := .seq ([] : List Value).toArray } } : Shared) = s3
  have h3 : s3.heap = s1.heap.push { cls := .type "list", data := .seq ([] : List Value).toArray } := by rw [← hs3]
  have I3 : Inv X pins σ (upd H1 D (.lst [])) s3 := by
    rw [← hs3]
    refine I1.laid (t' := s1.toks) (fun b o e => Heap.get?_push_of_some _ e) (Nat.le_of_eq hD) ⟨Nat.zero_le _, [], 0, .nil, ?_⟩
    rw [← hD]
    exact Heap.get?_push_size _ rfl
  have z3 : s3.heap.objs.size = D + 1 := by rw [h3, Heap.size_push, hD]
  have scD : sc.heap.objs.size ≤ D := by
    rw [← hD]
    exact Nat.le_of_lt (Nat.lt_of_le_of_lt ha1 ha2)
  have haD : a < D := by rw [← hD]; exact ha2
  -- what the call made
  generalize hfp : (List.range s3.heap.objs.size).filter (fun b => decide (sc.heap.objs.size ≤ b) && decide (b ≠ D)) = fp
  have mfp : ∀ b, b ∈ fp ↔ (b < s3.heap.objs.size ∧ sc.heap.objs.size ≤ b ∧ b ≠ D) := fun b => by
    rw [← hfp, List.mem_filter, List.mem_range, Bool.and_eq_true, decide_eq_true_eq, decide_eq_true_eq]
  have f3 : ∀ b ∈ fp, FpOk X pins (upd H1 D (.lst [])) b ∧ b < s3.heap.objs.size := fun b hb => by
    obtain ⟨q1, q2, q3⟩ := (mfp b).mp hb
    refine ⟨Isc.fpOk q2 ?_, q1⟩
    rw [upd_ne q3]
    exact Isc.hok.fresh q2
  have I4 := block_start I3 ok hN f3
  have pe := he s3 (upd H1 D (.lst [])) s3.heap.objs.size (cellsFrom (s3.heap.objs.size + 1) scope.names (cloFrom X.env.cells scope.names [])) fp
  show codeAny _ _ (.compStart (.ListComp elt [⟨.Name x px, iter, [], 0⟩] scope pos) 0 (.ref a) (.ref D) (compEnvC scope (cellsFrom (s3.heap.objs.size + 1) scope.names (cloFrom X.env.cells scope.names [])) s3.heap.objs.size X.env)) (compPost (model X.prog X.w) X.A X.xe use Qf (.ref D) s3.heap.objs.size) { s3 with heap := pushCells (s3.heap.push { cls := .type "dict", data := .dict #[] }) scope.names }
  have kp4 : ∀ b o, s1.heap.get? b = some o → (pushCells (s3.heap.push { cls := .type "dict", data := .dict #[] }) scope.names).get? b = some o := fun b o e =>
    pushCells_keeps _ _ _ _ (Heap.get?_push_of_some _ (by rw [h3]; exact Heap.get?_push_of_some _ e))
  have hce' : ∀ y c, (cellsFrom (s3.heap.objs.size + 1) scope.names (cloFrom X.env.cells scope.names [])).lookup y = some c → ∃ v, sc.heap.IsCell c v := fun y c e => by
    rw [← Heap.size_push s3.heap { cls := .type "dict", data := .dict #[] }] at e
    rcases cells_mem (PySem.mem_of_lookup e) with z | ⟨z, _, _⟩
    · rcases cloFrom_mem z with z | ⟨z1, z2⟩
      · simp at z
      · obtain ⟨c', e'⟩ := hfree _ z1 rfl
        have e' : X.env.cells.lookup y = some c' := e'
        rw [e'] at z2
        have z2 : c = c' := z2
        rw [z2]
        exact Isc.cell y c' e'
    · exact absurd rfl (hnc _ z)
  have hkr : (relS scope X.env.scope).names.lookup x = some .local := lookup_relS_keep (by intro h; cases h) hk
  generalize hce : compEnvC scope (cellsFrom (s3.heap.objs.size + 1) scope.names (cloFrom X.env.cells scope.names [])) s3.heap.objs.size X.env = ce at I4 pe ⊢
  have cL : ce.locals = s3.heap.objs.size := by subst hce; rfl
  have cC : ce.cells = cellsFrom (s3.heap.objs.size + 1) scope.names (cloFrom X.env.cells scope.names []) := by subst hce; rfl
  have cS : ce.scope = relS scope X.env.scope := by subst hce; rfl
  generalize hs4 : ({ s3 with heap := pushCells (s3.heap.push { cls := .type "dict", data := .dict #[] }) scope.names } : Shared) = s4 at I4 ⊢
  have g4 : s4.gens = s1.gens := by rw [← hs4, ← hs3]
  have o4 : s4.os = s1.os := by rw [← hs4, ← hs3]
  have kp4 : ∀ b o, s1.heap.get? b = some o → s4.heap.get? b = some o := fun b o e => by rw [← hs4]; exact kp4 b o e
  have gnone : ∀ b, sc.heap.objs.size ≤ b → sc.heap.get? b = none := fun b hb => by
    cases q : sc.heap.get? b with
    | none => rfl
    | some o => exact absurd (Nat.lt_of_lt_of_le (Heap.lt_size q) hb) (Nat.lt_irrefl _)
  have hupd : ∀ b, b ≠ D → (upd H1 D (.lst [])) b = H1 b := fun b n => upd_ne n
  have loop : codeAny (model X.prog X.w) X.A (.compLoop (.ListComp elt [⟨.Name x px, iter, [], 0⟩] scope pos) 0 (.ref a) (.ref D) ce) (compPost (model X.prog X.w) X.A X.xe use Qf (.ref D) s3.heap.objs.size) s4 := by
    refine gq_loop (B := X.blk s3 (upd H1 D (.lst [])) scope ce fp) (st := X.stack) (H1 := H1) (sc := sc) (N := N) (Yl := Yl) (Q := Qe) (g := g) (σ := wipe σ (own.map (·.2))) (Wn := Wn) (te := te) hr.hd (by have := hr.dp; show X.A.depth < _; omega) hN hi
      (by show ce.scope.names.lookup x = _; rw [cS]; exact hkr) (fun v e => (wipe_some e).2 hix) pe rfl rfl hupd (fun u e => ⟨[], by have e : (upd H1 D (.lst [])) D = some u := e; rw [upd_same] at e; exact (Option.some.inj e).symm⟩) (by show (upd H1 D (.lst [])) D ≠ none; rw [upd_same]; intro h; cases h)
      (fun b o e => by show s3.heap.get? b = some o; rw [h3]; exact Heap.get?_push_of_some _ (hkp b o e)) (fun b o e n => ?_) (by show s3.os = sc.os; rw [← hs3]; exact hos) (fun y c e => hce' y c (by rw [← cC]; exact e)) hDn (gnone D scD) (gnone _ (by show _ ≤ ce.locals; rw [cL, z3]; exact Nat.le_succ_of_le scD)) (Nat.ne_of_lt haD) (by show a ≠ ce.locals; rw [cL, z3]; exact Nat.ne_of_lt (Nat.lt_succ_of_lt haD))
      (fun ys xv Hg rs q1 q2 q3 q4 => hstep ys xv Hg rs q1 q2 q3 q4) (fun ys Hg rs s6 q1 q2 q3 q4 I6 un6 => ?_) N (Hg := H1) (rs := []) (gs := .fresh c) ?_
    · have e : s3.heap.get? b = some o := e
      by_cases z : b = D
      · exact .inl z
      · refine .inr ((mfp b).mpr ⟨Heap.lt_size e, ?_, z⟩)
        have e1 : s1.heap.get? b = some o := by
          rw [h3] at e
          exact (Heap.get?_push_ne _ _ _ (by rw [hD]; exact z)).symm.trans e
        exact young b o e1 n
    · have I7 : Inv X pins σ (upd Hg D (.lst rs)) s6 := I3.call' (ch := fp) I6.os I6.base I6.hok I6.bare fun b hb => ⟨(f3 b hb).1.2.2.2.1, (f3 b hb).1.2.1, (f3 b hb).1.2.2.2.2.1, (f3 b hb).1.2.2.2.2.2⟩
      have nC : (upd Hg D (.lst rs)) s3.heap.objs.size = none := by
        have z : (upd Hg D (.lst rs)) ce.locals = none := I6.free
        rw [cL] at z
        exact z
      obtain ⟨m, hn, _⟩ := I6.loc
      have hn : s6.heap.Ns ce.locals m := hn
      rw [cL] at hn
      exact hRR D _ s6 m _ I7 (hfin ys Hg rs q1 q2 q3 q4) hn (I3.fpOk (Nat.le_refl _) nC)
    · have st4 : Stand [D, ce.locals] s4 := stand_of I4 upd_same
      refine ⟨Nat.le_refl _, I4, hisg.keeps kp4, by rw [g4]; exact hgs, ⟨rfl, ?_⟩, Un.kept fun b o e => kp4 b o (hkp b o e), fun _ _ e => e, by rw [Nat.sub_self]; exact w0⟩
      refine seg_imp (fun n t r s' z => ?_) (fun n t v s' kap kap' hkk hY => ?_) N (wake X.A.in1 [D, ce.locals] (s4.setGen g .running) hr.in1 I.env0.1 (fun b hb => ?_) kp4 st4 (o4.trans hos) (allBare_setGen (by rw [g4]; exact hba) rfl))
      · exact .inl z
      · obtain ⟨ys, xv, H', q1, q2, q3, q4, q5, q6⟩ := hY
        exact ⟨ys, xv, H', q1, q2, q3, q4, q5, fun s'' z => hkk _ _ (q6 s'' z)⟩
      · rcases List.mem_cons.mp hb with z | z
        · rw [z]; omega
        · have z : b = ce.locals := by simpa using z
          rw [z, cL, z3]; omega
  exact codeAny_compStart_list loop (wpAny_pyIter_gen (hisg.keeps kp4) loop)
theorem pe_gc {elt iter : Expr} {x : Str} {i : Nat} {px pos : Pos} {scope : Scope} {own : List (Str × Nat)} {tg : TGq} {te : L2.St → Hp → V → Prop} (hr : Room (k + 1) X.A) (hN : X.N.Nodup) (hg : PGq X k iter tg) (ok : BlkOk X.N X.env.scope scope own)
    (hi : X.N[i]? = some x) (hix : i ∈ own.map (·.2)) (hk : scope.names.lookup x = some .local) (hnc : ∀ y ∈ scope.names, y.2 ≠ .cell)
    (he : ∀ (s : Shared) (H : Hp) (C : Addr) (cl : List (Str × Addr)) (fp : List Addr), Ex1 (X.blk s H scope (compEnvC scope cl C X.env) fp) elt te) (hs : ∀ x, foldedSetIterable iter X.env x = pure x := by intro _; rfl) :
    PE X (.ListComp elt [⟨.Name x px, iter, [], 0⟩] scope pos) (tGc tg te i (own.map (·.2))) := by
  refine ⟨fun pins s σ H Q I h => ?_⟩
  rw [eval_ListComp]
  refine gc_core I hr hN hg ok hi hix hk hnc he hs h fun D C s' m H' I' q hn f => ⟨m, hn, fun h'' sb => ?_⟩
  obtain ⟨f0, f1, f2, f3, f4, f5⟩ := f
  exact ⟨.ref D, H', I'.turned (t' := s'.toks) (fun b o hb e => (sb.2 b hb).trans e) f0 f1 f3 f4 f5, rfl, q⟩
/-- name = [..] on one line, the name a local -/
theorem ps_setGc {j : Nat} {y : Str} {py spos : Pos} {elt iter : Expr} {x : Str} {i : Nat} {px pos : Pos} {scope : Scope} {own : List (Str × Nat)} {tg : TGq} {te : L2.St → Hp → V → Prop} (hy : X.N[j]? = some y) (hyl : X.env.scope.names.lookup y = some .local) (hsw : swapsWith (.ListComp elt [⟨.Name x px, iter, [], 0⟩] scope pos) (some (.Name y py)) spos.line X.env = pure true) (hr : Room (k + 1) X.A) (hN : X.N.Nodup) (hg : PGq X k iter tg) (ok : BlkOk X.N X.env.scope scope own)
    (hi : X.N[i]? = some x) (hix : i ∈ own.map (·.2)) (hk : scope.names.lookup x = some .local) (hnc : ∀ y ∈ scope.names, y.2 ≠ .cell)
    (he : ∀ (s : Shared) (H : Hp) (C : Addr) (cl : List (Str × Addr)) (fp : List Addr), Ex1 (X.blk s H scope (compEnvC scope cl C X.env) fp) elt te) (hs : ∀ x, foldedSetIterable iter X.env x = pure x := by intro _; rfl) :
    PS X (.Assign [.Name y py] (.ListComp elt [⟨.Name x px, iter, [], 0⟩] scope pos) spos) (tAsg (tGc tg te i (own.map (·.2))) (gName j)) := by
  refine ⟨fun pins s σ H D I h => ?_⟩
  rw [exec_Assign_Name_used _ _ _ _ hsw]
  refine wpAny_bind (wpAny_standAt (wpAny_bind ?_))
  show wpAny _ X.A (do let _ ← comprehension (.ListComp elt [⟨.Name x px, iter, [], 0⟩] scope pos) scope X.env (firstIterPos [⟨.Name x px, iter, [], 0⟩] pos) (newList []) false (eval iter X.env) (some (assign (.Name y py) X.env))) _ _ s
  have h : tGc tg te i (own.map (·.2)) σ H (fun x H1 => gName j x σ H1 D.nx) := h
  refine wpAny_bind (thn (gc_core (Qf := fun _ s' => SP X pins D .next s') I hr hN hg ok hi hix hk hnc he hs h fun L C s' m H' I' q hn f => ?_) fun _ s' hq => wpAny_pure (wpAny_pure hq))
  show wpAny _ _ (assign (.Name y py) X.env (.ref L)) _ _ _
  obtain ⟨f0, f1, f2, f3, f4, f5⟩ := f
  refine wpAny_assign_Name (store_ok2 (v := V.ref L) I' hN hy (.inl hyl) rfl (fun s2 I2 ⟨a, sb, ha⟩ => ?_) (.inr hyl))
  have haC : C ≠ a := by
    rcases ha with z | z
    · rw [z]; exact f1
    · exact fun e => f4 y a z e.symm
  exact ⟨m, hn.sameBut sb haC, fun h3 sb3 => ⟨_, H', I2.turned (t' := s2.toks) (fun b o hb e => (sb3.2 b hb).trans e) f0 f1 f3 f4 f5, q⟩⟩
end
end Gq

set_option Elab.async false
set_option linter.all false
set_option maxRecDepth 100000
set_option maxHeartbeats 2000000
set_option autoImplicit false
namespace Gq
open PySem PySem.Spec PyProof.Rows GenW L2
section
variable {X : Cx}
/-- x in a tuple of flat items, the state left as it is -/
theorem ex_inT {K : PySem.W.Frag} {a b : Expr} {pos : Pos} {ta tb : L2.St → Hp → V → Prop} (hK : X.K = K) (ha : Ex1 X a ta) (hb : Ex1 X b tb) (hm : behindInMarks .In b = false) :
    Ex1 X (.Compare a [.In] [b] pos) (fun σ H y => ∃ x p xs, ta σ H x ∧ tb σ H (.ref p) ∧ SqT K H p xs ∧ flatV x = true ∧ xs.all flatV = true ∧ y = .bl (inV x xs)) := by
  subst hK
  refine ⟨fun pins σ H s y I h => ?_⟩
  obtain ⟨x, p, xs, h1, h2, h3, fx, fs, rfl⟩ := h
  obtain ⟨u1, r1, q1⟩ := ha.run pins σ H s _ I h1
  obtain ⟨u2, r2, q2⟩ := hb.run pins σ H s _ I h2
  cases r2
  obtain ⟨its, r, pl, hz⟩ := I.tuple h3
  refine ⟨.bool (inV x xs), rfl, fun Q E q => wpAny_Compare1 (q1 _ _ (q2 _ _ ?_)) hm⟩
  refine SeqAt.in_tupleAt (eqU x) pl (fun w hw => mem_eqAt r1 fx r fs w (by simpa using hw)) ?_
  rw [show its.toArray.any (eqU x) = its.any (eqU x) by simp, any_eqU r fs]
  exact q
end
end Gq

set_option autoImplicit false
set_option Elab.async false
set_option linter.all false
set_option maxRecDepth 100000
set_option maxHeartbeats 2000000
namespace Gr
open PySem PySem.Spec PyProof.Rows GenW L2
open Gq (Stand Ge Tq SpQ Young TGq tCq born_inv Ex1 named)
/-- a test told with the state left as it is (but for the tokens) -/
structure Et1 (X : Cx) (e : Expr) (tt : L2.St → Hp → Bool → Prop) : Prop where
  run : ∀ (whole : Sem Value) (pins : List (Addr × Obj)) (σ : L2.St) (H : Hp) (s : Shared) (b : Bool), whole = eval e X.env → Inv X pins σ H s → tt σ H b → ∀ (Q : Bool → Shared → Prop) (E : Value → Shared → Prop), (∀ t, Q b { s with toks := t }) → wpAny (model X.prog X.w) X.A (isTrue e X.env whole) Q E s
structure Ew1 (X : Cx) (e : Expr) (tt : L2.St → Hp → Bool → Prop) : Prop where
  run : ∀ (whole : Sem Value) (pins : List (Addr × Obj)) (σ : L2.St) (H : Hp) (s : Shared) (b : Bool), Inv X pins σ H s → tt σ H b → ∀ (Q : Bool → Shared → Prop) (E : Value → Shared → Prop), (∀ t, Q b { s with toks := t }) → wpAny (model X.prog X.w) X.A (isTrue e X.env whole) Q E s
section
variable {X : Cx}
/-- an item of a tuple of ours: a tuple or a bool, by its truth -/
theorem et_tup {K : PySem.W.Frag} {a : Expr} {ta : L2.St → Hp → V → Prop} (hK : X.K = K) (ha : Ex1 X a ta) (he : ∀ whole, isTrue a X.env whole = (do let v ← whole; standAt a.pos; holding [v] (truthy v))) :
    Et1 X a (fun σ H b => ∃ x, ta σ H x ∧ ((∃ p xs, x = .ref p ∧ SqT K H p xs ∧ b = !xs.isEmpty) ∨ x = .bl b)) := by
  subst hK
  refine ⟨fun whole pins σ H s b hw I h Q E hq => ?_⟩
  subst hw
  obtain ⟨x, h1, h2⟩ := h
  obtain ⟨u, r, q⟩ := ha.run pins σ H s x I h1
  refine isTrue_plain (q _ _ ?_) (he _)
  rcases h2 with ⟨p, xs, rfl, hx, rfl⟩ | rfl
  · cases r
    obtain ⟨its, r, pl, hz⟩ := I.tuple hx
    have hlen := r.length
    have hl := line63
    exact truthy_tuple pl (by simp only [List.size_toArray]; omega) (by rw [isEmpty_of r]; exact hq _)
  · cases r
    exact wpAny_truthy_bool (hq s.toks)
theorem Et1.w {e : Expr} {tt : L2.St → Hp → Bool → Prop} (h : Et1 X e tt) (pins : List (Addr × Obj)) (σ : L2.St) (H : Hp) (s : Shared) (b : Bool) (I : Inv X pins σ H s) (ht : tt σ H b) (Q : Bool → Shared → Prop) (E : Value → Shared → Prop) (q : ∀ t, Q b { s with toks := t }) : wpAny (model X.prog X.w) X.A (isTrue e X.env (eval e X.env)) Q E s :=
  h.run _ pins σ H s b rfl I ht Q E q
theorem ew_or1 {a : Expr} {pos : Pos} {ta : L2.St → Hp → Bool → Prop} (ha : Et1 X a ta) : Ew1 X (.BoolOp .Or [a] pos) ta := by
  refine ⟨fun whole pins σ H s b I h Q E hq => ?_⟩
  refine isTrue_or (whole := whole) (ha.w pins σ H s b I h _ E fun t => ?_)
  cases b with
  | false => exact isTrue_or_nil (hq t)
  | true => exact hq t
theorem ew_or {a b : Expr} {rest : List Expr} {pos : Pos} {ta tb : L2.St → Hp → Bool → Prop} (ha : Et1 X a ta) (hb : Ew1 X (.BoolOp .Or (b :: rest) pos) tb) :
    Ew1 X (.BoolOp .Or (a :: b :: rest) pos) (fun σ H c => ∃ c1, ta σ H c1 ∧ (if c1 = true then c = true else tb σ H c)) := by
  refine ⟨fun whole pins σ H s c I h Q E hq => ?_⟩
  obtain ⟨c1, h1, h2⟩ := h
  refine isTrue_or (whole := whole) (ha.w pins σ H s c1 I h1 _ E fun t => ?_)
  cases c1 with
  | true =>
    rw [if_pos rfl] at h2
    subst h2
    exact hq t
  | false =>
    rw [if_neg (by decide)] at h2
    exact hb.run whole pins σ H _ c (I.tok t) h2 Q E fun t' => hq t'
theorem Ew1.t {e : Expr} {tt : L2.St → Hp → Bool → Prop} (h : Ew1 X e tt) : Et1 X e tt := ⟨fun whole pins σ H s b _ I ht Q E q => h.run whole pins σ H s b I ht Q E q⟩
/-! ### across a turn -/
/-- where the consumer stands, seen from the call (sc) -/
def Cur (st : List Env) (F : Addr) (H1 Hg : Hp) (sc : Heap) (t : Heap) (s : Heap) : Prop := ∃ h, Dc sc F h t ∧ Un (frs st) [] H1 Hg h s
theorem turn_for {pins : List (Addr × Obj)} {σ0 σ : L2.St} {H1 Hg Hg' : Hp} {sc s5 s6 t : Shared} {ch : List Addr} (hF : X.env.locals ∈ frs X.stack) (Isc : Inv X pins σ0 H1 sc) (I5 : Inv X pins σ Hg s5)
    (sn : Seen X.prog X.w X.stack H1 sc X.env.locals ch t Hg' s6) (ht : t.heap = s5.heap) (U5 : Cur X.stack X.env.locals H1 Hg sc.heap s5.heap s5.heap) : Inv X pins σ Hg' s6 := by
  obtain ⟨h5, dc5, u5⟩ := U5
  obtain ⟨h6, dc6, u6⟩ := sn.un
  rw [ht] at dc6
  obtain ⟨mF, hmF, hlF⟩ := I5.loc
  obtain ⟨oF, es, ep, eF, dF, rF⟩ := id hmF
  have HF1 : H1 X.env.locals = none := Isc.free
  have e6F : h6.get? X.env.locals = some oF := dc6.at_.trans eF
  obtain ⟨slF, e6⟩ := u6.slot _ oF e6F HF1 hF (by simp)
  have ne0 : ∀ {b : Addr} {o : Obj}, X.s_0.heap.get? b = some o → b ≠ X.env.locals := fun {b o} e => Nat.ne_of_lt (Nat.lt_of_lt_of_le (Heap.lt_size e) Isc.ok.above)
  have old6 : ∀ {b : Addr} {o : Obj}, b ≠ X.env.locals → sc.heap.get? b = some o → h6.get? b = some o := fun n e => (dc6.ot _ n).trans e
  have old5 : ∀ {b : Addr} {o : Obj}, b ≠ X.env.locals → sc.heap.get? b = some o → h5.get? b = some o := fun n e => (dc5.ot _ n).trans e
  have cellc : ∀ {x : Str} {c : Addr} {v : Option Value}, X.env.cells.lookup x = some c → s5.heap.IsCell c v → s6.heap.IsCell c v := fun {x c v} e q => by
    obtain ⟨v0, ob, ho, hd⟩ := Isc.cell x c e
    have n := Isc.cne x c e
    obtain ⟨sl5, e5⟩ := u5.any (old5 n ho) (Isc.freeC x c e) (by simp)
    obtain ⟨sl6, e6⟩ := u6.any (old6 n ho) (Isc.freeC x c e) (by simp)
    obtain ⟨ob5, ho5, hd5⟩ := q
    rw [e5] at ho5
    cases ho5
    exact ⟨_, e6, hd5⟩
  refine ⟨I5.ok, sn.os.trans Isc.os, sn.bare, ⟨fun b o e n hb hx => ?_, fun b o e n hb hx => ?_, fun b o e n hx => ?_, fun b o e hx => ?_, fun b xs e => u6.tups b xs (Isc.base.tups b xs e), fun b o u e => u6.frzs b o u (Isc.base.frzs b o u e), fun b ps e => ?_⟩, ⟨mF, ⟨_, es, ep, e6, dF, rF⟩, fun i x v e1 e2 e3 => ?_⟩, fun x c e => ?_, ?_, fun x c e => ?_, fun p hp => ?_, sn.ok, I5.len⟩
  · have q := Isc.base.keep b o e n hb hx
    exact u6.keep b o (old6 (ne0 e) q) (Isc.base.free b o e n hx) (fun z => (List.mem_cons.mp (Isc.stkSub b z)).elim (ne0 e) hb) (by simp)
  · obtain ⟨sl, q⟩ := Isc.base.slot b o e n hb hx
    obtain ⟨sl', q'⟩ := u6.any (old6 (ne0 e) q) (Isc.base.free b o e n hx) (by simp)
    exact ⟨sl', q'⟩
  · obtain ⟨o', q⟩ := Isc.base.there b o e hx
    exact u6.free b o' (old6 (ne0 e) q) (Isc.base.free b o e n hx) (by simp)
  · obtain ⟨o', q⟩ := Isc.base.there b o e hx
    exact u6.there b o' (old6 (ne0 e) q) (by simp)
  · obtain ⟨m1, e1⟩ := Isc.base.tbls b ps e
    obtain ⟨m2, e2⟩ := u6.tbls b _ e1
    exact ⟨m1 ++ m2, by rw [e2, Array.append_assoc]⟩
  · obtain ⟨u, r, l⟩ := hlF i x v e1 e2 e3
    refine ⟨u, r, ?_⟩
    rcases l with l | ⟨l1, c, l2, l3⟩
    · exact .inl l
    · exact .inr ⟨l1, c, l2, cellc l2 l3⟩
  · obtain ⟨v, z⟩ := I5.cell x c e
    exact ⟨v, cellc e z⟩
  · exact u6.free _ oF e6F HF1 (by simp)
  · obtain ⟨v0, ob, ho, hd⟩ := Isc.cell x c e
    exact u6.free c ob (old6 (Isc.cne x c e) ho) (Isc.freeC x c e) (by simp)
  · obtain ⟨q1, q2, q3, q4, q5⟩ := Isc.pin p hp
    exact ⟨u6.keep _ _ (old6 q3 q1) q2 (fun z => (List.mem_cons.mp (Isc.stkSub _ z)).elim q3 q4) (by simp), u6.free _ _ (old6 q3 q1) q2 (by simp), q3, q4, q5⟩
/-- the consumer has stored into its frame -/
theorem Cur.next {st : List Env} {F : Addr} {H1 Hg : Hp} {sc t s s' : Heap} {ch : List Addr} (c : Cur st F H1 Hg sc t s) (hF : F ∈ frs st) (eF0 : ∃ o, t.get? F = some o) (HF : H1 F = none) (hch : ∀ b ∈ ch, sc.get? b = none) (hcF : F ∉ ch) (k : ∀ b o, b ∉ ch → b ≠ F → s.get? b = some o → s'.get? b = some o) (eF : ∃ o, s'.get? F = some o) : Cur st F H1 Hg sc s' s' := by
  obtain ⟨h, dc, u⟩ := c
  obtain ⟨oF, eF⟩ := eF
  obtain ⟨o0, e0⟩ := eF0
  have eh : h.get? F = some o0 := dc.at_.trans e0
  generalize hh' : h.update F (fun _ => oF) = h'
  have zz : h'.objs.size = h.objs.size := by
    rw [← hh']
    unfold Heap.update
    first | simp | (split <;> simp) | rfl
  have hFn : h'.get? F = some oF := by
    rw [← hh']
    exact Heap.get?_update_self _ eh (Heap.get?_some_iff.mp eF).2
  have hO : ∀ b, b ≠ F → h'.get? b = h.get? b := fun b n => by
    rw [← hh']; exact Heap.get?_update_other _ _ (Ne.symm n)
  have nch : ∀ {b : Addr} {o : Obj}, b ≠ F → h'.get? b = some o → b ∉ ch := fun {b o} n e hb => by
    rw [hO b n, dc.ot b n, hch b hb] at e; cases e
  refine ⟨h', ⟨zz.trans dc.sz, fun b n => (hO b n).trans (dc.ot b n), hFn.trans eF.symm⟩, ⟨fun b o e n hb hx => ?_, fun b o e n hb hx => ?_, fun b o e n hx => ?_, fun b o e hx => ?_, u.tups, u.frzs, u.tbls⟩⟩
  · have nF : b ≠ F := fun z => hb (by rw [z]; exact hF)
    exact k b o (nch nF e) nF (u.keep b o ((hO b nF).symm.trans e) n hb hx)
  · by_cases z : b = F
    · subst z
      rw [hFn] at e
      cases e
      exact ⟨oF.slots, eF⟩
    · obtain ⟨sl, q⟩ := u.slot b o ((hO b z).symm.trans e) n hb hx
      exact ⟨sl, k b _ (nch z e) z q⟩
  · by_cases z : b = F
    · subst z; exact u.free b o0 eh HF (by simp)
    · exact u.free b o ((hO b z).symm.trans e) n hx
  · by_cases z : b = F
    · exact ⟨oF, by rw [z]; exact eF⟩
    · obtain ⟨o', q⟩ := u.there b o ((hO b z).symm.trans e) hx
      exact ⟨o', k b _ (nch z e) z q⟩
end
end Gr

set_option autoImplicit false
set_option Elab.async false
set_option linter.all false
set_option maxRecDepth 100000
set_option maxHeartbeats 2000000
namespace Gr
open PySem PySem.Spec PyProof.Rows GenW L2
open Gq (Stand Ge Tq SpQ Young TGq tCq born_inv Ex1 named)
abbrev R0 (P : Program) (w : World) (st : List Env) (H1 : Hp) (sc : Shared) (F : Addr) (ch : List Addr) (N : Nat) (Q : List V → Hp → Prop) : GenEnd := fun n t r s =>
  ((r = .ok (.ret .none) ∨ r = .ok .next) ∧ ∃ ys H', n + ys.length = N ∧ Seen P w st H1 sc F ch t H' s ∧ Q ys H') ∨ ∃ e, r = .error e ∧ (fun (_ : Value) (_ : Shared) => False) e s
section
variable {X : Cx} {k : Nat}
/-- before a turn: n items may come yet -/
structure Ft (X : Cx) (pins : List (Addr × Obj)) (i : Nat) (σ : L2.St) (H1 : Hp) (sc : Shared) (N : Nat) (Yl : List V → V → Hp → Prop) (Q : List V → Hp → Prop) (a : Addr) (g : Nat) (W : Nat → Prop) (n : Nat) (v : Option V) (Hg : Hp) (gs : GenState) (s : Shared) : Prop where
  le : n ≤ N
  inv : Inv X pins (σ.set i v) Hg s
  isg : s.heap.IsGen a g
  at_ : s.gens[g]? = some gs
  go : gs.Goes (model X.prog X.w) X.A.in1 (R0 X.prog X.w X.stack H1 sc X.env.locals [] N Q) (Item X.prog X.w X.stack H1 sc X.env.locals [] N Yl a g) n (.send .none) (s.setGen g .running)
  cur : Cur X.stack X.env.locals H1 Hg sc.heap s.heap s.heap
  w : W (N - n)
/-- for x in g(..): if test: B -/
def tForG (tg : TGq) (i : Nat) (tt : L2.St → Hp → Bool → Prop) (tb : TS) : TS := fun D σ H => ∃ (N : Nat) (Yl : List V → V → Hp → Prop) (Qe : List V → Hp → Prop) (K : Hp → Prop), tg σ H N Yl Qe K ∧ ∀ H1, K H1 → ∃ W : Nat → Prop, W 0 ∧
  (∀ ys x Hg, ys.length < N → Yl ys x Hg → W ys.length → ∃ b, tt (σ.set i (some x)) Hg b ∧ if b = true then tb { D with nx := fun _ _ => False, ct := fun _ _ => False, bk := D.nx } (σ.set i (some x)) Hg else W (ys.length + 1)) ∧
  ∀ ys Hg v, ys.length ≤ N → Qe ys Hg → W ys.length → D.nx (σ.set i v) Hg
theorem set_set {σ : L2.St} {i : Nat} {a b : Option V} : (σ.set i a).set i b = σ.set i b := by simp
theorem ps_forG {x : Str} {i : Nat} {px pos ipos : Pos} {iter test : Expr} {B : List Stmt} {tg : TGq} {tt : L2.St → Hp → Bool → Prop} {tb : TS} (hp : PassesOwn (model X.prog X.w) X.A X.env X.xe) (hr : Room (k + 1) X.A) (hF : X.env.locals ∈ frs X.stack) (hN : X.N.Nodup) (hi : X.N[i]? = some x) (hk : X.env.scope.names.lookup x = some .local)
    (hg : PGq X k iter tg) (ht : Et1 X test tt) (hb : PSs X B tb) (hs : ∀ x, foldedSetIterable iter X.env x = pure x := by intro _; rfl) :
    PS X (.For (.Name x px) iter [.If test B [] ipos] [] pos) (tForG tg i tt tb) := by
  refine ⟨fun pins s σ H D I h => ?_⟩
  obtain ⟨N, Yl, Qe, K, htg, hcon⟩ := h
  refine wpAny_For (thn (hg.run pins s σ H N Yl Qe K I htg) fun u s1 hx => ?_) hs
  obtain ⟨H1, sc, hK, Isc, born, young⟩ := hx
  obtain ⟨a, g, c, rfl, ha1, ha2, hisg, hgs, hos, hba, hlim, hkp, wake⟩ := born
  obtain ⟨W, w0, hstep, hfin⟩ := hcon H1 hK
  refine wpAny_pyIter_gen hisg ?_
  have I1 : Inv X pins σ H1 s1 := born_inv Isc hos hba hkp
  have HF1 : H1 X.env.locals = none := Isc.free
  obtain ⟨mF, hmF, _⟩ := id Isc.loc
  obtain ⟨oF, _, _, eF, _⟩ := id hmF
  have iz : i < σ.length := by rw [Isc.len]; exact (List.getElem?_eq_some_iff.mp hi).1
  have aF : a ≠ X.env.locals := by
    have := Heap.lt_size eF
    exact fun z => absurd (Nat.lt_of_lt_of_le this (z ▸ ha1)) (Nat.lt_irrefl _)
  obtain ⟨v0, hv0⟩ : ∃ v, σ.set i v = σ := ⟨σ[i], by simp⟩
  have hd : X.A.depth < recursionLimit := by have := hr.dp; omega
  refine codeAny_forLoop_any (fun n s' => ∃ v Hg gs, Ft X pins i σ H1 sc N Yl Qe a g W n v Hg gs s') (fun n s5 hbt => ?_) N ⟨v0, H1, .fresh c, Nat.le_refl _, by rw [hv0]; exact I1, hisg, hgs, ⟨rfl, ?_⟩, ⟨sc.heap, ⟨rfl, fun _ _ => rfl, eF.trans (hkp _ _ eF).symm⟩, Un.kept hkp⟩, by rw [Nat.sub_self]; exact w0⟩
  · obtain ⟨v, Hg, gs, b⟩ := hbt
    have hgl : g + 1 ≤ s5.gens.size := (Array.getElem?_eq_some_iff.mp b.at_).1
    refine wpAny_gsz hgl (next_genG (Er := fun _ _ => False) hr.hd b.inv.nolimit hd b.isg b.at_ b.go (fun v1 s6 gs' hbare hv => ?_) (fun s6 hp6 h' hk' => ?_) fun e s6 he' => he'.elim)
    · intro hsz
      obtain ⟨ys, xv, Hg', hn, rx, sn, hg1, hy, hk'⟩ := hv
      have I6 := turn_for hF Isc b.inv sn rfl b.cur
      have hlt : ys.length < N := by omega
      have I6' : Inv X pins (σ.set i v) Hg' (s6.setGen g gs') := born_inv I6 rfl (allBare_setGen sn.bare hbare) fun _ _ e => e
      cases n with
      | zero =>
        obtain ⟨m6, hm6, _⟩ := I6.loc
        exact (hk' s6 ⟨rfl, sn.bare, fun _ _ _ _ e => e, fun b hb => by simp at hb, m6, hm6⟩).elim
      | succ m =>
        have hm : m + 1 + ys.length = N := by simpa using hn
        have ew : N - (m + 1) = ys.length := by omega
        have wn : W ys.length := by have := b.w; rw [ew] at this; exact this
        obtain ⟨bb, htt, hbb⟩ := hstep ys xv Hg' hlt hy wn
        obtain ⟨o, nm, qn, ho, oc, od, osl⟩ := hg1
        refine go_of (s := s6.setGen g gs') ho oc od (by decide) ?_
        obtain ⟨m6, hm6, hl6⟩ := id I6'.loc
        have hcls : (X.env.scope.kind == .class || (X.env.scope.kind == .module && X.env.locals != X.env.globals)) = false := by rw [I6'.ok.kind]; rfl
        refine wpAny_assign_Name (wpAny_storeName_local hk hm6 (fun h' hn' sb => ?_) hcls)
        have I7 := named (tk := s6.toks + 1) I6' hN hi hk rx hm6 hl6 hn' sb
        rw [set_set] at I7
        refine wpAny_execs_cons (wpAny_If (ht.w pins _ Hg' _ bb I7 htt _ _ fun t => ?_))
        have I8 := I7.tok t
        by_cases cb : bb = true
        · subst cb
          rw [if_pos rfl] at hbb ⊢
          refine wpAny_passesOwn hp (thn (hb.run pins _ _ _ _ I8 hbb) fun f s9 q => ?_)
          cases f with
          | next => obtain ⟨_, _, _, z⟩ := q; exact z.elim
          | cont => obtain ⟨_, _, _, z⟩ := q; exact z.elim
          | brk => exact q
          | ret u => exact q
        · rw [if_neg cb] at hbb ⊢
          refine wpAny_execs_nil (wpAny_execs_nil ?_)
          have hsz1 : g < s6.gens.size := by
            have q : (s6.setGen g gs').gens.size = s6.gens.size := setGen_size _ _ _
            have hsz' : g + 1 ≤ (s6.setGen g gs').gens.size := hsz
            omega
          have kp1 : ∀ b o, b ≠ X.env.locals → s6.heap.get? b = some o → h'.get? b = some o := fun b o n e => (sb.2 b n).trans e
          refine ⟨m, Nat.lt_succ_self _, some xv, Hg', gs', by omega, I8, ⟨o, nm, qn, kp1 a o aF ho, oc, od, osl⟩, setGen_at hsz1, ?_, ?_, ?_⟩
          · exact hk' _ ⟨rfl, allBare_setGen (allBare_setGen sn.bare hbare) rfl, fun b o _ n e => kp1 b o n e, fun b hb => by simp at hb, _, hn'⟩
          · obtain ⟨oF', _, _, eF', _⟩ := hn'
            obtain ⟨oF5, _, _, eF5, _⟩ := b.inv.loc.choose_spec.1
            exact Cur.next (ch := []) (t := s5.heap) sn.un hF ⟨oF5, eF5⟩ HF1 (fun b hb => by simp at hb) (by simp) (fun b o _ n e => kp1 b o n e) ⟨oF', eF'⟩
          · have : N - m = ys.length + 1 := by omega
            rw [this]; exact hbb
    · intro hsz
      obtain ⟨ys, Hg', hn, sn, hQ⟩ := hp6
      have I6 := turn_for hF Isc b.inv sn rfl b.cur
      have ew : N - n = ys.length := by omega
      have wn : W ys.length := by have := b.w; rw [ew] at this; exact this
      exact wpAny_execs_nil ⟨_, _, born_inv I6 rfl (allBare_setGen sn.bare rfl) hk', hfin ys Hg' v (by omega) hQ wn⟩
  · refine seg_imp (fun n t r s' z => .inl z) (fun n t v s' kap kap' hkk hY => ?_) N (wake X.A.in1 X.env.locals [] (s1.setGen g .running) hr.in1 I.env0.1 hF (fun b hb => by simp at hb) (fun _ _ e => e) (fun b hb => by simp at hb) hos (allBare_setGen hba rfl))
    obtain ⟨ys, xv, H', q1, q2, q3, q4, q5, q6⟩ := hY
    exact ⟨ys, xv, H', q1, q2, q3, q4, q5, fun s'' z => hkk _ _ (q6 s'' z)⟩
end
end Gr

set_option autoImplicit false
set_option Elab.async false
set_option linter.all false
set_option maxRecDepth 100000
set_option maxHeartbeats 2000000
namespace Gr
open PySem PySem.Spec PyProof.Rows GenW L2
open AutoSeq1 (wpAny_loadPart')
open Gq (Stand Ge Tq SpQ Young TGq tCq born_inv Ex1 named)
theorem meets_enumerate_newG (a : Addr) (g : Nat) :
    Meets (Builtin.«enumerate.__new__» ⟨[.type "enumerate", .ref a], []⟩) (fun _ R s => s.heap.IsGen a g ∧
      R (.ok (.ret (.ref s.heap.objs.size)))
        { s with heap := s.heap.push { cls := .type "enumerate", data := .fields #[.none, .bool false, .ref a, rawInt 0, .none, .none] } }) :=
  .of_wp fun prog w A R s h => by
    obtain ⟨hp, g', d, tk, os⟩ := s; obtain ⟨hl, h⟩ := h
    have hsub := sub_enumerate
    wp_walk
    refine wpAny_stack_any fun st => wpAny_pure ?_
    split
    · rename_i c _ _ _ _ _
      cases (c == Value.type "enumerate")
      · wp_walk using wpAny_pyIter_gen hl
        exact ⟨_, rfl, h⟩
      · wp_walk using wpAny_pyIter_gen hl
        exact ⟨_, rfl, h⟩
    · wp_walk using wpAny_pyIter_gen hl
      exact ⟨_, rfl, h⟩
section
variable {prog : Program} {w : World} {A : Around} {E : Value → Shared → Prop} {s : Shared}
theorem call_enumerate_gen {a : Addr} {g : Nat} {Q : Value → Shared → Prop} (hL : s.heap.IsGen a g)
    (h : ∀ h', IsEnum h' s.heap.objs.size a 0 .none → h'.objs.size = s.heap.objs.size + 1 →
      (∀ b o, s.heap.get? b = some o → h'.get? b = some o) → Q (.ref s.heap.objs.size) { s with heap := h' }) :
    wpAny (model prog w) A (call (.type "enumerate") [.ref a]) Q E s := by
  refine callType_new F.called_enumerate (by decide) (F.typeCall_enumerate_1 _) (F.newCall_enumerate_1 _) (fun obj => F.args_object_init_2 obj _) F.entry_enumerate_new
    (meets_enumerate_newG a g) ⟨hL, ?_⟩
  show _ ∧ _
  have he : IsEnum (s.heap.push { cls := .type "enumerate", data := .fields #[.none, .bool false, .ref a, rawInt 0, .none, .none] }) s.heap.objs.size a 0 .none := Heap.get?_push_size _ rfl
  exact ⟨⟨_, he, rfl⟩, h _ he (by rw [Heap.size_push]) fun b o x => Heap.get?_push_of_some _ x⟩
theorem enumerate_next_any {e it : Addr} {i : Nat} {old : Value} {Q : Value → Shared → Prop}
    (he : IsEnum s.heap e it i old)
    (hn : wpAny (model prog w) A (Builtin.SmallTypes.nextOf (.ref it)) (fun x s1 => IsEnum s1.heap e it i old ∧ ∀ h', IsEnumOut h' e it ((i : Int) + 1) x s1.heap.objs.size →
      h'.get? s1.heap.objs.size = some { cls := .type "tuple", data := .seq #[.int i s1.toks, x] } → h'.objs.size = s1.heap.objs.size + 1 →
      (∀ b o, b ≠ e → s1.heap.get? b = some o → h'.get? b = some o) → Q (.ref s1.heap.objs.size) { s1 with heap := h', toks := s1.toks + 1 }) E s) :
    wpAny (model prog w) A (Builtin.«enumerate.__next__» ⟨[.ref e], []⟩) (fun fin s' => ∃ v, fin = .done (.ret v) ∧ Q v s') E s := by
  show wpAny _ _ (field (.ref e) 2 >>= _) _ _ _
  refine wpAny_bind (wpAny_field he rfl (x := .ref it) rfl ?_)
  refine wpAny_bind (wpAny_mono hn (fun x s1 hx => ?_) fun _ _ z => z)
  obtain ⟨he₁, hQ⟩ := hx
  obtain ⟨hp, g, d, tk, os⟩ := s1
  replace he₁ : IsEnum hp e it i old := he₁
  show wpAny _ _ (field (.ref e) 3 >>= _) _ _ ⟨hp, g, d, tk, os⟩
  refine wpAny_bind (wpAny_field he₁ rfl (x := rawInt i) rfl ?_)
  show wpAny _ _ (field (.ref e) 4 >>= _) _ _ ⟨hp, g, d, tk, os⟩
  refine wpAny_bind (wpAny_field he₁ rfl (x := .none) rfl ?_)
  show wpAny _ _ (mkInt i >>= _) _ _ ⟨hp, g, d, tk, os⟩
  refine wpAny_bind (wpAny_mkInt ?_)
  show wpAny _ _ (setField (.ref e) 3 (rawInt ((i : Int) + 1)) >>= _) _ _ ⟨hp, g, d, tk + 1, os⟩
  refine wpAny_bind (wpAny_setField_rec he₁ (by simp) fun h₂ he₂ hs₂ => ?_)
  replace hs₂ : Heap.SameBut e hp h₂ := hs₂
  replace he₂ : IsEnum h₂ e it ((i : Int) + 1) old := he₂
  show wpAny _ _ (setField (.ref e) 4 .none >>= _) _ _ ⟨h₂, g, d, tk + 1, os⟩
  refine wpAny_bind (wpAny_setField_rec he₂ (by simp) fun h₃ he₃ hs₃ => ?_)
  replace hs₃ : Heap.SameBut e h₂ h₃ := hs₃
  replace he₃ : IsEnum h₃ e it ((i : Int) + 1) old := he₃
  show wpAny _ _ (newTuple [.int i tk, x] >>= _) _ _ ⟨h₃, g, d, tk + 1, os⟩
  refine wpAny_bind (wpAny_newTuple ?_)
  have he₄ : IsEnum (h₃.push { cls := .type "tuple", data := .seq #[.int i tk, x] }) e it ((i : Int) + 1) old := Heap.get?_push_of_some _ he₃
  generalize hh₄ : h₃.push { cls := .type "tuple", data := .seq #[.int i tk, x] } = h₄ at he₄
  have hsz : h₃.objs.size = hp.objs.size := by rw [hs₃.1, hs₂.1]
  have hel : e < hp.objs.size := Heap.lt_size he₁
  have ht₄ : h₄.get? hp.objs.size = some { cls := .type "tuple", data := .seq #[.int i tk, x] } := by rw [← hh₄, ← hsz]; exact Heap.get?_push_size _ rfl
  have hz₄ : h₄.objs.size = hp.objs.size + 1 := by rw [← hh₄, Heap.size_push, hsz]
  have hk₄ : ∀ b o, b ≠ e → hp.get? b = some o → h₄.get? b = some o := fun b o hbe hb => by
    rw [← hh₄]; exact Heap.get?_push_of_some _ (hs₃.extBut b o hbe (hs₂.extBut b o hbe hb))
  show wpAny _ _ (Builtin.SmallTypes.ownedTupleIsFree (.ref e) >>= _) _ _ ⟨h₄, g, d, tk + 1, os⟩
  rw [hsz]
  clear hh₄ he₃ hs₃ he₂ hs₂ hsz h₃ h₂
  refine wpAny_bind ?_
  · unfold Builtin.SmallTypes.ownedTupleIsFree
    refine wpAny_bind (wpAny_field he₄ rfl (x := .none) rfl (wpAny_pure ?_))
    simp only [if_true]
    refine wpAny_bind (wpAny_rule ?_)
    refine wpAny_bind (wpAny_field he₄ rfl (x := old) rfl ?_)
    refine wpAny_bind (wpAny_setField_rec he₄ (by simp) fun h₅ he₅ hs₅ => ?_)
    replace hs₅ : Heap.SameBut e h₄ h₅ := hs₅
    replace he₅ : IsEnum h₅ e it ((i : Int) + 1) x := he₅
    show wpAny _ _ (Builtin.SmallTypes.ownedTupleHandOut (.ref e) (.ref hp.objs.size) >>= _) _ _ ⟨h₅, g, d, tk + 1, os⟩
    refine wpAny_bind ?_
    · unfold Builtin.SmallTypes.ownedTupleHandOut
      refine wpAny_bind (wpAny_setField_rec he₅ (by simp) fun h₆ he₆ hs₆ => ?_)
      replace hs₆ : Heap.SameBut e h₅ h₆ := hs₆
      replace he₆ : IsEnumOut h₆ e it ((i : Int) + 1) x hp.objs.size := he₆
      refine wpAny_setField_rec he₆ (by simp) fun h₇ he₇ hs₇ => ?_
      replace hs₇ : Heap.SameBut e h₆ h₇ := hs₇
      replace he₇ : IsEnumOut h₇ e it ((i : Int) + 1) x hp.objs.size := he₇
      refine wpAny_bind (wpAny_letGo (wpAny_pure ⟨_, rfl, hQ h₇ he₇ ?_ ?_ ?_⟩))
      · exact hs₇.extBut _ _ (Nat.ne_of_gt hel) (hs₆.extBut _ _ (Nat.ne_of_gt hel) (hs₅.extBut _ _ (Nat.ne_of_gt hel) ht₄))
      · rw [hs₇.1, hs₆.1, hs₅.1, hz₄]
      · exact fun b o hbe hb => hs₇.extBut b o hbe (hs₆.extBut b o hbe (hs₅.extBut b o hbe (hk₄ b o hbe hb)))
/-- next, by the slot, raising at the end -/
theorem nextOf_genG {a : Addr} {g n : Nat} {gs : GenState} {F : Nat → Shared → Shared → Prop} {Y : Protocol} {Q : Value → Shared → Prop} (hh : A.handled = none)
    (hl : s.heap.NoLimit) (hroom : A.depth < recursionLimit) (hg : s.heap.IsGen a g) (hgs : s.gens[g]? = some gs)
    (hgo : gs.Goes (model prog w) A.in1 (fun n s₀ r s₁ => ((r = .ok (.ret .none) ∨ r = .ok .next) ∧ F n s₀ s₁) ∨ ∃ e, r = .error e ∧ (fun (_ : Value) (_ : Shared) => False) e s₁) Y n (.send .none) (s.setGen g .running))
    (hY : ∀ v s₁ gs', gs'.bare = true → Y (n - 1) (s.setGen g .running) v s₁ (fun r' s'' => match n with
        | 0 => False
        | m + 1 => gs'.Goes (model prog w) A.in1 (fun n s₀ r s₁ => ((r = .ok (.ret .none) ∨ r = .ok .next) ∧ F n s₀ s₁) ∨ ∃ e, r = .error e ∧ (fun (_ : Value) (_ : Shared) => False) e s₁) Y m r' s'') → Q v (s₁.setGen g gs'))
    (hE : ∀ s₁, F n (s.setGen g .running) s₁ → ∀ h' e, (∀ b o, s₁.heap.get? b = some o → h'.get? b = some o) → (∃ o, h'.get? e = some o ∧ o.cls = .type "StopIteration") → E (.ref e) { s₁.setGen g .finished with heap := h' }) :
    wpAny (model prog w) A (Builtin.SmallTypes.nextOf (.ref a)) Q E s := by
  unfold Builtin.SmallTypes.nextOf
  refine wpAny_bind (wpAny_callSpecial?_slot (name := Str.ofString "__next__") hg.typeIs slot_gen_next
    (wpAny_call_entry slot_gen_next hg.typeIs entry_gen_next ?_ (args_gen_next _)))
  show wpAny _ A.in1 (Builtin.Generator.genWake (.ref a) (.send .none)) _ _ s
  unfold Builtin.Generator.genWake
  refine wpAny_bind (wpAny_holding (wpAny_genNumber hg (wpAny_bind (wpAny_genState hgs ?_))))
  cases gs with
  | running => exact hgo.elim
  | finished => exact hgo.elim
  | _ =>
    refine wpAny_bind (wpAny_roomToWake hl hroom ?_)
    show wpAny _ A.in1 (.resume g (.send .none) [] _) _ _ s
    refine wpAny_resumeQ hgs hgo (fun x s₁ hx => ?_) (fun v s₁ gs' hb hv => ?_)
    · rcases hx with ⟨hr, hp⟩ | ⟨e, rfl, he⟩
      · have hres : End.result (.ret x) = .returned .none := by
          rcases hr with hr | hr <;> rw [hr] <;> rfl
        first | rw [hres] | simp only [hres]
        show wpAny _ A.in1 (newExc (.type "StopIteration") [] >>= _) _ _ _
        refine wpAny_bind ?_
        simp only [newExc, newTuple]
        refine wpAny_bind (wpAny_newObj_type ?_ (by size_fits))
        refine wpAny_bind (m := firstArgMember _ _) (wpAny_of_eq (a := Value.none) (by first | rfl | (simp only [firstArgMember]; rfl)) ?_)
        refine wpAny_newObj_type ?_ (by size_fits)
        simp only [raiseNew]
        refine wpAny_bind (wpAny_bind (wpAny_handled ?_))
        first | rw [show A.in1.handled = none from hh] | rw [hh]
        refine wpAny_throw ?_
        exact hE s₁ hp _ _ (fun b o hb => Heap.get?_push_of_some _ (Heap.get?_push_of_some _ hb)) ⟨_, Heap.get?_push_size _ rfl, rfl⟩
      · exact he.elim
    · exact wpAny_pure ⟨v, rfl, wpAny_pure (hY v s₁ gs' hb hv)⟩
end
end Gr

set_option autoImplicit false
set_option Elab.async false
set_option linter.all false
set_option maxRecDepth 100000
set_option maxHeartbeats 2000000
namespace Gr
open PySem PySem.Spec PyProof.Rows GenW L2
open Gq (Stand Ge Tq SpQ Young TGq tCq born_inv Ex1 named)
section
variable {X : Cx} {k : Nat}
/-- before a turn: n items may come yet -/
structure Fe (X : Cx) (pins : List (Addr × Obj)) (j i : Nat) (σ : L2.St) (H1 : Hp) (sc : Shared) (N : Nat) (Yl : List V → V → Hp → Prop) (Q : List V → Hp → Prop) (a e : Addr) (g : Nat) (W : Nat → Prop) (n : Nat) (v1 v2 : Option V) (Hg : Hp) (gs : GenState) (s : Shared) : Prop where
  le : n ≤ N
  inv : Inv X pins ((σ.set j v1).set i v2) Hg s
  isg : s.heap.IsGen a g
  ise : ∃ old, IsEnum s.heap e a (((N - n : Nat) : Nat) : Int) old
  at_ : s.gens[g]? = some gs
  go : gs.Goes (model X.prog X.w) X.A.in1.in1 (R0 X.prog X.w X.stack H1 sc X.env.locals [e] N Q) (Item X.prog X.w X.stack H1 sc X.env.locals [e] N Yl a g) n (.send .none) (s.setGen g .running)
  cur : Cur X.stack X.env.locals H1 Hg sc.heap s.heap s.heap
  w : W (N - n)
def tForE (tg : TGq) (j i : Nat) (tt : L2.St → Hp → Bool → Prop) (tb : TS) : TS := fun D σ H => ∃ (N : Nat) (Yl : List V → V → Hp → Prop) (Qe : List V → Hp → Prop) (K : Hp → Prop), tg σ H N Yl Qe K ∧ ∀ H1, K H1 → ∃ W : Nat → Prop, W 0 ∧
  (∀ ys x Hg, ys.length < N → Yl ys x Hg → W ys.length → ∃ b, tt ((σ.set j (some (.int (ys.length : Int)))).set i (some x)) Hg b ∧ if b = true then tb { D with nx := fun _ _ => False, ct := fun _ _ => False, bk := D.nx } ((σ.set j (some (.int (ys.length : Int)))).set i (some x)) Hg else W (ys.length + 1)) ∧
  ∀ ys Hg v1 v2, ys.length ≤ N → Qe ys Hg → W ys.length → D.nx ((σ.set j v1).set i v2) Hg
theorem set4 {σ : L2.St} {i j : Nat} {a b c d : Option V} (h : i ≠ j) : ((((σ.set j a).set i b).set j c).set i d) = (σ.set j c).set i d := by
  rw [List.set_comm _ _ h, List.set_set, List.set_set]
theorem ps_forGE {xj xi : Str} {j i : Nat} {pj px p tpos cpos ipos pos : Pos} {kk : Nat} {iter test : Expr} {B : List Stmt} {tg : TGq} {tt : L2.St → Hp → Bool → Prop} {tb : TS} (hp : PassesOwn (model X.prog X.w) X.A X.env X.xe) (hr : Room (k + 2) X.A) (hF : X.env.locals ∈ frs X.stack) (hN : X.N.Nodup) (hj : X.N[j]? = some xj) (hkj : X.env.scope.names.lookup xj = some .local) (hi : X.N[i]? = some xi) (hki : X.env.scope.names.lookup xi = some .local)
    (hij : i ≠ j) (hgE : Gl X "enumerate") (hmE : X.mg "enumerate" = none) (hg : PGq X k iter tg) (ht : Et1 X test tt) (hb : PSs X B tb) (he : starEach [iter] X.env = (false, eval iter X.env) :: starEach [] X.env := by rfl) :
    PS X (.For (.Tuple [.Name xj pj, .Name xi px] kk tpos) (.Call (.Name "enumerate" p) [iter] [] cpos) [.If test B [] ipos] [] pos) (tForE tg j i tt tb) := by
  refine ⟨fun pins s σ H D I h => ?_⟩
  obtain ⟨N, Yl, Qe, K, htg, hcon⟩ := h
  refine wpAny_For (wpAny_Call_Name_kw (ld_blt I hgE hmE boot_enumerate (PyProof.Rows.callWith_type1 ?_ he rfl))) (fun _ => rfl)
  rw [he]
  show wpAny _ _ (spliced ((false, eval iter X.env) :: backTo cpos (starEach [] X.env))) _ _ s
  refine Calls.spliced_cons (thn (hg.run pins s σ H N Yl Qe K I htg) fun u s1 hx => ?_)
  obtain ⟨H1, sc, hK, Isc, born, young⟩ := hx
  obtain ⟨a, g, c, rfl, ha1, ha2, hisg, hgs, hos, hba, hlim, hkp, wake⟩ := born
  obtain ⟨W, w0, hstep, hfin⟩ := hcon H1 hK
  refine Calls.spliced_nil ?_
  refine call_enumerate_gen hisg fun h2 he2 hz2 hk2 => ?_
  generalize hE : s1.heap.objs.size = e at he2 hz2 ⊢
  refine wpAny_pyIter_enum (s := { s1 with heap := h2 }) he2 ?_
  have I1 : Inv X pins σ H1 s1 := born_inv Isc hos hba hkp
  have I2 : Inv X pins σ H1 { s1 with heap := h2 } := born_inv I1 rfl hba hk2
  have HF1 : H1 X.env.locals = none := Isc.free
  obtain ⟨mF, hmF, _⟩ := id Isc.loc
  obtain ⟨oF, _, _, eF, _⟩ := id hmF
  have iz : i < σ.length := by rw [Isc.len]; exact (List.getElem?_eq_some_iff.mp hi).1
  have jz : j < σ.length := by rw [Isc.len]; exact (List.getElem?_eq_some_iff.mp hj).1
  have sce : sc.heap.objs.size ≤ e := by rw [← hE]; exact Nat.le_of_lt (Nat.lt_of_le_of_lt ha1 ha2)
  have yng : ∀ {b : Addr} {o : Obj}, sc.heap.get? b = some o → b ≠ e := fun {b o} q => Nat.ne_of_lt (Nat.lt_of_lt_of_le (Heap.lt_size q) sce)
  have aF : a ≠ X.env.locals := by
    have := Heap.lt_size eF
    exact fun z => absurd (Nat.lt_of_lt_of_le this (z ▸ ha1)) (Nat.lt_irrefl _)
  have eL : e ≠ X.env.locals := (yng eF).symm
  have ae : a ≠ e := by rw [← hE]; exact Nat.ne_of_lt ha2
  have e0 : X.s_0.heap.objs.size ≤ e := Nat.le_trans Isc.sz sce
  have ecl : ∀ x c, X.env.cells.lookup x = some c → c ≠ e := fun x c q => by
    obtain ⟨v, o, ho, _⟩ := Isc.cell x c q
    exact yng ho
  have epn : ∀ p ∈ X.pn ++ pins, p.1 ≠ e := fun p hp => yng (Isc.pin p hp).1
  have sce0 : sc.heap.get? e = none := by
    cases q : sc.heap.get? e with
    | none => rfl
    | some o => exact absurd rfl (yng q)
  obtain ⟨v0, hv0⟩ : ∃ v : Option V × Option V, (σ.set j v.1).set i v.2 = σ := ⟨(σ[j], σ[i]), by simp⟩
  have hne : (i = j → False) → True := fun _ => trivial
  have hd : X.A.in1.depth < recursionLimit := by have := hr.dp; show X.A.depth < _; omega
  have stE : ∀ {s' : Shared} {idx : Int} {old : Value}, IsEnum s'.heap e a idx old → Stand [e] s' := fun {s' idx old} q b hb => by
    have z : b = e := by simpa using hb
    subst z
    exact ⟨_, q, fun v h => by cases h⟩
  have hh1 : X.A.in1.handled = none := hr.hd
  refine codeAny_forLoop_any (fun n s' => ∃ v1 v2 Hg gs, Fe X pins j i σ H1 sc N Yl Qe a e g W n v1 v2 Hg gs s') (fun n s5 hbt => ?_) N ⟨v0.1, v0.2, H1, .fresh c, Nat.le_refl _, by rw [hv0]; exact I2, hisg.keeps hk2, ⟨.none, by rw [Nat.sub_self]; exact he2⟩, hgs, ⟨rfl, ?_⟩, ⟨sc.heap, ⟨rfl, fun _ _ => rfl, eF.trans (hk2 _ _ (hkp _ _ eF)).symm⟩, Un.kept fun b o q => hk2 b o (hkp b o q)⟩, by rw [Nat.sub_self]; exact w0⟩
  · obtain ⟨v1, v2, Hg, gs, b⟩ := hbt
    have hgl : g + 1 ≤ s5.gens.size := (Array.getElem?_eq_some_iff.mp b.at_).1
    obtain ⟨old, hie⟩ := b.ise
    have hT : s5.TypeIs (.ref e) "enumerate" := ⟨_, hie, rfl⟩
    unfold pyNext
    refine wpAny_bind (wpAny_attempt (wpAny_callSpecial?_slot (name := Str.ofString "__next__") hT F.slot_enumerate_next
      (wpAny_call_entry F.slot_enumerate_next hT F.entry_enumerate_next ?_ (F.args_enumerate_next_1 _))))
    refine enumerate_next_any hie (wpAny_gsz hgl (nextOf_genG hh1 b.inv.nolimit hd b.isg b.at_ b.go (fun v3 s6 gs' hbare hv => ?_) fun s6 hp6 h' ee hk' hst => ?_))
    · intro hsz
      obtain ⟨ys, xv, Hg', hn, rx, sn, hg1, hy, hk'⟩ := hv
      have I6 := turn_for hF Isc b.inv sn rfl b.cur
      have hlt : ys.length < N := by omega
      obtain ⟨gE, oE, tE, s6E⟩ := sn.mine e (by simp)
      have tE : s5.heap.get? e = some oE := tE
      rw [hie] at tE
      cases tE
      refine ⟨s6E, fun h7 he7 ht7 hz7 hk7 => ?_⟩
      have I6' : Inv X pins ((σ.set j v1).set i v2) Hg' (s6.setGen g gs') := born_inv I6 rfl (allBare_setGen sn.bare hbare) fun _ _ e => e
      have I7 : Inv X pins ((σ.set j v1).set i v2) Hg' { s6.setGen g gs' with heap := h7, toks := s6.toks + 1 } := I6'.turned (it := e) (fun b o hb q => hk7 b o hb q) gE eL (.inr e0) ecl epn
      cases n with
      | zero =>
        obtain ⟨m6, hm6, _⟩ := I6.loc
        exact (hk' s6 ⟨rfl, sn.bare, fun _ _ _ _ e => e, stE s6E, m6, hm6⟩).elim
      | succ m =>
        have hm : m + 1 + ys.length = N := by simpa using hn
        have ew : N - (m + 1) = ys.length := by omega
        have wn : W ys.length := by have := b.w; rw [ew] at this; exact this
        obtain ⟨bb, htt, hbb⟩ := hstep ys xv Hg' hlt hy wn
        obtain ⟨o, nm, qn, ho, oc, od, osl⟩ := hg1
        have hsz6 : e < s6.heap.objs.size := Heap.lt_size s6E
        refine wpAny_pure ?_
        show wpAny _ _ (letOwnedTupleGo _ (.ref e) (.ref _)) _ _ _
        refine wpAny_letOwnedTupleGo_enum (s := { s6.setGen g gs' with heap := h7, toks := s6.toks + 1 }) he7 fun h8 he8 sb8 => ?_
        have I8 : Inv X pins ((σ.set j v1).set i v2) Hg' { s6.setGen g gs' with heap := h8, toks := s6.toks + 1 } := Inv.turned (s := { s6.setGen g gs' with heap := h7, toks := s6.toks + 1 }) (t' := s6.toks + 1) (it := e) I7 (fun b o hb q => (sb8.2 b hb).trans q) gE eL (.inr e0) ecl epn
        have hT8 : h8.IsTuple s6.heap.objs.size #[.int ((N - (m + 1) : Nat) : Int) s6.toks, v3] := ⟨_, (sb8.2 _ (Nat.ne_of_gt hsz6)).trans ht7, rfl, _, rfl⟩
        refine wpAny_assign_Tuple (s := { s6.setGen g gs' with heap := h8, toks := s6.toks + 1 }) hr.hd hT8 rfl rfl fun h9 hx9 => ?_
        replace hx9 : Heap.ExtBut h8.objs.size h8 h9 := hx9
        have k9 : ∀ b o, h8.get? b = some o → h9.get? b = some o := fun b o q => hx9 b o (Nat.ne_of_lt (Heap.lt_size q)) q
        have I9 : Inv X pins ((σ.set j v1).set i v2) Hg' { s6.setGen g gs' with heap := h9, toks := s6.toks + 1 } := I8.kept (t' := s6.toks + 1) k9
        show wpAny _ X.A (do holding [v3] (assign (.Name xj pj) X.env (.int ((N - (m + 1) : Nat) : Int) s6.toks)); do holding [] (assign (.Name xi px) X.env v3); pure ()) _ _ _
        obtain ⟨m9, hm9, hl9⟩ := id I9.loc
        have hcls : (X.env.scope.kind == .class || (X.env.scope.kind == .module && X.env.locals != X.env.globals)) = false := by rw [I9.ok.kind]; rfl
        refine wpAny_bind (wpAny_holding (wpAny_assign_Name (wpAny_storeName_local hkj hm9 (fun h10 hn10 sb10 => ?_) hcls)))
        have I10 := named (tk := s6.toks + 1 + 1) (v := .int (ys.length : Int)) I9 hN hj hkj ⟨s6.toks, by rw [ew]⟩ hm9 hl9 hn10 sb10
        obtain ⟨m10, hm10, hl10⟩ := id I10.loc
        refine wpAny_bind (wpAny_holding (wpAny_assign_Name (wpAny_storeName_local hki hm10 (fun h11 hn11 sb11 => wpAny_pure ?_) hcls)))
        have I11 := named (tk := s6.toks + 1 + 1 + 1) I10 hN hi hki rx hm10 hl10 hn11 sb11
        rw [set4 hij] at I11
        refine wpAny_execs_cons (wpAny_If (ht.w pins _ Hg' _ bb I11 htt _ _ fun t => ?_))
        have I12 := I11.tok t
        by_cases cb : bb = true
        · subst cb
          rw [if_pos rfl] at hbb ⊢
          refine wpAny_passesOwn hp (thn (hb.run pins _ _ _ _ I12 hbb) fun f s13 q => ?_)
          cases f with
          | next => obtain ⟨_, _, _, z⟩ := q; exact z.elim
          | cont => obtain ⟨_, _, _, z⟩ := q; exact z.elim
          | brk => exact q
          | ret u => exact q
        · rw [if_neg cb] at hbb ⊢
          refine wpAny_execs_nil (wpAny_execs_nil ?_)
          have hsz1 : g < s6.gens.size := by
            have q : (s6.setGen g gs').gens.size = s6.gens.size := setGen_size _ _ _
            have hsz' : g + 1 ≤ (s6.setGen g gs').gens.size := hsz
            omega
          have kp1 : ∀ b o, b ≠ e → b ≠ X.env.locals → s6.heap.get? b = some o → h11.get? b = some o := fun b o ne n q =>
            (sb11.2 b n).trans ((sb10.2 b n).trans (k9 b o ((sb8.2 b ne).trans (hk7 b o ne q))))
          have he11 : IsEnum h11 e a (((N - m : Nat) : Nat) : Int) v3 := by
            have q : IsEnum h11 e a (((N - (m + 1) : Nat) : Int) + 1) v3 := (sb11.2 e eL).trans ((sb10.2 e eL).trans (k9 e _ he8))
            have z : (((N - (m + 1) : Nat) : Int) + 1) = ((N - m : Nat) : Int) := by omega
            rw [z] at q
            exact q
          refine ⟨m, Nat.lt_succ_self _, _, some xv, Hg', gs', by omega, I12, ⟨o, nm, qn, kp1 a o ae aF ho, oc, od, osl⟩, ⟨v3, he11⟩, setGen_at hsz1, ?_, ?_, ?_⟩
          · exact hk' _ ⟨rfl, allBare_setGen (allBare_setGen sn.bare hbare) rfl, fun b o nb n q => kp1 b o (fun z => nb (by simp [z])) n q, stE he11, _, hn11⟩
          · obtain ⟨oF', _, _, eF', _⟩ := hn11
            obtain ⟨oF5, _, _, eF5, _⟩ := b.inv.loc.choose_spec.1
            exact Cur.next (ch := [e]) (t := s5.heap) sn.un hF ⟨oF5, eF5⟩ HF1 (fun b hb => by rw [show b = e by simpa using hb]; exact sce0) (by simpa using fun z => eL z.symm) (fun b o nb n q => kp1 b o (fun z => nb (by simp [z])) n q) ⟨oF', eF'⟩
          · have : N - m = ys.length + 1 := by omega
            rw [this]; exact hbb
    · intro hsz
      obtain ⟨ys, Hg', hn, sn, hQ⟩ := hp6
      have I6 := turn_for hF Isc b.inv sn rfl b.cur
      have ew : N - n = ys.length := by omega
      have wn : W ys.length := by have := b.w; rw [ew] at this; exact this
      obtain ⟨oS, hoS, hcS⟩ := hst
      refine wpAny_bind (wpAny_isInstance (T := "StopIteration") (b := true) ⟨oS, hoS, hcS⟩ isSubtype_stop ?_)
      exact wpAny_pure (wpAny_execs_nil ⟨_, _, born_inv I6 rfl (allBare_setGen sn.bare rfl) hk', hfin ys Hg' v1 v2 (by omega) hQ wn⟩)
  · refine seg_imp (fun n t r s' z => .inl z) (fun n t v s' kap kap' hkk hY => ?_) N (wake X.A.in1.in1 X.env.locals [e] ({ s1 with heap := h2 }.setGen g .running) ⟨hr.hd, ?_, ?_⟩ I.env0.1 hF (fun b hb => by rw [show b = e by simpa using hb, ← hE]; exact Nat.le_refl _) hk2 (stE he2) hos (allBare_setGen hba rfl))
    · obtain ⟨ys, xv, H', q1, q2, q3, q4, q5, q6⟩ := hY
      exact ⟨ys, xv, H', q1, q2, q3, q4, q5, fun s'' z => hkk _ _ (q6 s'' z)⟩
    · have := hr.dp
      show X.A.depth + 3 * k + 5 < recursionLimit
      omega
    · have := hr.un
      show X.A.units + 1 + 1 + 16 * k + 200 < cLine
      omega
end
end Gr

set_option Elab.async false
set_option linter.all false
set_option maxRecDepth 100000
set_option maxHeartbeats 2000000
namespace Dk
open PySem PySem.Spec PyProof.Rows L2 TL
/-- nobody waits after tick m and the house is not open -/
def smAt (h : Hd) (m : Nat) : Prop := (stt h (m + 1)).wait = [] ∧ (stt h (m + 1)).opn = false
def IsSm (h : Hd) : Prop := ∀ m, smAt h m
theorem sm_rep {h : Hd} (hT : Tabs h.ts) {n : Nat} (r : IsRep h n) (hn : n ≤ 196608) (e : ∀ j, j ≤ n → smAt h j) : IsSm h := fun m => by
  obtain ⟨b, cy⟩ := cyc_of r hn
  by_cases c : b ≤ m
  · have := stt_near2 hT cy c
    have hm := Nat.mod_lt (m - b) (show 0 < n - b by have := cy.lt; omega)
    have q := e (b + (m - b) % (n - b)) (by have := cy.lt; omega)
    unfold smAt at q ⊢
    rw [← this]; exact q
  · exact e m (by have := cy.lt; omega)
def spSmooth (K : PySem.W.Frag) (CH : Addr) : Sp := fun vs H Q _ => ∃ (hp : Addr) (h : Hd), vs = [.ref hp] ∧ HoAt K CH H hp h ∧ Tabs h.ts ∧ h.ts.length ≤ 6 ∧
  ∀ (H' : Hp) (b : Bool), Same H H' → (b = true ↔ IsSm h) → Q (.bl b) H'
structure TxtSm (K : PySem.W.Frag) (mg : Str → Option Value) (fSm fSo : Addr) (fdSm fdSo : FuncData) : Prop where
  gSo : mg "scenes_of" = some (.ref fSo)
  FSo : Fun K "scenes_of" "scenes_of" sScenes fSo fdSo
  bSo : Binds K fdSo ["house"] []
abbrev nSmooth : List Str := ["house", "scene"]
def smIx (K : PySem.W.Frag) (s : Nat) (c : Int) : L2.St → Hp → Bool → Prop := fun σ H b => ∃ x, (∃ q ys i, σ[s]? = some (some (.ref q)) ∧ (V.int i) = (V.int c) ∧ SqT K H q ys ∧ atI ys i = some x) ∧ ((∃ p xs, x = .ref p ∧ SqT K H p xs ∧ b = !xs.isEmpty) ∨ x = .bl b)
theorem sm_ix {X : Cx} {s : Nat} {c : Int} {x2 x3 : Str} {p2 p3 p4 : Pos} {t : Tok} (hN2 : X.N[s]? = some x2) (hv2 : Vis X.env.scope x2) (hg : Gl X x3) (ew : X.mg x3 = some (.int c t)) (h3 : (x2 == ("__debug__" : Str)) = false := by decide) (h4 : (x2 == ("__classdict__" : Str)) = false := by decide) (h5 : (x3 == ("__debug__" : Str)) = false := by decide) :
    Gr.Et1 X (.Subscript (.Name x2 p2) (.Name x3 p3) p4) (smIx X.K s c) :=
  Gr.et_tup rfl (Gq.ex_ixT rfl (Gq.ex_var (i := s) hN2 hv2 h3 h4) (Gq.ex_glob (v := .int c) hg ew ⟨_, rfl⟩ h5) (fun _ _ => rfl)) (fun _ => rfl)
section
variable {P : Program} {w : World} {K : PySem.W.Frag} {mg : Str → Option Value} {base : Heap} {CC CH fCi fAd fSn : Addr} {fdCi fdAd fdSn : FuncData} {fSo fSm : Addr} {fdSo fdSm : FuncData}
end
end Dk

set_option Elab.async false
set_option linter.all false
set_option maxRecDepth 100000
set_option maxHeartbeats 4000000
namespace Dk
open PySem PySem.Spec PyProof.Rows L2 TL
def withKeys (h : Hd) (k : Nat) : Hd := ⟨h.ts, (k : Int), h.cs, h.rs⟩
def spLeastK (K : PySem.W.Frag) (CH : Addr) : Sp := fun vs H Q _ => ∃ (hp : Addr) (h : Hd), vs = [.ref hp] ∧ HoAt K CH H hp h ∧ Parts h.ts h.ks h.cs h.rs ∧
  (∀ (H' : Hp) (k : Nat), Same H H' → k ≤ 9 → IsSm (withKeys h k) → (∀ j, j < k → ¬ IsSm (withKeys h j)) → Q (.int (k : Int)) H') ∧
  ∀ (H' : Hp), Same H H' → (∀ j, j ≤ 9 → ¬ IsSm (withKeys h j)) → Q .non H'
structure TxtLk (K : PySem.W.Frag) (mg : Str → Option Value) (fLk : Addr) (fdLk : FuncData) : Prop where
  most : ∃ t, mg "MOST_KEYS" = some (.int 9 t)
section
variable {P : Program} {w : World} {K : PySem.W.Frag} {mg : Str → Option Value} {base : Heap} {CC CH fCi fAd fSn : Addr} {fdCi fdAd fdSn : FuncData} {fSo fSm : Addr} {fdSo fdSm : FuncData} {C fI : Addr} {fdI : FuncData} {fII fIB fHO : Addr} {fdII fdIB fdHO : FuncData} {fIT fIR fAs : Addr} {fdIT fdIR fdAs : FuncData}
  {fP fT fK fC fR : Addr} {fdP fdT fdK fdC fdR : FuncData} {fH : Addr} {fdH : FuncData} {dvs : List V} {fLk : Addr} {fdLk : FuncData} {fHL : Addr} {fdHL : FuncData}
/-- a house made of parts that are valid -/
theorem init_ok {H : Hp} {Q : Addr → Hp → Prop} {E : XK} {ts : List Str} {kk : Int} {cs : List Int} {rs : List Pr} {aT aC aR : Addr} {xs : List V} {CI : Addr} (hp : Parts ts kk cs rs) (e2 : SqT K H aT (ts.map V.str)) (e3 : SqT K H aC (cs.map V.int)) (e4 : SqT K H aR xs) (e5 : Prs H xs rs)
    (k : ∀ (H' : Hp) (p : Addr), Same H H' → H p = none → HouseAt K CH H' p ts kk cs rs → Q p H') :
    ∀ (p dx : Addr), H p = none → H dx = none → dx ≠ p → spInit K CH CI [.ref p, .ref aT, .int kk, .ref aC, .ref aR] (upd (upd H dx (.own p)) p (.ins CH dx [])) (fun v H' => v = .non ∧ Q p H') E := by
  intro p dx hpn hdx npd
  have sN : Same H (upd (upd H dx (.own p)) p (.ins CH dx [])) := fun b o e => by
    rw [upd_ne (ne_of_none e hpn), upd_ne (ne_of_none e hdx)]; exact e
  refine ⟨p, dx, .ref aT, .int kk, .ref aC, .ref aR, dStrs ts, .int kk, dInts cs, dPrs rs, rfl,
      dpSame sN _ _ (.tup e2 (dpAll_strs ts)), .int _, dpSame sN _ _ (.tup e3 (dpAll_ints _)), dpSame sN _ _ (.tup e4 (dpAll_prs e5)), ?_, upd_same, fun hc H7 k7 e7 => ⟨rfl, ?_⟩, fun part i hc => ?_⟩
  · intro ds hds y hy
    cases hds
    obtain ⟨t, ht, rfl⟩ := List.mem_map.mp hy
    show t.length ≤ 100000
    have := (hp.tabs t ht).pos.2
    rw [len_tl t]; omega
  · have s7 : Same H H7 := fun b o e => k7 b o (ne_of_none e hpn) (sN _ _ e)
    exact k H7 p s7 hpn ⟨⟨dx, aT, aC, aR, xs, e7, sSqT s7 e2, sSqT s7 e3, sSqT s7 e4, e5.mono fun t ys h => s7 _ _ h⟩⟩
  · rw [parts_is hp] at hc; cases hc
end
end Dk

set_option Elab.async false
set_option linter.all false
set_option maxRecDepth 100000
set_option maxHeartbeats 4000000
namespace Dk
open PySem PySem.Spec PyProof.Rows L2 TL
/-! ### the law's keys as data -/
def kD (x : Sc) : PyData := .tuple [.int x.1, .list (dI x.2.1), .list (dI x.2.2.1), .bool x.2.2.2]
theorem lists_eqv : ∀ l m : List Int, PyData.eqv (.list (dI l)) (.list (dI m)) = decide (l = m)
  | [], [] => rfl
  | [], _ :: _ => rfl
  | _ :: _, [] => rfl
  | a :: l, b :: m => by
    have ih := lists_eqv l m
    have e : PyData.eqv (.list (dI (a :: l))) (.list (dI (b :: m))) = ((a == b) && PyData.eqv (.list (dI l)) (.list (dI m))) := rfl
    rw [e, ih]
    by_cases h1 : a = b
    · subst h1; simp
    · simp [h1]
theorem kD_eqv (x y : Sc) : PyData.eqv (kD x) (kD y) = decide (x = y) := by
  obtain ⟨a1, a2, a3, a4⟩ := x
  obtain ⟨b1, b2, b3, b4⟩ := y
  have e : PyData.eqv (kD (a1, a2, a3, a4)) (kD (b1, b2, b3, b4)) = ((a1 == b1) && (PyData.eqv (.list (dI a2)) (.list (dI b2)) && (PyData.eqv (.list (dI a3)) (.list (dI b3)) && (PyData.eqv (.bool a4) (.bool b4) && true)))) := rfl
  have e4 : PyData.eqv (.bool a4) (.bool b4) = (a4 == b4) := by cases a4 <;> cases b4 <;> rfl
  rw [e, lists_eqv, lists_eqv, e4]
  by_cases h1 : a1 = b1 <;> by_cases h2 : a2 = b2 <;> by_cases h3 : a3 = b3 <;> by_cases h4 : a4 = b4 <;> simp [h1, h2, h3, h4]
theorem kD_lay (x : Sc) : PyData.canLay0 (kD x) = true ∧ PyData.depth (kD x) ≤ 2 := by
  obtain ⟨h1, h2⟩ := dI_lay x.2.1
  obtain ⟨h3, h4⟩ := dI_lay x.2.2.1
  refine ⟨?_, ?_⟩
  · show (true && (PyData.canLayAll0 (dI x.2.1) && (PyData.canLayAll0 (dI x.2.2.1) && (true && true)))) = true
    rw [h1, h3]; rfl
  · show max 0 (max (PyData.depthAll (dI x.2.1) + 1) (max (PyData.depthAll (dI x.2.2.1) + 1) (max 0 0))) + 1 ≤ 2
    rw [h2, h4]; decide
theorem kD_shaped (x : Sc) : SeqAt.shaped (kD x) = true := by
  obtain ⟨h1, h2⟩ := kD_lay x
  unfold SeqAt.shaped
  rw [h1, decide_eq_true (show PyData.depth (kD x) ≤ 64 by omega)]; rfl
theorem kDs_shaped (l : List Sc) : SeqAt.shaped (.list (l.map kD)) = true := by
  have h1 : PyData.canLayAll0 (l.map kD) = true ∧ PyData.depthAll (l.map kD) ≤ 2 := by
    induction l with
    | nil => exact ⟨rfl, by show 0 ≤ 2; decide⟩
    | cons x l ih =>
      obtain ⟨i1, i2⟩ := ih
      obtain ⟨j1, j2⟩ := kD_lay x
      exact ⟨by show (PyData.canLay0 (kD x) && PyData.canLayAll0 (l.map kD)) = true; rw [i1, j1]; rfl, by show max (PyData.depth (kD x)) (PyData.depthAll (l.map kD)) ≤ 2; omega⟩
  unfold SeqAt.shaped
  rw [show PyData.canLay0 (.list (l.map kD)) = true from h1.1, decide_eq_true (show PyData.depth (.list (l.map kD)) ≤ 64 by show PyData.depthAll (l.map kD) + 1 ≤ 64; omega)]
  rfl
theorem any_kD (x : Sc) : ∀ l : List Sc, ((l.map kD).any fun z => PyData.eqv z (kD x)) = decide (x ∈ l)
  | [] => by simp
  | y :: l => by
    rw [List.map_cons, List.any_cons, any_kD x l, kD_eqv]
    by_cases h : y = x
    · subst h; simp
    · have : x ≠ y := fun e => h e.symm
      simp [h, this]
/-- a key of the law -/
def KyAt (Hb : Hp) (sl el : Addr) (H : Hp) (v : V) (x : Sc) : Prop := ∃ a b d, v = .ref a ∧ H a = some (.tup [.int x.1, .ref b, .ref d, .bl x.2.2.2]) ∧ H b = some (.lst (x.2.1.map V.int)) ∧ H d = some (.lst (x.2.2.1.map V.int)) ∧ (b ≠ sl ∧ b ≠ el) ∧ (d ≠ sl ∧ d ≠ el)
theorem KyAt.kp {Hb : Hp} {sl el : Addr} {H H' : Hp} {v : V} {x : Sc} (h : KyAt Hb sl el H v x) (k : TupK sl el H H') : KyAt Hb sl el H' v x := by
  obtain ⟨a, b, d, e, e1, e2, e3, n1, n2⟩ := h
  exact ⟨a, b, d, e, k.2 _ _ e1, k.1 _ _ n1.1 n1.2 e2, k.1 _ _ n2.1 n2.2 e3, n1, n2⟩
theorem KyAt.dp {K : PySem.W.Frag} {Hb : Hp} {sl el : Addr} {H : Hp} {v : V} {x : Sc} (h : KyAt Hb sl el H v x) : Dp K H v (kD x) := by
  obtain ⟨a, b, d, rfl, e1, e2, e3, n1, n2⟩ := h
  exact .tup (SqT.of e1) (.cons (.int _) (.cons (ints_dp e2) (.cons (ints_dp e3) (.cons (.bl _) .nil))))
def Kys (Hb : Hp) (sl el : Addr) (H : Hp) (ys : List V) (l : List Sc) : Prop := Paired (KyAt Hb sl el H) ys l
theorem Kys.kp {Hb : Hp} {sl el : Addr} {H H' : Hp} : ∀ {ys : List V} {l : List Sc}, Kys Hb sl el H ys l → TupK sl el H H' → Kys Hb sl el H' ys l
  | [], [], .nil, _ => .nil
  | _ :: _, _ :: _, .cons a q, k => .cons (a.kp k) (Kys.kp q k)
theorem Kys.snoc {Hb : Hp} {sl el : Addr} {H : Hp} : ∀ {ys : List V} {l : List Sc} {y : V} {x : Sc}, Kys Hb sl el H ys l → KyAt Hb sl el H y x → Kys Hb sl el H (ys ++ [y]) (l ++ [x])
  | [], [], _, _, .nil, h => .cons h .nil
  | _ :: _, _ :: _, _, _, .cons a q, h => .cons a (Kys.snoc q h)
theorem Kys.dp {K : PySem.W.Frag} {Hb : Hp} {sl el : Addr} {H : Hp} : ∀ {ys : List V} {l : List Sc}, Kys Hb sl el H ys l → DpAll K H ys (l.map kD)
  | [], [], .nil => .nil
  | _ :: _, _ :: _, .cons a q => .cons a.dp (Kys.dp q)
theorem Kys.len {Hb : Hp} {sl el : Addr} {H : Hp} {ys : List V} {l : List Sc} (q : Kys Hb sl el H ys l) : ys.length = l.length := Paired.length q
theorem TupK.trans {sl el : Addr} {H H1 H2 : Hp} (a : TupK sl el H H1) (b : TupK sl el H1 H2) : TupK sl el H H2 := ⟨a.1.trans b.1, fun x ys z => b.2 _ _ (a.2 _ _ z)⟩
theorem TupK.refl {sl el : Addr} {H : Hp} : TupK sl el H H := ⟨fun _ _ _ _ z => z, fun _ _ z => z⟩
abbrev nCycle : List Str := ["_law_parts_here", "_law_scene", "_law_length_here", "_law_scenes", "_law_keys", "_law_tick_here", "_law_key"]
def spCycle : Sp := fun vs H Q _ => ∃ (pa : Addr) (ts : List Str) (ks : Int) (cs : List Int) (rs : List Pr), vs = [.ref pa] ∧ PartsAt H pa ts ks cs rs ∧ Parts ts ks cs rs ∧
  ∀ (H' : Hp) (r sl el : Addr) (xs : List V) (b n : Nat), Same H H' → IsCyc (hdOf ts ks cs rs) b n → H' r = some (.tup [.ref sl, .int (b : Int)]) → H sl = none → H' sl = some (.lst xs) → ScSs H sl el H' (hdOf ts ks cs rs) xs n → Q (.ref r) H'
def CyInv (Hb H4 : Hp) (pa sl el : Addr) (hd : Hd) (i : Nat) (σ : L2.St) (H' : Hp) : Prop := ∃ (sc qI qO qC : Addr) (xs ys : List V) (v6 : Option V), σ = [some (.ref pa), some (.ref sc), some (.int ((per hd.ts : Nat) : Int)), some (.ref sl), some (.ref el), some (.int (i : Int)), v6] ∧ Kp2 sl el H4 H' ∧ ScA Hb sl el H' sc qI qO qC hd.ks (stt hd i) ∧ H' sl = some (.lst xs) ∧ ScSs Hb sl el H' hd xs i ∧ H' el = some (.lst ys) ∧ Kys Hb sl el H' ys ((List.range i).map (scn hd)) ∧ ((List.range i).map (scn hd)).Nodup
section
variable {P : Program} {w : World} {K : PySem.W.Frag} {mg : Str → Option Value} {base : Heap} {fTb fLn fLv fTl : Addr} {fdTb fdLn fdLv fdTl : FuncData}
theorem scCycle : FnScope nCycle ["_law_parts_here"] (defScope sCycle) := ⟨rfl, rfl, rfl, by decide +kernel, rfl, by decide +kernel, by decide +kernel⟩
theorem ok_cycle {f : Addr} {fd : FuncData} (F : Fun K "_law_cycle" "_law_cycle" sCycle f fd) (T : TxtA mg) (D' : TxtD K mg fTb fLn fdTb fdLn) (L : TxtLv K mg fLv fdLv) (TL' : TxtTk2 K mg fTl fdTl) (hl : mg "list" = none) : FnOk P w K mg base CX0 4 f fd ["_law_parts_here"] spCycle := by
  have GT : FnOk P w K mg base CX0 3 fTl fdTl ["_law_parts_here", "_law_scene", "_law_tick_here"] spTickL := ok_tickL TL'.F T D' L
  have GL : FnOk P w K mg base CX0 1 fLn fdLn ["_law_tables"] (spLength K) := ok_length D'.FL T
  refine F.ok scCycle (fun vs H Q E h => ?_) (fun cdv A outer s H vs Q E hr h => ?_)
  · obtain ⟨pa, ts, ks, cs, rs, rfl, _⟩ := h
    rfl
  · obtain ⟨pa, ts, ks, cs, rs, rfl, hpa, hP, k⟩ := h
    obtain ⟨aT, aC, aR, xr, p1, p2, p3, p4, p5⟩ := id hpa
    have hr1 : Room 1 (A.deeper (envOfC (Str.ofString "_law_cycle") (defScope sCycle) s.heap.objs.size f cdv)) := hr.mono (by decide)
    have hu : (A.deeper (envOfC (Str.ofString "_law_cycle") (defScope sCycle) s.heap.objs.size f cdv)).units + 65 < cLine := by have := hr.un; omega
    refine ⟨_, pss_cons (ps_set (i := 1) scCycle.nd rfl (.inl rfl) (pe_lst (pa_cons (pe_listRg rfl (by rfl) hl (prg_1 (by rfl) T.range (pe_callB call_len_seq (by rfl) T.len PySem.boot_len (pa_cons (pe_ix ix_tup (pv 0) pe_int (fun _ _ => rfl)) pa_nil)))) (pa_cons (pe_lst pa_nil) (pa_cons (pe_lst pa_nil) (pa_cons (pe_ix ix_tup (pv 0) pe_int (fun _ _ => rfl)) (pa_cons pe_bl pa_nil)))))))
      (pss_cons (ps_asg (pe_tup (pa_cons (pe_call GL hr1 rfl D'.gL D'.FL.kp D'.bL .nil pass0 (pa_cons (pe_ix ix_tup (pv 0) pe_int (fun _ _ => rfl)) pa_nil)) (pa_cons (pe_lst pa_nil) (pa_cons (pe_lst pa_nil) (pa_cons pe_int pa_nil)))))
          (pg_tup rfl (pgs_cons (pg_name (i := 2) scCycle.nd rfl (.inl rfl)) (pgs_cons (pg_name (i := 3) scCycle.nd rfl (.inl rfl)) (pgs_cons (pg_name (i := 4) scCycle.nd rfl (.inl rfl)) (pgs_cons (pg_name (i := 5) scCycle.nd rfl (.inl rfl)) pgs_nil))))))
      (pss_one (ps_while PassesOwn.never (pt_val pe_bl)
        (pss_cons (ps_set (i := 1) scCycle.nd rfl (.inl rfl) (pe_ix ix_tup (pe_call GT hr rfl TL'.g TL'.F.kp TL'.b .nil pass0 (pa_cons (pv 0) (pa_cons (pv 1) (pa_cons (pv 5) pa_nil)))) pe_int (fun _ _ => rfl)))
        (pss_cons (ps_set (i := 6) scCycle.nd rfl (.inl rfl) (pe_tup (pa_cons (pe_op op_mod (pv 5) (pv 2)) (pa_cons (pe_ix ix_list (pv 1) pe_int (fun _ _ => rfl)) (pa_cons (pe_ix ix_list (pv 1) pe_int (fun _ _ => rfl)) (pa_cons (pe_ix ix_list (pv 1) pe_int (fun _ _ => rfl)) pa_nil))))))
        (pss_cons (ps_if (pt_cmpR (op_inD hu) (pv 6) (pv 4) (by rfl)) (pss_one (ps_ret (pe_tup (pa_cons (pv 3) (pa_cons (pe_bm PySem.F.plainAttrs_list PySem.F.slot_list_index PySem.F.type_list_index (mt_indexD hu) (pv 4) (pa_cons (pv 6) pa_nil)) pa_nil))))) pss_nil)
        (pss_cons (ps_expr (pe_bm PySem.F.plainAttrs_list PySem.F.slot_list_append PySem.F.type_list_append mt_append (pv 4) (pa_cons (pv 6) pa_nil)))
        (pss_cons (ps_expr (pe_bm PySem.F.plainAttrs_list PySem.F.slot_list_append PySem.F.type_list_append mt_append (pv 3) (pa_cons (pv 1) pa_nil)))
        (pss_one (ps_set (i := 5) scCycle.nd rfl (.inl rfl) (pe_op op_add (pv 5) pe_int))))))))))), ?_⟩
    have n6 := hP.n6
    refine ⟨_, rfl, pa, _, 0, _, rfl, rfl, SqT.of p1, at0, aT, _, rfl, .inr (SqT.of p2), _, rfl, RgOk.of_le (by decide) (by rw [List.length_map]; omega) (by decide) (by rw [List.length_map]; omega), fun qI hqI => ?_⟩
    rw [List.length_map, rgV_rg]
    have fI : H qI = none := hqI
    have s1 := same_upd (o := .lst ((rg ts.length).map V.int)) hqI
    have e1 : (upd H qI (.lst ((rg ts.length).map V.int))) qI = some (.lst ((rg ts.length).map V.int)) := upd_same
    generalize upd H qI (.lst ((rg ts.length).map V.int)) = H1 at s1 e1
    refine ⟨Nat.zero_le _, fun qO hqO => ⟨Nat.zero_le _, fun qC hqC => ?_⟩⟩
    have fO : H qO = none := s1.free hqO
    have fC : H qC = none := s1.free ((same_upd (o := .lst []) hqO).free hqC)
    have s2 := (same_upd (o := .lst []) hqO).trans (same_upd (o := .lst []) hqC)
    have e2 : (upd (upd H1 qO (.lst [])) qC (.lst [])) qO = some (.lst []) := same_upd hqC _ _ upd_same
    have e3 : (upd (upd H1 qO (.lst [])) qC (.lst [])) qC = some (.lst []) := upd_same
    generalize upd (upd H1 qO (.lst [])) qC (.lst []) = H2 at s2 e2 e3
    have s12 := s1.trans s2
    refine ⟨_, rfl, pa, _, 1, _, rfl, rfl, SqT.of (s12 _ _ p1), at1, by show 5 ≤ sizeLine; decide, fun sc hsc => ?_⟩
    have fS : H sc = none := s12.free hsc
    have s3 := s12.trans (same_upd (o := .lst [.ref qI, .ref qO, .ref qC, .int ks, .bl false]) hsc)
    have es : ScL (upd H2 sc (.lst [.ref qI, .ref qO, .ref qC, .int ks, .bl false])) sc qI qO qC ks (stt (hdOf ts ks cs rs) 0) := by
      have s4 := same_upd (o := .lst [.ref qI, .ref qO, .ref qC, .int ks, .bl false]) hsc
      refine ⟨?_, s4 _ _ (s2 _ _ e1), s4 _ _ e2, s4 _ _ e3⟩
      rw [upd_same]
      show some (HO.lst [_, _, _, V.int ks, _]) = some (.lst [_, _, _, V.int (ks - 0), _])
      rw [Int.sub_zero]
      rfl
    generalize upd H2 sc (.lst [.ref qI, .ref qO, .ref qC, .int ks, .bl false]) = H3 at s3 es
    clear e1 e2 e3 s2 hqI hqO hqC hsc
    have hper : (0 : Int) < ((per ts : Nat) : Int) := by have := per_pos hP.tabs; omega
    refine ⟨_, rfl, pa, _, 0, _, rfl, rfl, SqT.of (s3 _ _ p1), at0, aT, ts, rfl, SqT.of (s3 _ _ p2), hP.tabs, n6, fun H3' s3' => ?_⟩
    have s3 := s3.trans s3'
    have es := es.mono s3'
    clear s3'
    refine ⟨Nat.zero_le _, fun sl hsl => ⟨Nat.zero_le _, fun el hel => ?_⟩⟩
    have nls : sl ≠ el := ne_of_none upd_same hel
    have s4 := (same_upd (o := .lst []) hsl).trans (same_upd (o := .lst []) hel)
    have e4 : (upd (upd H3' sl (.lst [])) el (.lst [])) sl = some (.lst []) := same_upd hel _ _ upd_same
    have e5 : (upd (upd H3' sl (.lst [])) el (.lst [])) el = some (.lst []) := upd_same
    have nel : H3' el = none := (same_upd (o := .lst []) hsl).free hel
    have esA : ScA H sl el H3' sc qI qO qC ks (stt (hdOf ts ks cs rs) 0) := ⟨es, ⟨ne_of_none es.1 hsl, ne_of_none es.1 nel, fS⟩, ⟨ne_of_none es.2.1 hsl, ne_of_none es.2.1 nel, fI⟩, ⟨ne_of_none es.2.2.1 hsl, ne_of_none es.2.2.1 nel, fO⟩, ⟨ne_of_none es.2.2.2 hsl, ne_of_none es.2.2.2 nel, fC⟩⟩
    generalize upd (upd H3' sl (.lst [])) el (.lst []) = H4 at s4 e4 e5
    have nsl0 : H sl = none := s3.free hsl
    have nel0 : H el = none := s3.free nel
    refine ⟨by show 4 ≤ sizeLine; decide, fun u0 hu0 => ⟨u0, _, rfl, SqT.of upd_same, rfl, _, _, rfl, _, _, rfl, _, _, rfl, _, _, rfl, rfl, ?_⟩⟩
    have s5 := same_upd (o := .tup [.int ((per ts : Nat) : Int), .ref sl, .ref el, .int 0]) hu0
    have e4 := s5 _ _ e4
    have e5 := s5 _ _ e5
    have s4 := s4.trans s5
    generalize upd H4 u0 (.tup [.int ((per ts : Nat) : Int), .ref sl, .ref el, .int 0]) = H5 at s4 e4 e5
    have s35 := s3.trans s4
    refine ⟨fun m σ H' => ∃ i, CyInv H H5 pa sl el (hdOf ts ks cs rs) i σ H' ∧ m = 196609 - i, ⟨_, 0, ⟨sc, qI, qO, qC, [], [], _, rfl, fun _ _ _ _ z => z, esA.kp (Kp2.same s4), e4, ⟨rfl, fun i hi => by omega⟩, e5, .nil, .nil⟩, rfl⟩, ?_⟩
    rintro m σ H6 ⟨i, ⟨sc, qI, qO, qC, xs, ys, v6, rfl, k6, esc, esl, hss, eel, hky, hnd⟩, rfl⟩
    have hi := nd_le (h := hdOf ts ks cs rs) hP.tabs n6 hnd
    have s06 : Same H H6 := fun b o eb => k6 _ _ (ne_of_none eb nsl0) (ne_of_none eb nel0) (s35 _ _ eb)
    have hle := kb_stt (h := hdOf ts ks cs rs) hP.k0 i
    refine ⟨true, rfl, iteT ⟨CyInv H H5 pa sl el (hdOf ts ks cs rs) (i + 1), fun σ' H' z => ⟨196609 - (i + 1), by omega, i + 1, z, rfl⟩, ?_⟩⟩
    refine ⟨_, rfl, _, rfl, _, rfl, pa, sc, qI, qO, qC, (i : Int), stt (hdOf ts ks cs rs) i, ts, ks, cs, rs, rfl, hpa.mono fun a zs z => s06 _ _ z, hP, esc.1, gd_stt (hdOf ts ks cs rs) i, hle, fun H7 r sc' e' qI' qO' qC' s7 n1 n2 n3 n4 n5 a1 a2 a3 => ?_⟩
    have a2' : ScL H7 sc' qI' qO' qC' ks (stt (hdOf ts ks cs rs) (i + 1)) := a2
    have eA : ScA H sl el H7 sc' qI' qO' qC' ks (stt (hdOf ts ks cs rs) (i + 1)) := ⟨a2, ⟨(ne_of_none esl n1).symm, (ne_of_none eel n1).symm, s06.free n1⟩, ⟨(ne_of_none esl n3).symm, (ne_of_none eel n3).symm, s06.free n3⟩, ⟨(ne_of_none esl n4).symm, (ne_of_none eel n4).symm, s06.free n4⟩, ⟨(ne_of_none esl n5).symm, (ne_of_none eel n5).symm, s06.free n5⟩⟩
    refine ⟨r, _, 0, _, rfl, rfl, SqT.of a1, at0, ?_⟩
    refine ⟨_, rfl, _, rfl, _, _, rfl, rfl, hper, _, rfl, sc', _, 1, _, rfl, rfl, SqL.of a2'.1, (by rfl), _, rfl, sc', _, 2, _, rfl, rfl, SqL.of a2'.1, (by rfl), _, rfl, sc', _, 4, _, rfl, rfl, SqL.of a2'.1, (by rfl), by show 4 ≤ sizeLine; decide, fun u hu7 => ?_⟩
    have s8 := same_upd (o := .tup [(fun i j : Int => V.int (i % j)) (i : Int) ((per (hdOf ts ks cs rs).ts : Nat) : Int), .ref qO', .ref qC', .bl (stt (hdOf ts ks cs rs) (i + 1)).opn]) hu7
    have eu : (upd H7 u (.tup [(fun i j : Int => V.int (i % j)) (i : Int) ((per (hdOf ts ks cs rs).ts : Nat) : Int), .ref qO', .ref qC', .bl (stt (hdOf ts ks cs rs) (i + 1)).opn])) u = some (.tup [(fun i j : Int => V.int (i % j)) (i : Int) ((per (hdOf ts ks cs rs).ts : Nat) : Int), .ref qO', .ref qC', .bl (stt (hdOf ts ks cs rs) (i + 1)).opn]) := upd_same
    generalize upd H7 u (.tup [(fun i j : Int => V.int (i % j)) (i : Int) ((per (hdOf ts ks cs rs).ts : Nat) : Int), .ref qO', .ref qC', .bl (stt (hdOf ts ks cs rs) (i + 1)).opn]) = H8 at s8 eu
    have s78 := s7.trans s8
    have hkey : KyAt H sl el H8 (.ref u) (scn (hdOf ts ks cs rs) i) := ⟨u, qO', qC', rfl, eu, s8 _ _ a2'.2.2.1, s8 _ _ a2'.2.2.2, ⟨eA.2.2.2.1.1, eA.2.2.2.1.2.1⟩, ⟨eA.2.2.2.2.1, eA.2.2.2.2.2.1⟩⟩
    have esl8 := s78 _ _ esl
    have eel8 := s78 _ _ eel
    have hky8 := hky.kp (tupK_same s78)
    have hss8 := hss.kp (Kp2.same s78)
    have eA8 := eA.kp (Kp2.same s8)
    have k8 : Kp2 sl el H5 H8 := k6.trans (Kp2.same s78)
    refine ⟨_, rfl, _, rfl, kD (scn (hdOf ts ks cs rs) i), ((List.range i).map (scn (hdOf ts ks cs rs))).map kD, hkey.dp, .lst (SqL.of eel8) hky8.dp, kD_shaped _, kDs_shaped _, _, rfl, ?_⟩
    rw [any_kD]
    by_cases hm : scn (hdOf ts ks cs rs) i ∈ (List.range i).map (scn (hdOf ts ks cs rs))
    · rw [decide_eq_true hm]
      obtain ⟨b, cy⟩ := cyc_of ⟨hnd, hm⟩ hi
      have hgt : ∀ j, j < i → (((List.range i).map (scn (hdOf ts ks cs rs))).map kD)[j]? = some (kD (scn (hdOf ts ks cs rs) j)) := fun j hj => by
        rw [List.getElem?_map, List.getElem?_map, List.getElem?_range hj]; rfl
      refine iteT ⟨_, rfl, _, rfl, .inl ⟨rfl, _, SqL.of eel8⟩, _, rfl, el, .ref u, kD (scn (hdOf ts ks cs rs) i), ((List.range i).map (scn (hdOf ts ks cs rs))).map kD, b, kD (scn (hdOf ts ks cs rs) b), rfl, rfl, .lst (SqL.of eel8) hky8.dp, hkey.dp, kDs_shaped _, kD_shaped _, hgt b cy.lt, ?_, fun m z hm' hz => ?_, ?_⟩
      · rw [kD_eqv, cy.eq]; exact decide_eq_true rfl
      · rw [hgt m (by have := cy.lt; omega)] at hz
        cases hz
        rw [kD_eqv]
        exact decide_eq_false (cy.ne m hm')
      refine ⟨by show 2 ≤ sizeLine; decide, fun r2 hr2 => ?_⟩
      have s9 := same_upd (o := .tup [.ref sl, .int (b : Int)]) hr2
      have s08 : Same H H8 := s06.trans s78
      exact k _ r2 sl el xs b i (s08.trans s9) cy upd_same nsl0 (s9 _ _ esl8) (hss8.kp (Kp2.same s9))
    · rw [decide_eq_false hm]
      refine iteF ⟨_, rfl, .inl ⟨rfl, _, SqL.of eel8⟩, _, rfl, el, _, _, rfl, rfl, eel8, ?_, ?_⟩
      · rw [hky8.len, List.length_map, List.length_range]; exact Nat.lt_of_le_of_lt hi (by decide)
      have t9 : TupK sl el H8 (upd H8 el (.lst (ys ++ [.ref u]))) := tupK_upd2 eel8
      have eel9 : (upd H8 el (.lst (ys ++ [.ref u]))) el = some (.lst (ys ++ [.ref u])) := upd_same
      have esl9 : (upd H8 el (.lst (ys ++ [.ref u]))) sl = some (.lst xs) := by rw [upd_ne nls]; exact esl8
      have hky9 := (hky8.snoc hkey).kp t9
      have hss9 := (hss8.snoc eA8).kp t9.1
      have eA9 := eA8.kp t9.1
      have k9 := k8.trans t9.1
      generalize upd H8 el (.lst (ys ++ [.ref u])) = H9 at eel9 esl9 hky9 hss9 eA9 k9
      refine ⟨_, rfl, .inl ⟨rfl, _, SqL.of esl9⟩, _, rfl, sl, _, _, rfl, rfl, esl9, ?_, ?_⟩
      · rw [hss.1]; exact Nat.lt_of_le_of_lt hi (by decide)
      have t10 : TupK sl el H9 (upd H9 sl (.lst (xs ++ [.ref sc']))) := tupK_upd1 esl9
      refine ⟨_, rfl, _, _, rfl, rfl, sc', qI', qO', qC', xs ++ [.ref sc'], ys ++ [.ref u], some (.ref u), ?_, k9.trans t10.1, eA9.kp t10.1, upd_same, hss9.kp t10.1, by rw [upd_ne nls.symm]; exact eel9, ?_, nd_succ hnd hm⟩
      · rfl
      · rw [List.range_succ, List.map_append]; exact hky9.kp t10
end
end Dk

set_option Elab.async false
set_option linter.all false
set_option maxRecDepth 100000
set_option maxHeartbeats 4000000
namespace Dk
open PySem PySem.Spec PyProof.Rows L2 TL
def spPartsN : Sp := fun vs H Q _ => ∃ (d : Addr) (most : Int) (st : List Int), vs = [.ref d, .int most] ∧ H d = some (.lst (st.map V.int)) ∧ Good st ∧ 1 ≤ most ∧ most ≤ 6 ∧
  ∀ (H' : Hp) (st' : List Int) (a : Addr) (ts : List Str) (keys : Int) (cs : List Int) (rs : List Pr), Kp d H H' → H' d = some (.lst (st'.map V.int)) → Good st' → PartsAt H' a ts keys cs rs → Parts ts keys cs rs → (ts.length : Int) ≤ most → Q (.ref a) H'
section
variable {P : Program} {w : World} {K : PySem.W.Frag} {mg : Str → Option Value} {base : Heap}
theorem ok_partsN {f fB fT fL : Addr} {fd fdB fdT fdL : FuncData} (F : Fun K "_law_parts" "_law_parts" sParts f fd) (T : TxtA mg) (B : TxtB K mg fB fdB) (D' : TxtD K mg fT fL fdT fdL) : FnOk P w K mg base CX0 3 f fd ["_law_d", "_law_most"] spPartsN := by
  have GB : FnOk P w K mg base CX0 1 fB fdB ["_law_d", "_law_limit"] spBelow := ok_below B.F T
  have GT : FnOk P w K mg base CX0 2 fT fdT ["_law_d"] spTable := ok_table D'.FT T B
  have GL : FnOk P w K mg base CX0 1 fL fdL ["_law_tables"] (spLength K) := ok_length D'.FL T
  refine F.ok scParts (fun vs H Q E h => ?_) (fun cdv A outer s H vs Q E hr h => ?_)
  · obtain ⟨d, most, st, rfl, _⟩ := h
    rfl
  · obtain ⟨d, most, st, rfl, hd, hg, hm1, hm6, k⟩ := h
    have hr1 : Room 1 _ := hr.mono (by decide)
    have hu : (A.deeper (envOfC (Str.ofString "_law_parts") (defScope sParts) s.heap.objs.size f cdv)).units + 65 < cLine := by have := hr.un; omega
    refine ⟨_, pss_cons (ps_set (i := 3) scParts.nd rfl (.inl rfl) (pe_callTy call_tuple_of (by rfl) D'.tuple (by decide +kernel) (pa_cons
        (pe_lc (own := [("_law_k", 2)]) (g := gName 2) (by rfl) scParts.nd (pi_range1 rfl T.range (pa_cons (pe_op op_add pe_int (pe_call GB hr1 rfl B.g B.F.kp B.b .nil pass0 (pa_cons (pv 0) (pa_cons (pv 1) pa_nil)))) pa_nil)) (blkOk_by (N := nParts) (sc := defScope sParts) (by decide +kernel))
          (fun _ _ _ _ _ => pg_name (i := 2) scParts.nd rfl (Or.inl rfl)) (fun _ _ _ _ _ => pts_nil)
          (fun _ _ _ _ _ => pe_call GT hr rfl D'.gT D'.FT.kp D'.bT .nil pass0 (pa_cons (pv 0) pa_nil))) pa_nil)))
      (pss_cons (ps_set (i := 4) scParts.nd rfl (.inl rfl) (pe_callTy call_tuple_of (by rfl) D'.tuple (by decide +kernel) (pa_cons
        (pe_lc (own := [("_law_k", 2)]) (g := gName 2) (by rfl) scParts.nd (pi_range1 rfl T.range (pa_cons (pe_callB call_len_seq (by rfl) T.len PySem.boot_len (pa_cons (pv 3) pa_nil)) pa_nil)) (blkOk_by (N := nParts) (sc := defScope sParts) (by decide +kernel))
          (fun _ _ _ _ _ => pg_name (i := 2) scParts.nd rfl (Or.inl rfl)) (fun _ _ _ _ _ => pts_one (pt_cmpR op_eq (pe_call GB hr1 rfl B.g B.F.kp B.b .nil pass0 (pa_cons (pv 0) (pa_cons pe_int pa_nil))) pe_int (nomark _)))
          (fun _ _ _ _ _ => pv 2)) pa_nil)))
      (pss_cons (ps_par (by rfl) scParts.nd (i := 5) (j := 6) rfl rfl (by decide) rfl rfl (pa_cons (pe_call GL hr1 rfl D'.gL D'.FL.kp D'.bL .nil pass0 (pa_cons (pv 3) pa_nil)) (pa_cons (pe_lst pa_nil) pa_nil)) (by rfl))
      (pss_cons (ps_for PassesOwn.never rfl (pi_range1 rfl T.range (pa_cons (pe_call GB hr1 rfl B.g B.F.kp B.b .nil pass0 (pa_cons (pv 0) (pa_cons
            (pe_ix ix_list (pe_lst (pa_cons pe_int (pa_cons pe_int (pa_cons pe_int pa_nil)))) (pe_call GB hr1 rfl B.g B.F.kp B.b .nil pass0 (pa_cons (pv 0) (pa_cons pe_int pa_nil))) (fun _ _ => rfl)) pa_nil))) pa_nil)) (pg_name (i := 2) scParts.nd rfl (.inl rfl))
          (pss_cons (ps_set (i := 7) scParts.nd rfl (.inl rfl) (pe_tup (pa_cons (pe_call GB hr1 rfl B.g B.F.kp B.b .nil pass0 (pa_cons (pv 0) (pa_cons (pv 5) pa_nil)))
              (pa_cons (pe_call GB hr1 rfl B.g B.F.kp B.b .nil pass0 (pa_cons (pv 0) (pa_cons (pe_callB call_len_seq (by rfl) T.len PySem.boot_len (pa_cons (pv 3) pa_nil)) pa_nil))) pa_nil))))
          (pss_one (ps_if (pt_cmpR (op_notInD hu) (pv 7) (pv 6) (by rfl))
            (pss_one (ps_expr (pe_bm PySem.F.plainAttrs_list PySem.F.slot_list_append PySem.F.type_list_append mt_append (pv 6) (pa_cons (pv 7) pa_nil)))) pss_nil))))
      (pss_one (ps_ret (pe_tup (pa_cons (pv 3) (pa_cons (pe_call GB hr1 rfl B.g B.F.kp B.b .nil pass0 (pa_cons (pv 0) (pa_cons
            (pe_ix ix_list (pe_lst (pa_cons pe_int (pa_cons pe_int pa_nil))) (pe_call GB hr1 rfl B.g B.F.kp B.b .nil pass0 (pa_cons (pv 0) (pa_cons pe_int pa_nil))) (fun _ _ => rfl)) pa_nil)))
          (pa_cons (pv 4) (pa_cons (pe_callTy call_tuple_of (by rfl) D'.tuple (by decide +kernel) (pa_cons (pe_callB cr_sortedPO (by rfl) D'.sorted (by decide +kernel) (pa_cons (pv 6) pa_nil)) pa_nil)) pa_nil)))))))))), ?_⟩
    -- the timetables
    refine ⟨_, rfl, _, rfl, d, most, st, rfl, hd, hg, hm1, by omega, fun H1 st1 r1 k1 hd1 hg1 r10 r11 => ?_⟩
    refine ⟨_, _, rfl, rfl, _, rfl, by omega, by omega, fun D hD => lc_range (lo := 0) (n := (1 + r1).toNat)
      (fun i H3 => ∃ (st3 : List Int) (ts : List Str), Kp d H1 H3 ∧ H3 d = some (.lst (st3.map V.int)) ∧ Good st3 ∧ H3 D = some (.lst (ts.map V.str)) ∧ ts.length = i ∧ Tabs ts)
      ⟨st1, [], sKp (same_upd hD), same_upd hD _ _ hd1, hg1, upd_same, rfl, fun t ht => by cases ht⟩ ?_ ?_⟩
    · rintro i H3 hi ⟨st3, ts, k3, hd3, hg3, eD, hl, hT⟩
      have ndD : d ≠ D := ne_of_none hd1 hD
      refine ⟨rfl, _, rfl, d, st3, rfl, hd3, hg3, fun H4 st4 t k4 hd4 hg4 ht => ?_⟩
      refine ⟨_, k4 _ _ ndD.symm eD, ?_, st4, ts ++ [t], fun b o nb eb => ?_, by rw [upd_ne ndD]; exact hd4, hg4, by rw [upd_same]; simp, by rw [List.length_append, hl]; rfl, fun x hx => ?_⟩
      · rw [List.length_map, hl]; exact Nat.lt_of_le_of_lt (by omega : i ≤ 1000) (by decide)
      · rw [upd_ne (ne_of_none eb hD)]; exact k4 _ _ nb (k3 _ _ nb eb)
      · rcases List.mem_append.mp hx with hx | hx
        · exact hT x hx
        · rw [List.mem_singleton.mp hx]; exact ht
    rintro H3 ⟨st3, ts, k3, hd3, hg3, eD, hl, hT⟩
    have hl6 : 1 ≤ ts.length ∧ ts.length ≤ 6 := by omega
    have hlm : (ts.length : Int) ≤ most := by omega
    clear hl
    refine ⟨D, ts.map V.str, rfl, .inl ⟨SqL.of eD, fun aT haT => ?_⟩⟩
    have kA : Kp d H (upd H3 aT (.tup (ts.map V.str))) := (k1.trans k3).trans (sKp (same_upd haT))
    have hdA : (upd H3 aT (.tup (ts.map V.str))) d = some (.lst (st3.map V.int)) := same_upd haT _ _ hd3
    have eT : (upd H3 aT (.tup (ts.map V.str))) aT = some (.tup (ts.map V.str)) := upd_same
    generalize upd H3 aT (.tup (ts.map V.str)) = HA at kA hdA eT
    clear k1 hd1 hg1 k3 hd3 eD haT hD hd hg
    -- the careful persons
    refine ⟨_, rfl, aT, _, rfl, .inr (SqT.of eT), _, rfl, by omega, by rw [List.length_map]; omega, fun D hD => lc_range (lo := 0) (n := (((ts.map V.str).length : Nat) : Int).toNat)
      (fun i H3 => ∃ (st3 : List Int) (cs : List Int), Kp d HA H3 ∧ H3 d = some (.lst (st3.map V.int)) ∧ Good st3 ∧ H3 D = some (.lst (cs.map V.int)) ∧ cs.length ≤ i ∧ cs.Pairwise (· < ·) ∧ ∀ c ∈ cs, (0 : Int) ≤ c ∧ c < (i : Int))
      ⟨st3, [], sKp (same_upd hD), same_upd hD _ _ hdA, hg3, upd_same, Nat.le_refl _, .nil, fun t ht => by cases ht⟩ ?_ ?_⟩
    · rintro i H3 hi ⟨st3, cs, k3, hd3, hg3, eD, hl, hP, hC⟩
      have ndD : d ≠ D := ne_of_none hdA hD
      rw [List.length_map] at hi
      refine ⟨rfl, _, rfl, d, 3, st3, rfl, hd3, hg3, by decide, by decide, fun H4 st4 r4 k4 hd4 hg4 r40 r41 => ?_⟩
      have eD4 := k4 _ _ ndD.symm eD
      refine ⟨rfl, _, rfl, ite2 (fun c => ?_) (fun c => ?_)⟩
      · refine ⟨_, rfl, _, eD4, ?_, st4, cs ++ [(0 : Int) + (i : Int)], fun b o nb eb => ?_, by rw [upd_ne ndD]; exact hd4, hg4, by rw [upd_same]; simp, by rw [List.length_append, List.length_singleton]; omega, ?_, fun x hx => ?_⟩
        · rw [List.length_map]; exact Nat.lt_of_le_of_lt (by omega : cs.length ≤ 1000) (by decide)
        · rw [upd_ne (ne_of_none eb hD)]; exact k4 _ _ nb (k3 _ _ nb eb)
        · refine List.pairwise_append.mpr ⟨hP, List.pairwise_singleton _ _, fun x hx y hy => ?_⟩
          rw [List.mem_singleton.mp hy]
          have := hC x hx
          omega
        · rcases List.mem_append.mp hx with hx | hx
          · have := hC x hx; omega
          · rw [List.mem_singleton.mp hx]; omega
      · exact ⟨st4, cs, fun b o nb eb => k4 _ _ nb (k3 _ _ nb eb), hd4, hg4, eD4, by omega, hP, fun x hx => by have := hC x hx; omega⟩
    rintro H3 ⟨st4, cs, k3, hd3, hg4, eD, hl, hCP, hCM⟩
    rw [List.length_map] at hl hCM
    refine ⟨D, cs.map V.int, rfl, .inl ⟨SqL.of eD, fun aC haC => ?_⟩⟩
    have kB : Kp d H (upd H3 aC (.tup (cs.map V.int))) := (kA.trans k3).trans (sKp (same_upd haC))
    have hdB : (upd H3 aC (.tup (cs.map V.int))) d = some (.lst (st4.map V.int)) := same_upd haC _ _ hd3
    have eT2 : (upd H3 aC (.tup (cs.map V.int))) aT = some (.tup (ts.map V.str)) := same_upd haC _ _ (kp_tup k3 hdA _ _ eT)
    have eC : (upd H3 aC (.tup (cs.map V.int))) aC = some (.tup (cs.map V.int)) := upd_same
    generalize upd H3 aC (.tup (cs.map V.int)) = HB at kB hdB eT2 eC
    clear kA hdA eT k3 hd3 hg3 eD haC hD
    -- the period; no reminders yet
    refine ⟨_, rfl, aT, ts, rfl, SqT.of eT2, hT, hl6.2, fun HC sC => ?_⟩
    refine ⟨Nat.zero_le _, fun l hL => ?_⟩
    have kC : Kp d H (upd HC l (.lst [])) := (kB.trans (sKp sC)).trans (sKp (same_upd hL))
    have hdC := same_upd (o := .lst []) hL _ _ (sC _ _ hdB)
    have eT3 := same_upd (o := .lst []) hL _ _ (sC _ _ eT2)
    have eC3 := same_upd (o := .lst []) hL _ _ (sC _ _ eC)
    have eL : (upd HC l (.lst [])) l = some (.lst []) := upd_same
    have ndl : d ≠ l := ne_of_none (sC _ _ hdB) hL
    have nHl : H l = none := by
      cases q : H l with
      | none => rfl
      | some o =>
        have := (kB.trans (sKp sC)) l o ndl.symm q
        rw [hL] at this
        cases this
    generalize upd HC l (.lst []) = HD at kC hdC eT3 eC3 eL
    clear kB hdB eT2 eC sC hL
    refine ⟨_, _, rfl, ?_⟩
    -- the reminders
    refine ⟨_, rfl, by show 3 ≤ sizeLine; decide, fun l1 hl1 => ?_⟩
    have s1 : Same HD (upd HD l1 (.lst [.int 1, .int 4, .int 11])) := same_upd hl1
    have n1 : l1 ≠ d := (ne_of_none hdC hl1).symm
    refine ⟨_, rfl, d, 3, st4, rfl, s1 _ _ hdC, hg4, by decide, by decide, fun HE st5 r5 k5 hd5 hg5 r50 r51 => ?_⟩
    have e1 : HE l1 = some (.lst (([1, 4, 11] : List Int).map V.int)) := k5 _ _ n1 upd_same
    obtain ⟨z1, hz1, a1⟩ := at_mem (L := [1, 4, 11]) r50 (by simpa using r51)
    have hz : 1 ≤ z1 ∧ z1 ≤ 11 := by simp at hz1; omega
    refine ⟨l1, _, r5, _, rfl, rfl, SqL.of e1, a1, d, z1, st5, rfl, hd5, hg5, hz.1, by omega, fun HF st6 r6 k6 hd6 hg6 r60 r61 => ?_⟩
    have kF : Kp d HD HF := (sKp s1).trans (k5.trans k6)
    have tF := kp_tup kF hdC
    refine ⟨_, rfl, by omega, by omega, for_range (lo := 0) (n := r6.toNat)
      (fun i σ H' => ∃ (st7 : List Int) (xs : List V) (rs : List Pr) (v2 v7 : Option V), σ = [some (.ref d), some (.int most), v2, some (.ref aT), some (.ref aC), some (.int ((per ts : Nat) : Int)), some (.ref l), v7] ∧
        Kp d H H' ∧ H' d = some (.lst (st7.map V.int)) ∧ Good st7 ∧ H' aT = some (.tup (ts.map V.str)) ∧ H' aC = some (.tup (cs.map V.int)) ∧ H' l = some (.lst xs) ∧ Prs H' xs rs ∧ rs.Nodup ∧ rs.length ≤ i ∧
        ∀ r ∈ rs, (0 : Int) ≤ r.1 ∧ r.1 < ((per ts : Nat) : Int) ∧ (0 : Int) ≤ r.2 ∧ r.2 < (ts.length : Int))
      ⟨st6, [], [], none, none, rfl, kC.trans kF, hd6, hg6, tF _ _ eT3, tF _ _ eC3, kF _ _ ndl.symm eL, .nil, .nil, Nat.le_refl _, fun r hr => by cases hr⟩ ?_ ?_⟩
    · rintro i σ H' hi ⟨st7, xs, rs, v2, v7, rfl, kG, hd7, hg7, eT4, eC4, eL4, hP, hN, hlen, hM⟩
      refine ⟨_, rfl, _, rfl, d, _, st7, rfl, hd7, hg7, by have := per_pos hT; omega, by have := per_le hT; omega, fun H5 st8 ra k8 hd8 hg8 ra0 ra1 => ?_⟩
      refine ⟨_, rfl, _, rfl, aT, _, rfl, .inr (SqT.of (kp_tup k8 hd7 _ _ eT4)), d, _, st8, rfl, hd8, hg8, by rw [List.length_map]; omega, by rw [List.length_map]; omega, fun H6 st9 rb k9 hd9 hg9 rb0 rb1 => ?_⟩
      rw [List.length_map] at rb1
      have kH : Kp d H' H6 := k8.trans k9
      have tH := kp_tup kH hd7
      refine ⟨by show 2 ≤ sizeLine; decide, fun p hp => ?_⟩
      have eL6 := same_upd (o := .tup [.int ra, .int rb]) hp _ _ (kH _ _ ndl.symm eL4)
      have hP6 : Prs (upd H6 p (.tup [.int ra, .int rb])) xs rs := hP.mono fun t ys h => same_upd hp _ _ (tH _ _ h)
      have hPr : PrAt (upd H6 p (.tup [.int ra, .int rb])) (.ref p) (ra, rb) := ⟨p, rfl, upd_same⟩
      have kI : Kp d H (upd H6 p (.tup [.int ra, .int rb])) := (kG.trans kH).trans (sKp (same_upd hp))
      have hd10 := same_upd (o := .tup [.int ra, .int rb]) hp _ _ hd9
      have eT6 := same_upd (o := .tup [.int ra, .int rb]) hp _ _ (tH _ _ eT4)
      have eC6 := same_upd (o := .tup [.int ra, .int rb]) hp _ _ (tH _ _ eC4)
      generalize upd H6 p (.tup [.int ra, .int rb]) = H7 at eL6 hP6 hPr kI hd10 eT6 eC6
      refine ⟨_, rfl, _, rfl, prR (ra, rb), rs.map prR, dp_pr hPr, .lst (SqL.of eL6) (dpAll_prs hP6), prR_shaped _, prRs_shaped _, _, rfl, ?_⟩
      rw [any_eqv]
      by_cases c : (ra, rb) ∈ rs
      · rw [decide_eq_true c]
        refine iteF ?_
        exact ⟨st9, xs, rs, _, _, rfl, kI, hd10, hg9, eT6, eC6, eL6, hP6, hN, by omega, hM⟩
      · rw [decide_eq_false c]
        refine iteT ?_
        refine ⟨_, rfl, .inl ⟨rfl, _, SqL.of eL6⟩, _, rfl, l, _, _, rfl, rfl, eL6, ?_, ?_⟩
        · rw [hP6.len]; exact Nat.lt_of_le_of_lt (by omega : rs.length ≤ 1000) (by decide)
        · have nlT : aT ≠ l := fun e => by rw [e, eL6] at eT6; cases eT6
          have nlC : aC ≠ l := fun e => by rw [e, eL6] at eC6; cases eC6
          have tK : ∀ t ys, H7 t = some (.tup ys) → (upd H7 l (.lst (xs ++ [V.ref p]))) t = some (.tup ys) := fun t ys h => by
            rw [upd_ne (fun e => by rw [e, eL6] at h; cases h)]; exact h
          refine ⟨st9, _, rs ++ [(ra, rb)], _, _, rfl, fun b o nb eb => ?_, by rw [upd_ne ndl]; exact hd10, hg9, tK _ _ eT6, tK _ _ eC6, upd_same, (hP6.mono tK).app ?_, ?_, ?_, fun r hr => ?_⟩
          · rw [upd_ne (fun e => by rw [e, nHl] at eb; cases eb)]; exact kI _ _ nb eb
          · obtain ⟨t, e, h⟩ := hPr
            exact ⟨t, e, tK _ _ h⟩
          · refine List.nodup_append.mpr ⟨hN, (by simp), fun a ha b hb => ?_⟩
            rw [List.mem_singleton.mp hb]
            exact fun e => c (e ▸ ha)
          · rw [List.length_append, List.length_singleton]; omega
          · rcases List.mem_append.mp hr with hr | hr
            · exact hM r hr
            · rw [List.mem_singleton.mp hr]; exact ⟨ra0, ra1, rb0, rb1⟩
    rintro σ H' ⟨st7, xs, rs, v2, v7, rfl, kG, hd7, hg7, eT4, eC4, eL4, hP, hN, hlen, hM⟩
    have hl10 : rs.length ≤ 10 := by omega
    -- the answer
    refine ⟨_, rfl, _, rfl, by show 2 ≤ sizeLine; decide, fun l2 hl2 => ?_⟩
    have s2 : Same H' (upd H' l2 (.lst [.int 3, .int 10])) := same_upd hl2
    have n2 : l2 ≠ d := (ne_of_none hd7 hl2).symm
    refine ⟨_, rfl, d, 2, st7, rfl, s2 _ _ hd7, hg7, by decide, by decide, fun H5 st8 r8 k8 hd8 hg8 r80 r81 => ?_⟩
    have e2 : H5 l2 = some (.lst (([3, 10] : List Int).map V.int)) := k8 _ _ n2 upd_same
    obtain ⟨z2, hz2, a2⟩ := at_mem (L := [3, 10]) r80 (by simpa using r81)
    have hz3 : 1 ≤ z2 ∧ z2 ≤ 10 := by simp at hz2; omega
    refine ⟨l2, _, r8, _, rfl, rfl, SqL.of e2, a2, d, z2, st8, rfl, hd8, hg8, hz3.1, by omega, fun H6 st9 keys k9 hd9 hg9 ky0 ky1 => ?_⟩
    have k10 : Kp d H' H6 := (sKp s2).trans (k8.trans k9)
    have t10 := kp_tup k10 hd7
    have hP6 := hP.mono t10
    have eL6 := k10 _ _ ndl.symm eL4
    refine ⟨_, rfl, _, rfl, l, xs, kf H6, rfl, SqL.of eL6, fun x hx => hP6.mem x hx, fun ys p hs hst hp => ?_⟩
    refine ⟨p, ys, rfl, .inl ⟨SqL.of upd_same, fun aR haR => ?_⟩⟩
    have s3 := same_upd (o := .lst ys) hp
    have s4 := same_upd (o := .tup ys) haR
    refine ⟨by show 4 ≤ sizeLine; decide, fun a ha => ?_⟩
    have s5 := same_upd (o := .tup [V.ref aT, V.int keys, V.ref aC, V.ref aR]) ha
    have perm : ys.Perm xs := hst.perm
    have hPy : Prs H6 ys (ys.map (kf H6)) := Prs.of_mem fun y hy => hP6.mem y (perm.mem_iff.mp hy)
    have permR : (ys.map (kf H6)).Perm rs := by
      have := perm.map (kf H6)
      rw [hP6.kf] at this
      exact this
    have s6 := (s3.trans s4).trans s5
    refine k _ st9 a ts keys cs (ys.map (kf H6)) ((kG.trans k10).trans (sKp s6)) (s6 _ _ hd9) hg9 ⟨⟨aT, aC, aR, ys, upd_same, s6 _ _ (t10 _ _ eT4), s6 _ _ (t10 _ _ eC4), s5 _ _ upd_same, hPy.mono fun t zs h => s6 _ _ h⟩⟩ ?_ hlm
    refine ⟨hT, hl6.1, hl6.2, ky0, by omega, hCP, fun c hc => ⟨(hCM c hc).1, ?_⟩, ?_, fun r hr => hM r (permR.mem_iff.mp hr), by rw [permR.length_eq]; exact hl10⟩
    · have := (hCM c hc).2; omega
    · refine sorted_plt ?_ (permR.nodup_iff.mpr hN)
      rw [List.pairwise_map]
      exact hs
end
end Dk

set_option Elab.async false
set_option linter.all false
set_option maxRecDepth 100000
set_option maxHeartbeats 4000000
namespace Dk
open PySem PySem.Spec PyProof.Rows L2 TL
/-! ### the law -/
abbrev lamQ : Str := (envOfC (Str.ofString "law") (defScope sLaw) 0 0 .none).qual ++ Str.ofString "<lambda>"
def spLaw (K : PySem.W.Frag) (Pt : Addr) : Sp := fun vs H Q _ => ∃ (a : Addr) (ns : List Int), vs = [.ref a] ∧ SqL K H a (ns.map V.int) ∧ ns.length ≤ 63 ∧ LamX.Tabs [(Pt, lamQ)] H ∧ ∀ H', Q (.bl true) H'
abbrev nLaw : List Str := ["_law_script", "_law_d", "_law_step", "_law_first", "_law_second", "_law_kind", "_law_longer", "_law_houses", "_law_cycles", "_law_sizes", "_law_many", "_law_expected", "_law_tick_here", "_law_pair", "_law_late", "_law_table_here", "_law_parts_here", "_law_cycle_here"]
theorem scLaw : FnScope nLaw ["_law_script"] (defScope sLaw) := ⟨rfl, rfl, rfl, by decide +kernel, rfl, by decide +kernel, by decide +kernel⟩
def lawLoop : List Stmt := match (defBody sLaw)[1]? with
  | some (Stmt.For _ _ b _ _) => b
  | _ => []
structure Use (P : Program) (w : World) (K : PySem.W.Frag) (mg : Str → Option Value) (base : Heap) (CH CI CD fH fFd fE cL Pt CE : Addr) (fdH fdFd fdE : FuncData) (cs : Nat → Addr) (dvs : List V) (ds2 : List Value) (e1 e2 : Addr) : Prop where
  C : UseC P w K mg base CH
  tuple : mg "tuple" = none
  max : mg "max" = none
  min : mg "min" = none
  cRa : Cal P w K mg base 1 "_law_random" ["_law_script", "_law_salt"] (spRandom K)
  cPa : Cal P w K mg base 3 "_law_parts" ["_law_d", "_law_most"] spPartsN
  cHo : Cal P w K mg base 7 "_law_house" ["_law_parts_here"] (spHouseF K CH)
  cCy : Cal P w K mg base 4 "_law_cycle" ["_law_parts_here"] spCycle
  cCk : Cal P w K mg base 7 "_law_checks" ["_law_d", "_law_houses", "_law_cycles"] (spChecks K CH)
  GFd : FnOk P w K mg base (L2.CX P w) 12 fFd fdFd ["house", "other"] (spFirstD K CH CD)
  gFd : mg "first_difference" = some (.ref fFd)
  kFd : PySem.W.keepIn K (.ref fFd) = true
  bFd : Binds K fdFd ["house", "other"] []
  N : TxtN mg cs CE
  EK : ErK K cs CE [3]
  eCD : cs 3 = CD
  gE : mg "_law_error_of" = some (.ref fE)
  FE : Fun K "_law_error_of" "_law_error_of" sErrOf fE fdE
  bE : Binds K fdE ["_law_call"] []
  TB : LamX.TabB base mg cL Pt
  M : Mk K CH fH
  GH : FnOk P w K mg base (L2.CX P w) 5 fH fdH ["self", "tables", "keys", "careful", "reminders"] (spInit K CH CI)
  gH : mg "House" = some (.ref CH)
  bH2 : Binds K fdH ["self", "tables", "keys", "careful", "reminders"] ds2
  hd2 : Vals dvs ds2
  hdv : dvs = [.ref e1, .ref e2]
  he1 : SqT K (fun _ => none) e1 []
  he2 : SqT K (fun _ => none) e2 []
theorem sqT_any2 {K : PySem.W.Frag} {H : Hp} {a : Addr} {xs : List V} (h : SqT K (fun _ => none) a xs) : SqT K H a xs := by
  rcases h with (h | ⟨o, h⟩) | h
  · cases h
  · cases h
  · exact .inr h
abbrev late0 : Hd := hdOf [Str.ofString "hooh", Str.ofString "hhoo"] 1 [] []
abbrev late1 : Hd := hdOf [Str.ofString "hoohhh", Str.ofString "hhoohh"] 1 [] []
theorem late_tabs0 : Parts late0.ts late0.ks late0.cs late0.rs := by
  refine ⟨fun t ht => ?_, by decide, by decide, by decide, by decide, .nil, (fun c hc => by cases hc), .nil, (fun r hr => by cases hr), by decide⟩
  have ht : t ∈ [Str.ofString "hooh", Str.ofString "hhoo"] := ht
  simp only [List.mem_cons, List.not_mem_nil, or_false] at ht
  rcases ht with rfl | rfl <;> exact ⟨by decide +kernel, by decide +kernel⟩
theorem late_tabs1 : Parts late1.ts late1.ks late1.cs late1.rs := by
  refine ⟨fun t ht => ?_, by decide, by decide, by decide, by decide, .nil, (fun c hc => by cases hc), .nil, (fun r hr => by cases hr), by decide⟩
  have ht : t ∈ [Str.ofString "hoohhh", Str.ofString "hhoohh"] := ht
  simp only [List.mem_cons, List.not_mem_nil, or_false] at ht
  rcases ht with rfl | rfl <;> exact ⟨by decide +kernel, by decide +kernel⟩
section
variable {P : Program} {w : World} {K : PySem.W.Frag} {mg : Str → Option Value} {base : Heap} {CH CI CD fH fFd fE cL Pt CE : Addr} {fdH fdFd fdE : FuncData} {cs : Nat → Addr} {dvs : List V} {ds2 : List Value} {e1 e2 : Addr}
theorem late_a : waitAt late0 7 = [0] ∧ waitAt late1 7 = [] ∧ (∀ j, j < 7 → waitAt late0 j = waitAt late1 j) ∧ wrongAt late0 0 [some [], some [], some [], some [5]] = some 3 := by
  refine ⟨by decide +kernel, by decide +kernel, fun j hj => ?_, by decide +kernel⟩
  have : j = 0 ∨ j = 1 ∨ j = 2 ∨ j = 3 ∨ j = 4 ∨ j = 5 ∨ j = 6 := by omega
  rcases this with rfl | rfl | rfl | rfl | rfl | rfl | rfl <;> decide +kernel
theorem law_l {f : Addr} {A : Around} {outer : List Env} {s : Shared} {H0 : Hp} {E : XK} (hr : Room 14 (A.deeper (envOfC (Str.ofString "law") (defScope sLaw) s.heap.objs.size f (.ref cL)))) (U : Use P w K mg base CH CI CD fH fFd fE cL Pt CE fdH fdFd fdE cs dvs ds2 e1 e2) :
    ∃ tm, PSs (cxOf CX0 P w K mg base nLaw "law" (defScope sLaw) f (.ref cL) A outer s H0 E).nox ((defBody sLaw).drop 2) tm ∧ ∀ (D : Ends) (H : Hp) (v0 : Option V) (d : Addr) (r : List (Option V)) (st : List Int), r.length = 16 →
      H d = some (.lst (st.map V.int)) → Good st → (∀ H', D.rt (.bl true) H') → tm D (v0 :: some (.ref d) :: r) H := by
  have hr1 : Room 1 (A.deeper (envOfC (Str.ofString "law") (defScope sLaw) s.heap.objs.size f (.ref cL))) := hr.mono (by decide)
  have hr6 : Room 6 (A.deeper (envOfC (Str.ofString "law") (defScope sLaw) s.heap.objs.size f (.ref cL))) := hr.mono (by decide)
  have hr12 : Room 12 (A.deeper (envOfC (Str.ofString "law") (defScope sLaw) s.heap.objs.size f (.ref cL))) := hr.mono (by decide)
  have hu64 : (A.deeper (envOfC (Str.ofString "law") (defScope sLaw) s.heap.objs.size f (.ref cL))).units + 64 < cLine := by have := hr.un; omega
  have T := U.C.T
  refine ⟨_, by
    exact (pss_cons (ps_set (i := 14) scLaw.nd rfl (.inl rfl) (pe_lst (pa_cons (pe_make U.M U.GH hr6 rfl U.gH U.bH2 U.hd2 passL (pa_cons (pe_tup (pa_cons pe_str (pa_cons pe_str pa_nil))) (pa_cons pe_int pa_nil))) (pa_cons (pe_make U.M U.GH hr6 rfl U.gH U.bH2 U.hd2 passL (pa_cons (pe_tup (pa_cons pe_str (pa_cons pe_str pa_nil))) (pa_cons pe_int pa_nil))) pa_nil))))
      (pss_cons (ps_if (PW.pt (pw_or (pt_cmpR (op_neD hu64) (pe_call U.GFd hr12 rfl U.gFd U.kFd U.bFd .nil passL (pa_cons (pe_ix ix_list (pv 14) pe_int (fun _ _ => rfl)) (pa_cons (pe_ix ix_list (pv 14) pe_int (fun _ _ => rfl)) pa_nil))) (pe_tup (pa_cons pe_int (pa_cons (pe_tup (pa_cons pe_int pa_nil)) (pa_cons (pe_tup pa_nil) pa_nil)))) (nomark _)) (pw_or1 (pt_cmpR op_ne (pe_cal U.C.cFe hr6 (by rfl) (pa_cons (pe_ix ix_list (pv 14) pe_int (fun _ _ => rfl)) (pa_cons (pe_lst (pa_cons (pe_tup pa_nil) (pa_cons (pe_tup pa_nil) (pa_cons (pe_tup pa_nil) (pa_cons (pe_tup (pa_cons pe_int pa_nil)) pa_nil))))) pa_nil))) pe_int (nomark _))))) (pss_one (ps_ret pe_bl)) pss_nil)
      (pss_one (ps_ret (pe_cmpR op_eq (pe_cal U.C.cFe hr6 (by rfl) (pa_cons (pe_ix ix_list (pv 14) pe_int (fun _ _ => rfl)) (pa_cons (pe_ix ix_list (pe_lst (pa_cons (pe_tup pa_nil) (pa_cons pe_int pa_nil))) (pe_cal U.C.cB hr1 (by rfl) (pa_cons (pv 1) (pa_cons pe_int pa_nil))) (fun _ _ => rfl)) pa_nil))) pe_int (nomark _)))))), ?_⟩
  intro D H v0 d r st hrl hd hg k
  match r, hrl with
  | [v2, v3, v4, v5, v6, v7, v8, v9, v10, v11, v12, v13, v14, v15, v16, v17], _ =>
  have hdv := U.hdv
  subst hdv
  have z1 := U.he1
  have z2 := U.he2
  refine ⟨by show 2 ≤ sizeLine; decide, fun t1 ht1 => ?_⟩
  have s1 := same_upd (o := .tup [.str (Str.ofString "hooh"), .str (Str.ofString "hhoo")]) ht1
  refine init_ok (ts := late0.ts) (kk := 1) (cs := []) (rs := []) (xs := []) late_tabs0 (SqT.of upd_same) (sqT_any2 z1) (sqT_any2 z2) .nil fun H1 p1 u1 _ a1 => ?_
  have s1 := s1.trans u1
  have ho0 : HoAt K CH H1 p1 late0 := ⟨a1⟩
  clear a1 u1
  refine ⟨by show 2 ≤ sizeLine; decide, fun t2 ht2 => ?_⟩
  have s2 := same_upd (o := .tup [.str (Str.ofString "hoohhh"), .str (Str.ofString "hhoohh")]) ht2
  refine init_ok (ts := late1.ts) (kk := 1) (cs := []) (rs := []) (xs := []) late_tabs1 (SqT.of upd_same) (sqT_any2 z1) (sqT_any2 z2) .nil fun H2 p2 u2 _ a2 => ?_
  have s2 := s2.trans u2
  have ho0 := ho0.mono s2
  have ho1 : HoAt K CH H2 p2 late1 := ⟨a2⟩
  have s2 := s1.trans s2
  clear a2 u2 s1
  refine ⟨by show 2 ≤ sizeLine; decide, fun L hL => ?_⟩
  have s3 := same_upd (o := .lst [.ref p1, .ref p2]) hL
  have eL : (upd H2 L (.lst [.ref p1, .ref p2])) L = some (.lst [.ref p1, .ref p2]) := upd_same
  have ho0 := ho0.mono s3
  have ho1 := ho1.mono s3
  have s3 := s2.trans s3
  generalize upd H2 L (.lst [.ref p1, .ref p2]) = H3 at eL ho0 ho1 s3
  obtain ⟨f1, f2, f3, f4⟩ := late_a
  refine ⟨_, rfl, L, _, 0, _, rfl, rfl, SqL.of eL, at0, _, rfl, L, _, 1, _, rfl, rfl, SqL.of eL, at1, ?_⟩
  dsimp only [tNil]
  refine ⟨p1, p2, late0, late1, rfl, ho0, ho1, late_tabs0.tabs, late_tabs0.n6, late_tabs1.tabs, late_tabs1.n6, fun z => absurd rfl z, fun _ => ⟨fun H4 a u1 u2 t s4 hal hne ea eu1 eu2 => ?_, fun H4 s4 hall => ?_⟩⟩
  · have ht : t = 7 := by
      have h1 : ¬ t < 7 := fun z => hne (f3 t z)
      have h2 : ¬ 7 < t := fun z => by
        have := hal 7 z
        rw [f1, f2] at this; cases this
      omega
    subst ht
    rw [f1] at eu1
    rw [f2] at eu2
    have ho0 := ho0.mono s4
    have eL4 := s4 _ _ eL
    refine ⟨by show 1 ≤ sizeLine; decide, fun b1 hb1 => ?_⟩
    have t1 := same_upd (o := .tup [.int 0]) hb1
    have w1 : (upd H4 b1 (.tup [.int 0])) b1 = some (.tup [.int 0]) := upd_same
    generalize upd H4 b1 (.tup [.int 0]) = H5 at t1 w1
    refine ⟨by show 0 ≤ sizeLine; decide, fun b2 hb2 => ?_⟩
    have t2 := same_upd (o := .tup []) hb2
    have w2 : (upd H5 b2 (.tup [])) b2 = some (.tup []) := upd_same
    have w1 := t2 _ _ w1
    have t2 := t1.trans t2
    generalize upd H5 b2 (.tup []) = H6 at t2 w1 w2
    refine ⟨by show 3 ≤ sizeLine; decide, fun b3 hb3 => ?_⟩
    have t3 := same_upd (o := .tup [.int 7, .ref b1, .ref b2]) hb3
    have w3 : (upd H6 b3 (.tup [.int 7, .ref b1, .ref b2])) b3 = some (.tup [.int 7, .ref b1, .ref b2]) := upd_same
    have w1 := t3 _ _ w1
    have w2 := t3 _ _ w2
    have t3 := t2.trans t3
    generalize upd H6 b3 (.tup [.int 7, .ref b1, .ref b2]) = H7 at t3 w1 w2 w3
    refine ⟨.tuple [.int 7, .tuple [.int 0], .tuple []], .tuple [.int 7, .tuple [.int 0], .tuple []], .tup (SqT.of (t3 _ _ ea)) (.cons (.int _) (.cons (.tup (SqT.of (t3 _ _ eu1)) (.cons (.int 0) .nil)) (.cons (.tup (SqT.of (t3 _ _ eu2)) .nil) .nil))), .tup (SqT.of w3) (.cons (.int _) (.cons (.tup (SqT.of w1) (.cons (.int 0) .nil)) (.cons (.tup (SqT.of w2) .nil) .nil))), rfl, rfl, _, rfl, iteF ?_⟩
    have ho0 := ho0.mono t3
    have eL7 := t3 _ _ eL4
    have s07 := (s3.trans s4).trans t3
    clear ho1 t1 t2 t3 w1 w2 w3 ea eu1 eu2 eL eL4
    refine ⟨_, rfl, L, _, 0, _, rfl, rfl, SqL.of eL7, at0, ?_⟩
    refine ⟨by show 0 ≤ sizeLine; decide, fun c1 hc1 => ?_⟩
    have r1 := same_upd (o := .tup []) hc1
    have x1 : (upd H7 c1 (.tup [])) c1 = some (.tup []) := upd_same
    generalize upd H7 c1 (.tup []) = G1 at r1 x1
    refine ⟨by show 0 ≤ sizeLine; decide, fun c2 hc2 => ?_⟩
    have r2 := same_upd (o := .tup []) hc2
    have x2 : (upd G1 c2 (.tup [])) c2 = some (.tup []) := upd_same
    have x1 := r2 _ _ x1
    have r2 := r1.trans r2
    generalize upd G1 c2 (.tup []) = G2 at r2 x1 x2
    refine ⟨by show 0 ≤ sizeLine; decide, fun c3 hc3 => ?_⟩
    have r3 := same_upd (o := .tup []) hc3
    have x3 : (upd G2 c3 (.tup [])) c3 = some (.tup []) := upd_same
    have x1 := r3 _ _ x1
    have x2 := r3 _ _ x2
    have r3 := r2.trans r3
    generalize upd G2 c3 (.tup []) = G3 at r3 x1 x2 x3
    refine ⟨by show 1 ≤ sizeLine; decide, fun c4 hc4 => ?_⟩
    have r4 := same_upd (o := .tup [.int 5]) hc4
    have x4 : (upd G3 c4 (.tup [.int 5])) c4 = some (.tup [.int 5]) := upd_same
    have x1 := r4 _ _ x1
    have x2 := r4 _ _ x2
    have x3 := r4 _ _ x3
    have r4 := r3.trans r4
    generalize upd G3 c4 (.tup [.int 5]) = G4 at r4 x1 x2 x3 x4
    refine ⟨by show 4 ≤ sizeLine; decide, fun c5 hc5 => ?_⟩
    have r5 := same_upd (o := .lst [.ref c1, .ref c2, .ref c3, .ref c4]) hc5
    have x5 : (upd G4 c5 (.lst [.ref c1, .ref c2, .ref c3, .ref c4])) c5 = some (.lst [.ref c1, .ref c2, .ref c3, .ref c4]) := upd_same
    have x1 := r5 _ _ x1
    have x2 := r5 _ _ x2
    have x3 := r5 _ _ x3
    have x4 := r5 _ _ x4
    have r5 := r4.trans r5
    generalize upd G4 c5 (.lst [.ref c1, .ref c2, .ref c3, .ref c4]) = G5 at r5 x1 x2 x3 x4 x5
    refine ⟨p1, .ref c5, late0, rfl, ho0.mono r5, late_tabs0.tabs, late_tabs0.n6, .inr ⟨c5, _, [some [], some [], some [], some [5]], rfl, x5, (by show 4 ≤ 100000; decide), .cons ⟨c1, rfl, SqT.of x1, by decide⟩ (.cons ⟨c2, rfl, SqT.of x2, by decide⟩ (.cons ⟨c3, rfl, SqT.of x3, by decide⟩ (.cons ⟨c4, rfl, SqT.of x4, by decide⟩ .nil))), fun G6 r6 => ?_⟩⟩
    rw [f4]
    refine ⟨rfl, _, rfl, iteF ?_⟩
    -- the last
    have s56 := r5.trans r6
    have eL8 := s56 _ _ eL7
    have hd8 := s56 _ _ (s07 _ _ hd)
    refine ⟨_, rfl, L, _, 0, _, rfl, rfl, SqL.of eL8, at0, by show 0 ≤ sizeLine; decide, fun y1 hy1 => ?_⟩
    have q1 := same_upd (o := .tup []) hy1
    have z1 : (upd G6 y1 (.tup [])) y1 = some (.tup []) := upd_same
    generalize upd G6 y1 (.tup []) = G7 at q1 z1
    refine ⟨by show 2 ≤ sizeLine; decide, fun y2 hy2 => ?_⟩
    have q2 := same_upd (o := .lst [.ref y1, .int 5]) hy2
    have z2 : (upd G7 y2 (.lst [.ref y1, .int 5])) y2 = some (.lst [.ref y1, .int 5]) := upd_same
    have z1 := q2 _ _ z1
    have ny2 : y2 ≠ d := (ne_of_none (q1 _ _ hd8) hy2).symm
    have q2 := q1.trans q2
    generalize upd G7 y2 (.lst [.ref y1, .int 5]) = G8 at q2 z1 z2
    refine ⟨_, rfl, d, 2, st, rfl, q2 _ _ hd8, hg, by decide, by decide, fun G9 st9 rr k9 hd9 hg9 r0 r1 => ?_⟩
    have z1 := kp_tup k9 (q2 _ _ hd8) _ _ z1
    have z2 := k9 _ _ ny2 z2
    have ho9 := ((ho0.mono s56).mono q2).kpl k9 (q2 _ _ hd8)
    obtain ⟨j, rfl⟩ := Int.eq_ofNat_of_zero_le r0
    have hj : j = 0 ∨ j = 1 := by omega
    rcases hj with rfl | rfl
    · refine ⟨y2, _, _, .ref y1, rfl, rfl, SqL.of z2, at0, p1, .ref y1, late0, rfl, ho9, late_tabs0.tabs, late_tabs0.n6, .inl ⟨.tuple [], .tup (SqT.of z1) .nil, (fun ds z => by cases z), fun G10 _ => ⟨rfl, k _⟩⟩⟩
    · refine ⟨y2, _, _, .int 5, rfl, rfl, SqL.of z2, at1, p1, .int 5, late0, rfl, ho9, late_tabs0.tabs, late_tabs0.n6, .inl ⟨.int 5, .int 5, (fun ds z => by cases z), fun G10 _ => ⟨rfl, k _⟩⟩⟩
  · have := hall 7
    rw [f1, f2] at this; cases this
end
end Dk

set_option Elab.async false
set_option linter.all false
set_option maxRecDepth 100000
set_option maxHeartbeats 4000000
namespace Dk
open PySem PySem.Spec PyProof.Rows L2 TL
abbrev Nxt (D : Ends) (Pt d : Addr) (v0 : Option V) : Prop := ∀ (H' : Hp) (st' : List Int) (r : List (Option V)), r.length = 16 → H' d = some (.lst (st'.map V.int)) → Good st' → LamX.Tabs [(Pt, lamQ)] H' → D.nx (v0 :: some (.ref d) :: r) H'
/-- the first difference, below N -/
def FirstD (h g : Hd) (N : Nat) (H : Hp) (v : V) : Prop := (v = .non ∧ ∀ t, t < N → waitAt h t = waitAt g t) ∨ ∃ a u1 u2 t, v = .ref a ∧ t < N ∧ waitAt h t ≠ waitAt g t ∧ (∀ j, j < t → waitAt h j = waitAt g j) ∧ H a = some (.tup [.int (t : Int), .ref u1, .ref u2]) ∧ H u1 = some (.tup ((waitAt h t).map V.int)) ∧ H u2 = some (.tup ((waitAt g t).map V.int))
theorem FirstD.mono {h g : Hd} {N : Nat} {H H' : Hp} {v : V} (x : FirstD h g N H v) (s : Same H H') : FirstD h g N H' v := by
  rcases x with x | ⟨a, u1, u2, t, e, h1, h2, h3, h4, h5, h6⟩
  · exact .inl x
  · exact .inr ⟨a, u1, u2, t, e, h1, h2, h3, s _ _ h4, s _ _ h5, s _ _ h6⟩
theorem wd_dp {K : PySem.W.Frag} {H : Hp} {a u1 u2 : Addr} {t : Nat} {x y : List Int} (h1 : H a = some (.tup [.int (t : Int), .ref u1, .ref u2])) (h2 : H u1 = some (.tup (x.map V.int))) (h3 : H u2 = some (.tup (y.map V.int))) : Dp K H (.ref a) (.tuple [.int (t : Int), .tuple (dI x), .tuple (dI y)]) :=
  .tup (SqT.of h1) (.cons (.int _) (.cons (.tup (SqT.of h2) (dpAll_dI _)) (.cons (.tup (SqT.of h3) (dpAll_dI _)) .nil)))
section
variable {P : Program} {w : World} {K : PySem.W.Frag} {mg : Str → Option Value} {base : Heap} {CH CI CD fH fFd fE cL Pt CE : Addr} {fdH fdFd fdE : FuncData} {cs : Nat → Addr} {dvs : List V} {ds2 : List Value} {e1 e2 : Addr}
theorem law_d {f : Addr} {A : Around} {outer : List Env} {s : Shared} {H0 : Hp} {E : XK} (hr : Room 14 (A.deeper (envOfC (Str.ofString "law") (defScope sLaw) s.heap.objs.size f (.ref cL)))) (U : Use P w K mg base CH CI CD fH fFd fE cL Pt CE fdH fdFd fdE cs dvs ds2 e1 e2) :
    ∃ tm, PSs (cxOf CX0 P w K mg base nLaw "law" (defScope sLaw) f (.ref cL) A outer s H0 E).nox (lawLoop.drop 13) tm ∧ ∀ (D : Ends) (H : Hp) (v0 v2 v3 v4 v5 v6 v9 v10 v12 v13 v14 v15 v16 v17 : Option V) (v11 c0 c1 : V) (d hl cl h0 h1 : Addr) (st : List Int) (k0 k1 : Int) (g0 g1 : Hd) (b0 n0 b1 n1 N : Nat),
      H d = some (.lst (st.map V.int)) → Good st → LamX.Tabs [(Pt, lamQ)] H → H hl = some (.lst [.ref h0, .ref h1]) → H cl = some (.lst [c0, c1]) → hl ≠ d → cl ≠ d →
      HoAt K CH H h0 g0 → HoAt K CH H h1 g1 → CyAt d H c0 k0 g0 b0 n0 → CyAt d H c1 k1 g1 b1 n1 → Tabs g0.ts → Tabs g1.ts → g0.ts.length ≤ 3 → g1.ts.length ≤ 3 → g0.ts.length = g1.ts.length → ((∀ t, t < N → waitAt g0 t = waitAt g1 t) → ∀ t, waitAt g0 t = waitAt g1 t) → FirstD g0 g1 N H v11 → Nxt D Pt d v0 →
      tm D [v0, some (.ref d), v2, v3, v4, v5, v6, some (.ref hl), some (.ref cl), v9, v10, some v11, v12, v13, v14, v15, v16, v17] H := by
  have hr5 : Room 5 (A.deeper (envOfC (Str.ofString "law") (defScope sLaw) s.heap.objs.size f (.ref cL))) := hr.mono (by decide)
  have hr7 : Room 7 (A.deeper (envOfC (Str.ofString "law") (defScope sLaw) s.heap.objs.size f (.ref cL))) := hr.mono (by decide)
  have hr12 : Room 12 (A.deeper (envOfC (Str.ofString "law") (defScope sLaw) s.heap.objs.size f (.ref cL))) := hr.mono (by decide)
  have T := U.C.T
  refine ⟨_, by
    exact (pss_cons (ps_if (pt_not (pt_val (pe_cal U.C.cEq hr5 (by rfl) (pa_cons (pe_call U.GFd hr12 rfl U.gFd U.kFd U.bFd .nil passL (pa_cons (pe_ix ix_list (pv 7) pe_int (fun _ _ => rfl)) (pa_cons (pe_ix ix_list (pv 7) pe_int (fun _ _ => rfl)) pa_nil))) (pa_cons (pv 11) pa_nil))))) (pss_one (ps_ret pe_bl)) pss_nil)
      (pss_one (ps_if (pt_not (pt_val (pe_cal U.cCk hr7 (by rfl) (pa_cons (pv 1) (pa_cons (pv 7) (pa_cons (pv 8) pa_nil)))))) (pss_one (ps_ret pe_bl)) pss_nil))), ?_⟩
  intro D H v0 v2 v3 v4 v5 v6 v9 v10 v12 v13 v14 v15 v16 v17 v11 c0 c1 d hl cl h0 h1 st k0 k1 g0 g1 b0 n0 b1 n1 N hd hg hTb ehl ecl nhl ncl ho0 ho1 hc0 hc1 hT0 hT1 l0 l1 hll hN hf k
  have fin : ∀ (H' : Hp) (st' : List Int) (c : V), Same H H' → ∃ b, c = c := fun _ _ _ _ => ⟨0, rfl⟩
  clear fin
  refine ⟨_, rfl, hl, _, 0, _, rfl, rfl, SqL.of ehl, at0, _, rfl, hl, _, 1, _, rfl, rfl, SqL.of ehl, at1, ?_⟩
  dsimp only [tNil]
  refine ⟨h0, h1, g0, g1, rfl, ho0, ho1, hT0, by omega, hT1, by omega, fun z => absurd hll z, fun _ => ⟨fun H1 a u1 u2 t s1 hal hne ea eu1 eu2 => ?_, fun H1 s1 hall => ?_⟩⟩
  · rcases hf with ⟨rfl, hno⟩ | ⟨a', u1', u2', t', rfl, htN, hne', hal', ea', eu1', eu2'⟩
    · exact absurd (hN hno t) hne
    · have ht : t' = t := by
        have x1 : ¬ t' < t := fun z => hne' (hal t' z)
        have x2 : ¬ t < t' := fun z => hne (hal' t z)
        omega
      subst ht
      refine ⟨_, rfl, .ref a, .ref a', _, rfl, wd_dp ea eu1 eu2, wd_dp (s1 _ _ ea') (s1 _ _ eu1') (s1 _ _ eu2'), ⟨by show 3 ≤ 1000000; decide, fun y hy => ?_⟩, fun H2 s2 => ⟨_, rfl, iteF ?_⟩⟩
      · simp only [List.mem_cons, List.not_mem_nil, or_false] at hy
        rcases hy with rfl | rfl | rfl
        · trivial
        · exact (flatM_dI 1 (by unfold dI; rw [List.length_map]; exact Nat.le_trans (wlen3 g0 _ (by omega)) (by decide)) ⟨_, rfl⟩).2
        · exact (flatM_dI 1 (by unfold dI; rw [List.length_map]; exact Nat.le_trans (wlen3 g1 _ (by omega)) (by decide)) ⟨_, rfl⟩).2
      have s12 := s1.trans s2
      refine ⟨_, rfl, _, rfl, _, rfl, d, hl, cl, h0, h1, c0, c1, st, k0, k1, g0, g1, b0, n0, b1, n1, rfl, s12 _ _ hd, hg, s12 _ _ ehl, s12 _ _ ecl, ho0.mono s12, ho1.mono s12, hc0.mono s12, hc1.mono s12, hT0, hT1, l0, l1, nhl, ncl, fun H3 st3 k3 hd3 hg3 => ⟨_, rfl, iteF (k H3 st3 _ (by rfl) hd3 hg3 (tabs_kp (hTb.ext s12) k3 (s12 _ _ hd)))⟩⟩
  · rcases hf with ⟨rfl, hno⟩ | ⟨a', u1', u2', t', rfl, htN, hne', hal', ea', eu1', eu2'⟩
    · refine ⟨_, rfl, .non, .non, .none, rfl, .non, .non, trivial, fun H2 s2 => ⟨_, rfl, iteF ?_⟩⟩
      have s12 := s1.trans s2
      refine ⟨_, rfl, _, rfl, _, rfl, d, hl, cl, h0, h1, c0, c1, st, k0, k1, g0, g1, b0, n0, b1, n1, rfl, s12 _ _ hd, hg, s12 _ _ ehl, s12 _ _ ecl, ho0.mono s12, ho1.mono s12, hc0.mono s12, hc1.mono s12, hT0, hT1, l0, l1, nhl, ncl, fun H3 st3 k3 hd3 hg3 => ⟨_, rfl, iteF (k H3 st3 _ (by rfl) hd3 hg3 (tabs_kp (hTb.ext s12) k3 (s12 _ _ hd)))⟩⟩
    · exact absurd (hall t') hne'
end
end Dk

set_option Elab.async false
set_option linter.all false
set_option maxRecDepth 100000
set_option maxHeartbeats 4000000
namespace Dk
open PySem PySem.Spec PyProof.Rows L2 TL
/-- the first difference from lo on -/
def FirstF (h g : Hd) (lo N : Nat) (H : Hp) (v : V) : Prop := (v = .non ∧ ∀ t, lo ≤ t → t < N → waitAt h t = waitAt g t) ∨ ∃ a u1 u2 t, v = .ref a ∧ lo ≤ t ∧ t < N ∧ waitAt h t ≠ waitAt g t ∧ (∀ j, lo ≤ j → j < t → waitAt h j = waitAt g j) ∧ H a = some (.tup [.int (t : Int), .ref u1, .ref u2]) ∧ H u1 = some (.tup ((waitAt h t).map V.int)) ∧ H u2 = some (.tup ((waitAt g t).map V.int))
theorem FirstF.mono {h g : Hd} {lo N : Nat} {H H' : Hp} {v : V} (x : FirstF h g lo N H v) (s : Same H H') : FirstF h g lo N H' v := by
  rcases x with x | ⟨a, u1, u2, t, e, h1, h2, h3, h4, h5, h6, h7⟩
  · exact .inl x
  · exact .inr ⟨a, u1, u2, t, e, h1, h2, h3, h4, s _ _ h5, s _ _ h6, s _ _ h7⟩
theorem FirstF.zero {h g : Hd} {N : Nat} {H : Hp} {v : V} (x : FirstF h g 0 N H v) : FirstD h g N H v := by
  rcases x with ⟨e, x⟩ | ⟨a, u1, u2, t, e, h1, h2, h3, h4, h5, h6, h7⟩
  · exact .inl ⟨e, fun t ht => x t (Nat.zero_le _) ht⟩
  · exact .inr ⟨a, u1, u2, t, e, h2, h3, fun j hj => h4 j (Nat.zero_le _) hj, h5, h6, h7⟩
theorem FirstF.keep {h g : Hd} {lo N : Nat} {H : Hp} {v : V} (x : FirstF h g (lo + 1) N H v) (e : waitAt h lo = waitAt g lo) : FirstF h g lo N H v := by
  have f : ∀ j, lo ≤ j → j = lo ∨ lo + 1 ≤ j := fun j h => by omega
  rcases x with ⟨e1, x⟩ | ⟨a, u1, u2, t, e1, h1, h2, h3, h4, h5, h6, h7⟩
  · refine .inl ⟨e1, fun t h1 h2 => ?_⟩
    rcases f t h1 with z | z
    · rw [z]; exact e
    · exact x t z h2
  · refine .inr ⟨a, u1, u2, t, e1, by omega, h2, h3, fun j h1 h2 => ?_, h5, h6, h7⟩
    rcases f j h1 with z | z
    · rw [z]; exact e
    · exact h4 j z h2
theorem two_at {Res : Nat → V → Prop} {ys : List V} (h : Paired (fun k y => Res k y) ((List.range 2).filter fun _ => true) ys) : ∃ y0 y1, ys = [y0, y1] ∧ Res 0 y0 ∧ Res 1 y1 := by
  have h : Paired (fun k y => Res k y) [0, 1] ys := h
  match ys, h with
  | _, .cons h0 (.cons h1 .nil) => exact ⟨_, _, rfl, h0, h1⟩
section
variable {P : Program} {w : World} {K : PySem.W.Frag} {mg : Str → Option Value} {base : Heap} {CH CI CD fH fFd fE cL Pt CE : Addr} {fdH fdFd fdE : FuncData} {cs : Nat → Addr} {dvs : List V} {ds2 : List Value} {e1 e2 : Addr}
theorem law_e {f : Addr} {A : Around} {outer : List Env} {s : Shared} {H0 : Hp} {E : XK} (hr : Room 14 (A.deeper (envOfC (Str.ofString "law") (defScope sLaw) s.heap.objs.size f (.ref cL)))) (U : Use P w K mg base CH CI CD fH fFd fE cL Pt CE fdH fdFd fdE cs dvs ds2 e1 e2) :
    ∃ tm, PSs (cxOf CX0 P w K mg base nLaw "law" (defScope sLaw) f (.ref cL) A outer s H0 E).nox (lawLoop.drop 11) tm ∧ ∀ (D : Ends) (H : Hp) (v0 v2 v3 v4 v5 v6 v9 v11 v12 v13 v14 v15 v16 v17 : Option V) (c0 c1 : V) (d hl cl h0 h1 : Addr) (st : List Int) (k0 k1 : Int) (g0 g1 : Hd) (b0 n0 b1 n1 many : Nat),
      H d = some (.lst (st.map V.int)) → Good st → LamX.Tabs [(Pt, lamQ)] H → H hl = some (.lst [.ref h0, .ref h1]) → H cl = some (.lst [c0, c1]) → hl ≠ d → cl ≠ d →
      HoAt K CH H h0 g0 → HoAt K CH H h1 g1 → CyAt d H c0 k0 g0 b0 n0 → CyAt d H c1 k1 g1 b1 n1 → Tabs g0.ts → Tabs g1.ts → g0.ts.length ≤ 3 → g1.ts.length ≤ 3 → g0.ts.length = g1.ts.length → ((∀ t, t < min many 5000 → waitAt g0 t = waitAt g1 t) → ∀ t, waitAt g0 t = waitAt g1 t) → 1 ≤ many → Nxt D Pt d v0 →
      tm D [v0, some (.ref d), v2, v3, v4, v5, v6, some (.ref hl), some (.ref cl), v9, some (.int (many : Int)), v11, v12, v13, v14, v15, v16, v17] H := by
  have hr1 : Room 1 (A.deeper (envOfC (Str.ofString "law") (defScope sLaw) s.heap.objs.size f (.ref cL))) := hr.mono (by decide)
  have hu64 : (A.deeper (envOfC (Str.ofString "law") (defScope sLaw) s.heap.objs.size f (.ref cL))).units + 64 < cLine := by have := hr.un; omega
  have T := U.C.T
  obtain ⟨tmD, pD, hD⟩ := law_d (P := P) (w := w) (K := K) (mg := mg) (base := base) (CH := CH) (CI := CI) (f := f) (A := A) (outer := outer) (s := s) (H0 := H0) (E := E) hr U
  refine ⟨_, by
    exact (pss_cons (ps_set (i := 11) scLaw.nd rfl (.inl rfl) pe_non)
      (pss_cons (ps_for PassesOwn.never rfl (pi_range3 (by rfl) T.range (pa_cons (pe_op op_sub (pe_callB (call_min2 rfl) (by rfl) U.min (by decide +kernel) (pa_cons (pv 10) (pa_cons pe_int pa_nil))) pe_int) (pa_cons (pe_op op_sub pe_int pe_int) (pa_cons (pe_op op_sub pe_int pe_int) pa_nil)))) (pg_name (i := 12) scLaw.nd rfl (.inr rfl))
      (pss_cons (ps_setLc (own := [("_law_cycle_here", 17)]) (i := 13) (g := gName 17) (by rfl) scLaw.nd rfl rfl (sw_true rfl rfl (by rfl) (by rfl)) (pi_list (pv 8)) (blkOk_by (N := nLaw) (sc := defScope sLaw) (by decide +kernel)) (fun _ _ _ _ _ => (pg_name (i := 17) scLaw.nd rfl (Or.inl rfl))) (fun _ _ _ _ _ => by exact pts_nil) (fun _ _ _ _ _ => by exact (pe_cal U.C.cAt hr1 (by rfl) (pa_cons (pv 17) (pa_cons (pv 12) pa_nil)))))
      (pss_one (ps_if (pt_cmpR (op_neD hu64) (pe_ix ix_list (pv 13) pe_int (fun _ _ => rfl)) (pe_ix ix_list (pv 13) pe_int (fun _ _ => rfl)) (nomark _)) (pss_one (ps_set (i := 11) scLaw.nd rfl (.inl rfl) (pe_tup (pa_cons (pv 12) (pa_cons (pe_ix ix_list (pv 13) pe_int (fun _ _ => rfl)) (pa_cons (pe_ix ix_list (pv 13) pe_int (fun _ _ => rfl)) pa_nil)))))) pss_nil)))) pD)), ?_⟩
  intro D H v0 v2 v3 v4 v5 v6 v9 v11 v12 v13 v14 v15 v16 v17 c0 c1 d hl cl h0 h1 st k0 k1 g0 g1 b0 n0 b1 n1 many hd hg hTb ehl ecl nhl ncl ho0 ho1 hc0 hc1 hT0 hT1 l0 l1 hll hN hm1 k
  generalize hNN : min many 5000 = N at *
  have emin : (if (5000 : Int) < (many : Int) then (5000 : Int) else (many : Int)) = (N : Int) := by split <;> omega
  refine ⟨_, rfl, _, _, rfl, _, _, rfl, rfl, _, _, rfl, rfl, _, _, rfl, rfl, (N : Int) - 1, -1, -1, N, ?_, ?_, for_rangeC (lo := (N : Int) - 1) (c := -1) (n := N)
    (fun i σ H' => ∃ (w12 w13 w15 w16 w17 : Option V) (v : V), σ = [v0, some (.ref d), v2, v3, v4, v5, v6, some (.ref hl), some (.ref cl), v9, some (.int (many : Int)), some v, w12, w13, v14, w15, w16, w17] ∧ Same H H' ∧ FirstF g0 g1 (N - i) N H' v)
    ⟨_, _, _, _, _, .non, rfl, Same.refl H, .inl ⟨rfl, fun t h1 h2 => absurd h2 (by omega)⟩⟩ ?_ ?_⟩
  · show [V.int ((if (5000 : Int) < (many : Int) then (5000 : Int) else (many : Int)) - 1), V.int (0 - 1), V.int (0 - 1)] = _
    rw [emin]; rfl
  · have := RgC.neg (i := (N : Int) - 1) (j := -1) (by omega) (by omega) (by decide) (by decide)
    rw [show ((N : Int) - 1 - -1).toNat = N by omega] at this
    exact this
  · rintro i σ H1 hi ⟨w12, w13, w15, w16, w17, v, rfl, s1, hf⟩
    have et : (N : Int) - 1 + (i : Nat) * (-1) = ((N - 1 - i : Nat) : Int) := by omega
    rw [et]
    generalize ht : N - 1 - i = t
    have hlo : N - i = t + 1 := by omega
    have hlo' : N - (i + 1) = t := by omega
    rw [hlo] at hf
    refine ⟨_, rfl, cl, rfl, ⟨_, SqL.of (s1 _ _ ecl)⟩, fun D2 hD2 => comp_listL (i := 17) (xs := [c0, c1]) hD2 (SqL.of (s1 _ _ ecl)) (by show 2 ≤ 1000000; decide) (fun _ => true) (fun H k v => ∃ a, v = .ref a ∧ a ≠ D2 ∧ H a = some (.tup ((waitAt (if k = 0 then g0 else g1) t).map V.int))) (fun H H' k v kk ⟨a, e, n, z⟩ => ⟨a, e, n, kk _ _ n z⟩) (fun k x H5 Qb _ _ _ q => q _ (Same.refl _)) (fun k x H5 Q5 hx _ s5 hz q => ?_) (fun _ => rfl) fun H5 ys s5 eD pr => ?_⟩
    · obtain ⟨zs, hz⟩ := hz
      have nD : ∀ a, H5 a = none → a ≠ D2 := fun a z y => by rw [y, hz] at z; cases z
      match k, hx with
      | 0, hx =>
        have hx : c0 = x := Option.some.inj hx
        subst hx
        exact ⟨_, rfl, _, rfl, c0, t, d, k0, g0, b0, n0, rfl, (hc0.mono s1).mono s5, hT0, fun H' a s' ha ea => q H' _ s' ⟨a, rfl, nD a ha, ea⟩⟩
      | 1, hx =>
        have hx : c1 = x := Option.some.inj hx
        subst hx
        exact ⟨_, rfl, _, rfl, c1, t, d, k1, g1, b1, n1, rfl, (hc1.mono s1).mono s5, hT1, fun H' a s' ha ea => q H' _ s' ⟨a, rfl, nD a ha, ea⟩⟩
      | k + 2, hx => cases hx
    obtain ⟨y0, y1, rfl, ⟨a0, rfl, _, ea0⟩, ⟨a1, rfl, _, ea1⟩⟩ := two_at pr
    have ea0 : H5 a0 = some (.tup ((waitAt g0 t).map V.int)) := ea0
    have ea1 : H5 a1 = some (.tup ((waitAt g1 t).map V.int)) := ea1
    refine ⟨_, rfl, D2, _, 0, _, rfl, rfl, SqL.of eD, at0, _, rfl, D2, _, 1, _, rfl, rfl, SqL.of eD, at1, ?_⟩
    refine ⟨.tuple (dI (waitAt g0 t)), .tuple (dI (waitAt g1 t)), .tup (SqT.of ea0) (dpAll_dI _), .tup (SqT.of ea1) (dpAll_dI _), dI_shapedT _, dI_shapedT _, _, rfl, ?_⟩
    rw [dI_eqvT]
    have s15 := s1.trans s5
    by_cases ce : waitAt g0 t = waitAt g1 t
    · rw [decide_eq_true ce]
      exact iteF ⟨_, _, _, _, _, v, rfl, s15, by rw [hlo']; exact (hf.mono s5).keep ce⟩
    · rw [decide_eq_false ce]
      refine iteT ⟨_, rfl, _, rfl, D2, _, 0, _, rfl, rfl, SqL.of eD, at0, _, rfl, D2, _, 1, _, rfl, rfl, SqL.of eD, at1, by show 3 ≤ sizeLine; decide, fun u hu => ?_⟩
      have s6 := same_upd (o := .tup [.int (t : Int), .ref a0, .ref a1]) hu
      exact ⟨_, _, _, _, _, .ref u, rfl, s15.trans s6, .inr ⟨u, a0, a1, t, rfl, by omega, by omega, ce, fun j h1 h2 => by omega, upd_same, s6 _ _ ea0, s6 _ _ ea1⟩⟩
  · rintro σ H1 ⟨w12, w13, w15, w16, w17, v, rfl, s1, hf⟩
    rw [Nat.sub_self] at hf
    exact hD D H1 v0 v2 v3 v4 v5 v6 v9 _ w12 w13 v14 w15 w16 w17 v c0 c1 d hl cl h0 h1 st k0 k1 g0 g1 b0 n0 b1 n1 N (s1 _ _ hd) hg (hTb.ext s1) (s1 _ _ ehl) (s1 _ _ ecl) nhl ncl (ho0.mono s1) (ho1.mono s1) (hc0.mono s1) (hc1.mono s1) hT0 hT1 l0 l1 hll hN hf.zero k
end
end Dk

set_option Elab.async false
set_option linter.all false
set_option maxRecDepth 100000
set_option maxHeartbeats 4000000
namespace Dk
open PySem PySem.Spec PyProof.Rows L2 TL
/-- apart from both -/
theorem CyAt.kp2 {d D : Addr} {H H' : Hp} {v : V} {kk : Int} {h : Hd} {b n : Nat} (x : CyAt D H v kk h b n) (y : CyAt d H v kk h b n) (nv : v ≠ .ref D) (k : Kp D H H') : CyAt D H' v kk h b n ∧ CyAt d H' v kk h b n := by
  obtain ⟨cy, sl, xs, rfl, a1, a2, a3, a4, a5⟩ := x
  obtain ⟨cy', sl', xs', e', b1, b2, b3, b4, b5⟩ := y
  cases e'
  have ncy : cy ≠ D := fun z => nv (by rw [z])
  rw [a1] at b1
  cases b1
  rw [a2] at b2
  cases b2
  refine ⟨⟨cy, sl, xs, rfl, k _ _ ncy a1, k _ _ a3 a2, a3, a4.kp k, a5⟩, ⟨cy, sl, xs, rfl, k _ _ ncy a1, k _ _ a3 a2, b3, ⟨b4.1, fun t ht => ?_⟩, a5⟩⟩
  obtain ⟨sc, qI, qO, qC, e, ⟨c1, c2, c3, c4⟩, n1, n2, n3, n4⟩ := a4.2 t ht
  obtain ⟨sc', qI', qO', qC', e', ⟨c1', c2', c3', c4'⟩, m1, m2, m3, m4⟩ := b4.2 t ht
  rw [e] at e'
  cases e'
  rw [c1] at c1'
  cases c1'
  exact ⟨sc, qI, qO, qC, e, ⟨k _ _ n1 c1, k _ _ n2 c2, k _ _ n3 c3, k _ _ n4 c4⟩, m1, m2, m3, m4⟩
theorem cyAt_of {Hb H' : Hp} {r sl el d : Addr} {ts : List Str} {kk : Int} {cs : List Int} {rs : List Pr} {xs st : List V} {b n : Nat} (cy : IsCyc (hdOf ts kk cs rs) b n) (er : H' r = some (.tup [.ref sl, .int (b : Int)])) (nsl : Hb sl = none) (esl : H' sl = some (.lst xs)) (hss : ScSs Hb sl el H' (hdOf ts kk cs rs) xs n) (hd : Hb d = some (.lst st)) : CyAt d H' (.ref r) kk (hdOf ts kk cs rs) b n :=
  ⟨r, sl, xs, rfl, er, esl, (fun z => by rw [z, hd] at nsl; cases nsl), scD_of hss hd, cy⟩
section
variable {P : Program} {w : World} {K : PySem.W.Frag} {mg : Str → Option Value} {base : Heap} {CH CI CD fH fFd fE cL Pt CE : Addr} {fdH fdFd fdE : FuncData} {cs : Nat → Addr} {dvs : List V} {ds2 : List Value} {e1 e2 : Addr}
theorem law_f {f : Addr} {A : Around} {outer : List Env} {s : Shared} {H0 : Hp} {E : XK} (hr : Room 14 (A.deeper (envOfC (Str.ofString "law") (defScope sLaw) s.heap.objs.size f (.ref cL)))) (U : Use P w K mg base CH CI CD fH fFd fE cL Pt CE fdH fdFd fdE cs dvs ds2 e1 e2) :
    ∃ tm, PSs (cxOf CX0 P w K mg base nLaw "law" (defScope sLaw) f (.ref cL) A outer s H0 E).nox (lawLoop.drop 8) tm ∧ ∀ (D : Ends) (H : Hp) (v0 v2 v5 v6 v8 v9 v10 v11 v12 v13 v14 v15 v16 v17 : Option V) (d hl h0 h1 pa pb : Addr) (st : List Int) (ts : List Str) (kk : Int) (cs' : List Int) (rs : List Pr) (ts2 : List Str) (kk2 : Int) (cs2 : List Int) (rs2 : List Pr),
      H d = some (.lst (st.map V.int)) → Good st → LamX.Tabs [(Pt, lamQ)] H → H hl = some (.lst [.ref h0, .ref h1]) → hl ≠ d →
      HoAt K CH H h0 (hdOf ts kk cs' rs) → HoAt K CH H h1 (hdOf ts2 kk2 cs2 rs2) → PartsAt H pa ts kk cs' rs → Parts ts kk cs' rs → PartsAt H pb ts2 kk2 cs2 rs2 → Parts ts2 kk2 cs2 rs2 → ts.length ≤ 3 → ts2.length ≤ 3 → ts.length = ts2.length → Nxt D Pt d v0 →
      tm D [v0, some (.ref d), v2, some (.ref pa), some (.ref pb), v5, v6, some (.ref hl), v8, v9, v10, v11, v12, v13, v14, v15, v16, v17] H := by
  have hr4 : Room 4 (A.deeper (envOfC (Str.ofString "law") (defScope sLaw) s.heap.objs.size f (.ref cL))) := hr.mono (by decide)
  have T := U.C.T
  obtain ⟨tmE, pE, hE⟩ := law_e (P := P) (w := w) (K := K) (mg := mg) (base := base) (CH := CH) (CI := CI) (f := f) (A := A) (outer := outer) (s := s) (H0 := H0) (E := E) hr U
  refine ⟨_, by
    exact (pss_cons (ps_setLc (own := [("_law_parts_here", 16)]) (i := 8) (g := gName 16) (by rfl) scLaw.nd rfl rfl (sw_true rfl rfl (by rfl) (by rfl)) (pi_list (pe_lst (pa_cons (pv 3) (pa_cons (pv 4) pa_nil)))) (blkOk_by (N := nLaw) (sc := defScope sLaw) (by decide +kernel)) (fun _ _ _ _ _ => (pg_name (i := 16) scLaw.nd rfl (Or.inl rfl))) (fun _ _ _ _ _ => by exact pts_nil) (fun _ _ _ _ _ => by exact (pe_cal U.cCy hr4 (by rfl) (pa_cons (pv 16) pa_nil))))
      (pss_cons (ps_setLc (own := [("_law_cycle_here", 17)]) (i := 9) (g := gName 17) (by rfl) scLaw.nd rfl rfl (sw_true rfl rfl (by rfl) (by rfl)) (pi_list (pv 8)) (blkOk_by (N := nLaw) (sc := defScope sLaw) (by decide +kernel)) (fun _ _ _ _ _ => (pg_name (i := 17) scLaw.nd rfl (Or.inl rfl))) (fun _ _ _ _ _ => by exact pts_nil) (fun _ _ _ _ _ => by exact (pe_op op_sub (pe_callB (call_len_seqK (K := K) rfl) (by rfl) T.len PySem.boot_len (pa_cons (pe_ix (ix_tupK (K := K) rfl) (pv 17) pe_int (fun _ _ => rfl)) pa_nil)) (pe_ix (ix_tupK (K := K) rfl) (pv 17) pe_int (fun _ _ => rfl)))))
      (pss_cons (ps_set (i := 10) scLaw.nd rfl (.inl rfl) (pe_op op_add (pe_callB (call_max2 rfl) (by rfl) U.max (by decide +kernel) (pa_cons (pe_ix ix_tup (pe_ix ix_list (pv 8) pe_int (fun _ _ => rfl)) pe_int (fun _ _ => rfl)) (pa_cons (pe_ix ix_tup (pe_ix ix_list (pv 8) pe_int (fun _ _ => rfl)) pe_int (fun _ _ => rfl)) pa_nil))) (pe_op op_mul (pe_ix ix_list (pv 9) pe_int (fun _ _ => rfl)) (pe_ix ix_list (pv 9) pe_int (fun _ _ => rfl))))) pE))), ?_⟩
  intro D H v0 v2 v5 v6 v8 v9 v10 v11 v12 v13 v14 v15 v16 v17 d hl h0 h1 pa pb st ts kk cs' rs ts2 kk2 cs2 rs2 hd hg hTb ehl nhl ho0 ho1 hA hP hA2 hP2 l0 l1 hll k
  refine ⟨_, rfl, _, rfl, by show 2 ≤ sizeLine; decide, fun q0 hq0 => ?_⟩
  have s1 := same_upd (o := .lst [.ref pa, .ref pb]) hq0
  have eq0 : (upd H q0 (.lst [.ref pa, .ref pb])) q0 = some (.lst [.ref pa, .ref pb]) := upd_same
  generalize upd H q0 (.lst [.ref pa, .ref pb]) = H1 at s1 eq0
  have hd1 := s1 _ _ hd
  refine ⟨q0, rfl, ⟨_, SqL.of eq0⟩, fun D2 hD2 => comp_listL (i := 16) (xs := [.ref pa, .ref pb]) hD2 (SqL.of eq0) (by show 2 ≤ 1000000; decide) (fun _ => true)
    (fun H' k v => ∃ b n, CyAt D2 H' v (if k = 0 then kk else kk2) (if k = 0 then hdOf ts kk cs' rs else hdOf ts2 kk2 cs2 rs2) b n ∧ CyAt d H' v (if k = 0 then kk else kk2) (if k = 0 then hdOf ts kk cs' rs else hdOf ts2 kk2 cs2 rs2) b n ∧ v ≠ .ref D2)
    (fun H H' k v kp ⟨b, n, x, y, nv⟩ => ⟨b, n, (x.kp2 y nv kp).1, (x.kp2 y nv kp).2, nv⟩) (fun k x H5 Qb _ _ _ q => q _ (Same.refl _)) (fun k x H5 Q5 hx _ s5 hz q => ?_) (fun _ => rfl) fun H5 ys s5 eD pr => ?_⟩
  · obtain ⟨zs, hz⟩ := hz
    have go : ∀ (p : Addr) (ts : List Str) (kk : Int) (cs' : List Int) (rs : List Pr), x = .ref p → PartsAt H p ts kk cs' rs → Parts ts kk cs' rs → (∀ H3 y, Same H5 H3 → (∃ b n, CyAt D2 H3 y kk (hdOf ts kk cs' rs) b n ∧ CyAt d H3 y kk (hdOf ts kk cs' rs) b n ∧ y ≠ .ref D2) → Q5 y H3) → spCycle [x] H5 Q5 E0 := fun p ts kk cs' rs e hA hP q => by
      subst e
      refine ⟨p, ts, kk, cs', rs, rfl, hA.mono fun t zs z => s5 _ _ (s1 _ _ z), hP, fun H' r sl el xs b n s' cy er nsl esl hss => q H' _ s' ⟨b, n, cyAt_of cy er nsl esl hss hz, cyAt_of cy er nsl esl hss (s5 _ _ hd1), fun z => ?_⟩⟩
      cases z
      rw [s' _ _ hz] at er; cases er
    match k, hx with
    | 0, hx => exact ⟨_, rfl, go pa ts kk cs' rs (Option.some.inj hx).symm hA hP q⟩
    | 1, hx => exact ⟨_, rfl, go pb ts2 kk2 cs2 rs2 (Option.some.inj hx).symm hA2 hP2 q⟩
    | k + 2, hx => cases hx
  obtain ⟨c0, c1, rfl, ⟨b0, n0, _, hc0, _⟩, ⟨b1, n1, _, hc1, _⟩⟩ := two_at pr
  have hc0 : CyAt d H5 c0 kk (hdOf ts kk cs' rs) b0 n0 := hc0
  have hc1 : CyAt d H5 c1 kk2 (hdOf ts2 kk2 cs2 rs2) b1 n1 := hc1
  have s05 := s1.trans s5
  have nD2 : D2 ≠ d := (ne_of_none hd1 hD2).symm
  clear hD2 pr
  -- the sizes
  refine ⟨_, rfl, D2, rfl, ⟨_, SqL.of eD⟩, fun D3 hD3 => comp_listL (i := 17) (xs := [c0, c1]) hD3 (SqL.of eD) (by show 2 ≤ 1000000; decide) (fun _ => true) (fun H k v => v = .int (if k = 0 then (n0 : Int) - (b0 : Int) else (n1 : Int) - (b1 : Int))) (fun _ _ _ _ _ r => r) (fun k x H6 Qb _ _ _ q => q _ (Same.refl _)) (fun k x H6 Q6 hx _ s6 hz q => ?_) (fun _ => rfl) fun H6 ys s6 eD3 pr => ?_⟩
  · match k, hx with
    | 0, hx =>
      have hx : c0 = x := Option.some.inj hx
      subst hx
      obtain ⟨cy, sl, xs, rfl, a1, a2, a3, a4, a5⟩ := hc0.mono s6
      refine ⟨_, rfl, cy, _, 0, _, rfl, rfl, SqT.of a1, at0, sl, xs, rfl, .inl (SqL.of a2), _, rfl, cy, _, 1, _, rfl, rfl, SqT.of a1, at1, _, _, rfl, rfl, ?_⟩
      rw [a4.1]
      exact q H6 _ (Same.refl _) rfl
    | 1, hx =>
      have hx : c1 = x := Option.some.inj hx
      subst hx
      obtain ⟨cy, sl, xs, rfl, a1, a2, a3, a4, a5⟩ := hc1.mono s6
      refine ⟨_, rfl, cy, _, 0, _, rfl, rfl, SqT.of a1, at0, sl, xs, rfl, .inl (SqL.of a2), _, rfl, cy, _, 1, _, rfl, rfl, SqT.of a1, at1, _, _, rfl, rfl, ?_⟩
      rw [a4.1]
      exact q H6 _ (Same.refl _) rfl
    | k + 2, hx => cases hx
  obtain ⟨y0, y1, rfl, hy0, hy1⟩ := two_at pr
  have hy0 : y0 = .int ((n0 : Int) - (b0 : Int)) := hy0
  have hy1 : y1 = .int ((n1 : Int) - (b1 : Int)) := hy1
  subst hy0 hy1
  have s06 := s05.trans s6
  have eD6 := s6 _ _ eD
  have hc0 := hc0.mono s6
  have hc1 := hc1.mono s6
  obtain ⟨cy0, sl0, xs0, e0, a1, a2, a3, a4, cyc0⟩ := id hc0
  obtain ⟨cy1, sl1, xs1, e1', a1', a2', a3', a4', cyc1⟩ := id hc1
  subst e0 e1'
  have lt0 := cyc0.lt
  have lt1 := cyc1.lt
  have le0 := cyc0.le
  have le1 := cyc1.le
  refine ⟨_, rfl, D2, _, 0, _, rfl, rfl, SqL.of eD6, at0, cy0, _, 1, _, rfl, rfl, SqT.of a1, at1, _, rfl, D2, _, 1, _, rfl, rfl, SqL.of eD6, at1, cy1, _, 1, _, rfl, rfl, SqT.of a1', at1, ?_⟩
  refine ⟨_, _, rfl, _, rfl, D3, _, 0, _, rfl, rfl, SqL.of eD3, at0, _, rfl, D3, _, 1, _, rfl, rfl, SqL.of eD3, at1, _, _, rfl, rfl, .inl ⟨by omega, by omega⟩, _, _, rfl, rfl, ?_⟩
  have em : (if (b1 : Int) > (b0 : Int) then (b1 : Int) else (b0 : Int)) + ((n0 : Int) - (b0 : Int)) * ((n1 : Int) - (b1 : Int)) = ((max b0 b1 + (n0 - b0) * (n1 - b1) : Nat) : Int) := by
    rw [show (n0 : Int) - (b0 : Int) = ((n0 - b0 : Nat) : Int) by omega, show (n1 : Int) - (b1 : Int) = ((n1 - b1 : Nat) : Int) by omega, Int.natCast_add, Int.natCast_mul]
    congr 1
    split <;> omega
  have hT0 := hP.tabs
  have hT1 := hP2.tabs
  have hlc : Nat.lcm (n0 - b0) (n1 - b1) ≤ (n0 - b0) * (n1 - b1) := Nat.div_le_self _ _
  have hpos : 1 ≤ (n0 - b0) * (n1 - b1) := Nat.mul_pos (by omega) (by omega)
  have hres := hE D H6 v0 v2 (some (.ref pa)) (some (.ref pb)) v5 v6 (some (.ref D3)) v11 v12 v13 v14 v15 v16 v17 (.ref cy0) (.ref cy1) d hl D2 h0 h1 st kk kk2 (hdOf ts kk cs' rs) (hdOf ts2 kk2 cs2 rs2) b0 n0 b1 n1 (max b0 b1 + (n0 - b0) * (n1 - b1)) (s06 _ _ hd) hg (hTb.ext s06) (s06 _ _ ehl) eD6 nhl nD2 (ho0.mono s06) (ho1.mono s06) hc0 hc1 hT0 hT1 l0 l1 hll (fun al => ?_) (by omega) k
  · rw [← em] at hres
    exact hres
  · by_cases c : 5000 ≤ max b0 b1 + (n0 - b0) * (n1 - b1)
    · exact wait_alike hT0 hT1 l0 l1 cyc0 cyc1 fun t ht => al t (by omega)
    · exact agree_lcm (B := max b0 b1) (p := n0 - b0) (q := n1 - b1) (by omega) (by omega) (fun t ht => wait_rounds hT0 cyc0 t (by omega)) (fun t ht => wait_rounds hT1 cyc1 t (by omega)) hlc fun t ht => al t (by omega)
end
end Dk

set_option Elab.async false
set_option linter.all false
set_option maxRecDepth 100000
set_option maxHeartbeats 4000000
namespace Dk
open PySem PySem.Spec PyProof.Rows L2 TL
abbrev Cnt (D : Ends) (Pt d : Addr) (v0 : Option V) : Prop := ∀ (H' : Hp) (st' : List Int) (r : List (Option V)), r.length = 16 → H' d = some (.lst (st'.map V.int)) → Good st' → LamX.Tabs [(Pt, lamQ)] H' → D.ct (v0 :: some (.ref d) :: r) H'
theorem ext_sqt {K : PySem.W.Frag} {H H' : Hp} {a : Addr} {xs : List V} (e : LamX.ExtN H H') (h : SqT K H a xs) : SqT K H' a xs := by
  rcases h with h | h
  · rcases h with h | ⟨o, h⟩
    · exact .inl (.inl (e _ _ h (fun ps z => by cases z)))
    · exact .inl (.inr ⟨o, e _ _ h fun ps z => by cases z⟩)
  · exact .inr h
theorem ext_ho {K : PySem.W.Frag} {CH : Addr} {H H' : Hp} {hp : Addr} {h : Hd} (e : LamX.ExtN H H') (x : HoAt K CH H hp h) : HoAt K CH H' hp h := by
  obtain ⟨⟨d, bT, bC, bR, xs, g1, g2, g3, g4, g5⟩⟩ := x
  exact ⟨⟨d, bT, bC, bR, xs, e _ _ g1 (fun ps z => by cases z), ext_sqt e g2, ext_sqt e g3, ext_sqt e g4, g5.mono fun t zs z => e _ _ z (fun ps z => by cases z)⟩⟩
section
variable {P : Program} {w : World} {K : PySem.W.Frag} {mg : Str → Option Value} {base : Heap} {CH CI CD fH fFd fE cL Pt CE : Addr} {fdH fdFd fdE : FuncData} {cs : Nat → Addr} {dvs : List V} {ds2 : List Value} {e1 e2 : Addr}
theorem law_g {f : Addr} {A : Around} {outer : List Env} {s : Shared} {H0 : Hp} {E : XK} (hr : Room 14 (A.deeper (envOfC (Str.ofString "law") (defScope sLaw) s.heap.objs.size f (.ref cL)))) (U : Use P w K mg base CH CI CD fH fFd fE cL Pt CE fdH fdFd fdE cs dvs ds2 e1 e2) :
    ∃ tm, PSs (cxOf CX0 P w K mg base nLaw "law" (defScope sLaw) f (.ref cL) A outer s H0 E).nox (lawLoop.drop 6) tm ∧ ∀ (D : Ends) (H : Hp) (v0 v2 v5 v6 v7 v8 v9 v10 v11 v12 v13 v14 v15 v16 v17 : Option V) (d pa pb : Addr) (st : List Int) (ts : List Str) (kk : Int) (cs' : List Int) (rs : List Pr) (ts2 : List Str) (kk2 : Int) (cs2 : List Int) (rs2 : List Pr),
      H d = some (.lst (st.map V.int)) → Good st → LamX.Tabs [(Pt, lamQ)] H → PartsAt H pa ts kk cs' rs → Parts ts kk cs' rs → PartsAt H pb ts2 kk2 cs2 rs2 → Parts ts2 kk2 cs2 rs2 → ts.length ≤ 3 → ts2.length ≤ 3 → Nxt D Pt d v0 → Cnt D Pt d v0 →
      tm D [v0, some (.ref d), v2, some (.ref pa), some (.ref pb), v5, v6, v7, v8, v9, v10, v11, v12, v13, v14, v15, v16, v17] H := by
  have hr7 : Room 7 (A.deeper (envOfC (Str.ofString "law") (defScope sLaw) s.heap.objs.size f (.ref cL))) := hr.mono (by decide)
  have hu64 : (A.deeper (envOfC (Str.ofString "law") (defScope sLaw) s.heap.objs.size f (.ref cL))).units + 64 < cLine := by have := hr.un; omega
  have T := U.C.T
  have hmT : (Pt, lamQ) ∈ [(Pt, lamQ)] := List.mem_singleton.mpr rfl
  have hu : ∀ p ∈ [(Pt, lamQ)], p.1 = Pt → p.2 = lamQ := fun p hp _ => by rw [List.mem_singleton.mp hp]
  obtain ⟨tmF, pF, hF⟩ := law_f (P := P) (w := w) (K := K) (mg := mg) (base := base) (CH := CH) (CI := CI) (f := f) (A := A) (outer := outer) (s := s) (H0 := H0) (E := E) hr U
  refine ⟨_, by
    exact (pss_cons (ps_set (i := 7) scLaw.nd rfl (.inr rfl) (pe_lst (pa_cons (pe_cal U.cHo hr7 (by rfl) (pa_cons (pv 3) pa_nil)) (pa_cons (pe_cal U.cHo hr7 (by rfl) (pa_cons (pv 4) pa_nil)) pa_nil))))
      (pss_cons (ps_if (pt_cmpR op_ne (pe_callB call_len_seq (by rfl) T.len PySem.boot_len (pa_cons (pe_ix ix_tup (pv 3) pe_int (fun _ _ => rfl)) pa_nil)) (pe_callB call_len_seq (by rfl) T.len PySem.boot_len (pa_cons (pe_ix ix_tup (pv 4) pe_int (fun _ _ => rfl)) pa_nil)) (nomark _))
          (pss_cons (ps_if (pt_cmpR (op_neD hu64) (pe_errof (T := [(Pt, lamQ)]) (k := 12) (t := fun E => tCall (spFirstD K CH CD) [] E (tCons (tOp (rIxL K) (tVar 7) (tC (.int 0))) (tCons (tOp (rIxL K) (tVar 7) (tC (.int 1))) tNil))) U.N U.EK (by rfl) U.gE U.FE U.bE U.TB rfl hmT hu hr (LamX.lamS_by (sc := defScope sLaw) (by decide +kernel)) rfl (fun _ _ _ _ _ => rfl) (fun A outer s H E f c' hr' => by exact pe_call U.GFd hr' rfl U.gFd U.kFd U.bFd .nil (passes_call (takes_of rfl rfl rfl rfl) (fun _ _ _ _ h => h)) (pa_cons (pe_ix ix_list (pv 7) pe_int (fun _ _ => rfl)) (pa_cons (pe_ix ix_list (pv 7) pe_int (fun _ _ => rfl)) pa_nil)))) (pe_tup (pa_cons pe_str (pa_cons pe_int pa_nil))) (nomark _)) (pss_one (ps_ret pe_bl)) pss_nil)
          (pss_one ps_continue)) pss_nil) pF)), ?_⟩
  intro D H v0 v2 v5 v6 v7 v8 v9 v10 v11 v12 v13 v14 v15 v16 v17 d pa pb st ts kk cs' rs ts2 kk2 cs2 rs2 hd hg hTb hA hP hA2 hP2 l0 l1 k kc
  refine ⟨_, rfl, pa, ts, kk, cs', rs, rfl, hA, hP, fun H1 hp s1 hpn hHo => ?_⟩
  refine ⟨_, rfl, pb, ts2, kk2, cs2, rs2, rfl, hA2.mono fun t zs z => s1 _ _ z, hP2, fun H2 gp s2 gpn hGo => ?_⟩
  have ho0 : HoAt K CH H2 hp (hdOf ts kk cs' rs) := (⟨hHo⟩ : HoAt K CH H1 hp (hdOf ts kk cs' rs)).mono s2
  have ho1 : HoAt K CH H2 gp (hdOf ts2 kk2 cs2 rs2) := ⟨hGo⟩
  refine ⟨by show 2 ≤ sizeLine; decide, fun hl hhl => ?_⟩
  have s3 := same_upd (o := .lst [.ref hp, .ref gp]) hhl
  have ehl : (upd H2 hl (.lst [.ref hp, .ref gp])) hl = some (.lst [.ref hp, .ref gp]) := upd_same
  have nhl : hl ≠ d := (ne_of_none (s2 _ _ (s1 _ _ hd)) hhl).symm
  have ho0 := ho0.mono s3
  have ho1 := ho1.mono s3
  have s03 := (s1.trans s2).trans s3
  generalize upd H2 hl (.lst [.ref hp, .ref gp]) = H3 at ehl ho0 ho1 s03
  have hA3 := hA.mono fun t zs z => s03 _ _ z
  have hB3 := hA2.mono fun t zs z => s03 _ _ z
  have hd3 := s03 _ _ hd
  have hTb3 := hTb.ext s03
  obtain ⟨aT, aC, aR, xr, p1, p2, p3, p4, p5⟩ := id hA3
  obtain ⟨bT, bC, bR, xr2, q1, q2, q3, q4, q5⟩ := id hB3
  refine ⟨_, rfl, pa, _, 0, _, rfl, rfl, SqT.of p1, at0, aT, _, rfl, .inr (SqT.of p2), _, rfl, pb, _, 0, _, rfl, rfl, SqT.of q1, at0, bT, _, rfl, .inr (SqT.of q2), rfl, _, rfl, ?_⟩
  rw [List.length_map, List.length_map]
  by_cases hll : ts.length = ts2.length
  · rw [show (!decide (V.int ((ts.length : Nat) : Int) = V.int ((ts2.length : Nat) : Int))) = false by rw [hll]; simp]
    exact iteF (hF D H3 v0 v2 v5 v6 v8 v9 v10 v11 v12 v13 v14 v15 v16 v17 d hl hp gp pa pb st ts kk cs' rs ts2 kk2 cs2 rs2 hd3 hg hTb3 ehl nhl ho0 ho1 hA3 hP hB3 hP2 l0 l1 hll k)
  · rw [show (!decide (V.int ((ts.length : Nat) : Int) = V.int ((ts2.length : Nat) : Int))) = true by
      rw [decide_eq_false (fun z => hll (by injection z with z; omega))]; rfl]
    refine iteT ⟨hTb3, fun H4 x4 T4 => ?_⟩
    have ehl4 : H4 hl = some (.lst [.ref hp, .ref gp]) := ExtN_lst x4 ehl
    refine ⟨_, rfl, hl, _, 0, _, rfl, rfl, SqL.of ehl4, at0, _, rfl, hl, _, 1, _, rfl, rfl, SqL.of ehl4, at1, ?_⟩
    dsimp only [tNil]
    refine ⟨hp, gp, hdOf ts kk cs' rs, hdOf ts2 kk2 cs2 rs2, rfl, ext_ho x4 ho0, ext_ho x4 ho1, hP.tabs, hP.n6, hP2.tabs, hP2.n6, fun _ H5 s5 => ⟨3, by simp, by rw [U.eCD], .inl ⟨by decide, rfl, fun H6 p s6 ep => ?_⟩⟩, fun z => absurd z hll⟩
    have s56 := s5.trans s6
    refine ⟨by show 2 ≤ sizeLine; decide, fun u hu' => ?_⟩
    have s7 := same_upd (o := .tup [.str (Str.ofString "different"), .int 0]) hu'
    have ep : H6 p = some (.tup [.str (Str.ofString "different"), .int 0]) := ep
    refine ⟨.tuple [.str (Str.ofString "different"), .int 0], .tuple [.str (Str.ofString "different"), .int 0], .tup (SqT.of (s7 _ _ ep)) (.cons (.str _) (.cons (.int _) .nil)), .tup (SqT.of upd_same) (.cons (.str _) (.cons (.int _) .nil)), by decide +kernel, by decide +kernel, _, rfl, ?_⟩
    rw [show PyData.eqv (.tuple [.str (Str.ofString "different"), .int 0]) (.tuple [.str (Str.ofString "different"), .int 0]) = true by decide +kernel]
    have s47 := s56.trans s7
    exact iteF (kc _ st _ (by rfl) (s47 _ _ (ExtN_lst x4 hd3)) hg (tabs_same T4 s47))
end
end Dk

set_option Elab.async false
set_option linter.all false
set_option maxRecDepth 100000
set_option maxHeartbeats 1000000
namespace Dk
open PySem PySem.Spec PyProof.Rows L2 TL
/-! ### pieces of tuples -/
theorem cut_take {xs : List V} {n : Int} (h0 : 0 ≤ n) (h1 : n ≤ (xs.length : Int)) : cutV xs none (some n) = xs.take n.toNat := by
  obtain ⟨k, rfl⟩ := Int.eq_ofNat_of_zero_le h0
  unfold cutV
  rw [HT.sIx_none, HT.sIx_nat, List.drop_zero, Nat.sub_zero, Int.toNat_natCast, Nat.min_eq_left (by omega)]
theorem cut_drop {xs : List V} {n : Int} (h0 : 0 ≤ n) (h1 : n ≤ (xs.length : Int)) : cutV xs (some n) none = xs.drop n.toNat := by
  obtain ⟨k, rfl⟩ := Int.eq_ofNat_of_zero_le h0
  unfold cutV
  rw [HT.sIx_none, HT.sIx_nat, Int.toNat_natCast, Nat.min_eq_left (by omega)]
  exact List.take_of_length_le (by rw [List.length_drop]; omega)
theorem cut_whole {xs : List V} {lo hi : Option Int} (h : HT.sIx xs.length 0 lo = 0 ∧ HT.sIx xs.length xs.length hi = xs.length) : cutV xs lo hi = xs := by
  unfold cutV
  rw [h.1, h.2, List.drop_zero, Nat.sub_zero, List.take_length]
theorem sl_any {K : PySem.W.Frag} {H : Hp} {a : Addr} {xs : List V} {lo hi : Option Int} {Q : VK} (h : SqT K H a xs) (k : ∀ (H' : Hp) (p : Addr), Same H H' → SqT K H' p (cutV xs lo hi) → Q (.ref p) H') : rSlA K (.ref a) lo hi H Q :=
  ⟨a, xs, rfl, h, fun c => k H a (Same.refl H) (by rw [cut_whole c]; exact h), fun _ p hp => k _ p (same_upd hp) (SqT.of upd_same)⟩
theorem cat_any {K : PySem.W.Frag} {H : Hp} {a b : Addr} {xs ys : List V} {Q : VK} (ha : SqT K H a xs) (hb : SqT K H b ys) (hz : xs.length + ys.length ≤ 1000) (k : ∀ (H' : Hp) (p : Addr), Same H H' → SqT K H' p (xs ++ ys) → Q (.ref p) H') : rCatA K (.ref a) (.ref b) H Q :=
  ⟨a, b, xs, ys, rfl, rfl, ha, hb, Nat.le_trans hz (by decide), fun e => k H b (Same.refl H) (by rw [e, List.nil_append]; exact hb), fun _ e => k H a (Same.refl H) (by rw [e, List.append_nil]; exact ha), fun _ _ p hp => k _ p (same_upd hp) (SqT.of upd_same)⟩
end Dk

set_option Elab.async false
set_option linter.all false
set_option maxRecDepth 100000
set_option maxHeartbeats 4000000
namespace Dk
open PySem PySem.Spec PyProof.Rows L2 TL
/-! timetables written twice over -/
def dblT (t : Str) : Str := if (t.length : Int) < 3 then Txt.mul t 2 else t
theorem tl_mul2 (t : Str) : tl (Txt.mul t 2) = tl t ++ tl t := by
  obtain ⟨c⟩ := t
  unfold Txt.mul
  rw [if_neg (by decide)]
  split
  · rename_i h
    have h0 : c.size = 0 := by
      have := h
      simp only [Bool.or_eq_true, beq_iff_eq] at this
      rcases this with z | z
      · exact absurd z (by decide)
      · exact z
    have : c = #[] := Array.eq_empty_of_size_eq_zero h0
    subst this
    rfl
  · show (List.foldl (· ++ ·) #[] (List.replicate 2 c)).toList = c.toList ++ c.toList
    simp [List.replicate]
theorem dbl_tl {t : Str} : tl (dblT t) = (if (tl t).length < 3 then tl t ++ tl t else tl t) := by
  unfold dblT
  rw [len_tl t]
  by_cases c : (tl t).length < 3
  · rw [if_pos (by omega), if_pos c, tl_mul2]
  · rw [if_neg (by omega), if_neg c]
theorem dbl_tab {t : Str} (h : IsTab t) : IsTab (dblT t) := by
  have hl := h.len
  have hh := h.ho
  refine ⟨?_, fun c hc => ?_⟩
  · rw [dbl_tl]
    simp only [List.mem_cons, List.not_mem_nil, or_false] at hl ⊢
    split
    · rw [List.length_append]; omega
    · omega
  · rw [dbl_tl] at hc
    split at hc
    · rcases List.mem_append.mp hc with z | z <;> exact hh c z
    · exact hh c hc
theorem dbl_dvd {t : Str} : (tl t).length ∣ (tl (dblT t)).length := by
  rw [dbl_tl]
  split
  · rw [List.length_append]; exact ⟨2, by omega⟩
  · exact Nat.dvd_refl _
theorem dbl_per (ts : List Str) (hT : Tabs ts) : per ts ≤ per (ts.map dblT) := by
  have hT2 : Tabs (ts.map dblT) := fun t ht => by
    obtain ⟨x, hx, rfl⟩ := List.mem_map.mp ht
    exact dbl_tab (hT x hx)
  refine Nat.le_of_dvd (per_pos hT2) (per_min fun t ht => Nat.dvd_trans dbl_dvd (dvd_per (List.mem_map.mpr ⟨t, ht, rfl⟩)))
theorem dbl_parts {ts : List Str} {kk : Int} {cs : List Int} {rs : List Pr} (h : Parts ts kk cs rs) : Parts (ts.map dblT) kk cs rs := by
  refine ⟨fun t ht => ?_, by rw [List.length_map]; exact h.n1, by rw [List.length_map]; exact h.n6, h.k0, h.k9, h.cp, by rw [List.length_map]; exact h.cm, h.rp, fun r hr => ?_, h.r10⟩
  · obtain ⟨x, hx, rfl⟩ := List.mem_map.mp ht
    exact dbl_tab (h.tabs x hx)
  · have := h.rm r hr
    have hp := dbl_per ts h.tabs
    rw [List.length_map]
    exact ⟨this.1, by omega, this.2.2⟩
theorem mulok2 {t : Str} (h : IsTab t) : MulOk t 2 := by
  have hl := len_tl t
  have hp := h.pos
  have h24 : t.length ≤ 24 := by omega
  have hs : sizeLine ≥ 1000 := by decide
  refine ⟨by decide, fun _ _ => ?_, fun _ _ => ?_⟩
  · have : ((2 : Int) ^ 63 - 1) / 2 = 4611686018427387903 := by decide
    rw [this]; omega
  · unfold PySem.Builtin.Str.tooLong
    have : t.length * (2 : Int).toNat = t.length * 2 := rfl
    rw [this]
    simp; omega
section
variable {P : Program} {w : World} {K : PySem.W.Frag} {mg : Str → Option Value} {base : Heap} {CH CI CD fH fFd fE cL Pt CE : Addr} {fdH fdFd fdE : FuncData} {cs : Nat → Addr} {dvs : List V} {ds2 : List Value} {e1 e2 : Addr}
/-- other careful persons -/
theorem law_h {f : Addr} {A : Around} {outer : List Env} {s : Shared} {H0 : Hp} {E : XK} (hr : Room 14 (A.deeper (envOfC (Str.ofString "law") (defScope sLaw) s.heap.objs.size f (.ref cL)))) (U : Use P w K mg base CH CI CD fH fFd fE cL Pt CE fdH fdFd fdE cs dvs ds2 e1 e2) :
    ∃ tm, PSs (cxOf CX0 P w K mg base nLaw "law" (defScope sLaw) f (.ref cL) A outer s H0 E).nox (lawLoop.drop 5) tm ∧ ∀ (D : Ends) (H : Hp) (v0 v2 v6 v7 v8 v9 v10 v11 v12 v13 v14 v15 v16 v17 : Option V) (d pa pb : Addr) (kd : Int) (st : List Int) (ts : List Str) (kk : Int) (cs' : List Int) (rs : List Pr) (ts2 : List Str) (kk2 : Int) (cs2 : List Int) (rs2 : List Pr),
      H d = some (.lst (st.map V.int)) → Good st → LamX.Tabs [(Pt, lamQ)] H → PartsAt H pa ts kk cs' rs → Parts ts kk cs' rs → PartsAt H pb ts2 kk2 cs2 rs2 → Parts ts2 kk2 cs2 rs2 → ts.length ≤ 3 → ts2.length ≤ 3 → Nxt D Pt d v0 → Cnt D Pt d v0 →
      tm D [v0, some (.ref d), v2, some (.ref pa), some (.ref pb), some (.int kd), v6, v7, v8, v9, v10, v11, v12, v13, v14, v15, v16, v17] H := by
  have T := U.C.T
  obtain ⟨tmG, pG, hG⟩ := law_g (P := P) (w := w) (K := K) (mg := mg) (base := base) (CH := CH) (CI := CI) (f := f) (A := A) (outer := outer) (s := s) (H0 := H0) (E := E) hr U
  refine ⟨_, by
    exact (pss_cons (ps_if (pt_cmpR op_eq (pv 5) pe_int (nomark _)) (pss_one (ps_set (i := 4) scLaw.nd rfl (.inl rfl) (pe_tup (pa_cons (pe_ix ix_tup (pv 3) pe_int (fun _ _ => rfl)) (pa_cons (pe_ix ix_tup (pv 3) pe_int (fun _ _ => rfl)) (pa_cons (pe_ifExp (pt_cmpR op_eq (pe_callB call_len_seq (by rfl) T.len PySem.boot_len (pa_cons (pe_ix ix_tup (pv 4) pe_int (fun _ _ => rfl)) pa_nil)) (pe_callB call_len_seq (by rfl) T.len PySem.boot_len (pa_cons (pe_ix ix_tup (pv 3) pe_int (fun _ _ => rfl)) pa_nil)) (nomark _)) (pe_ix ix_tup (pv 4) pe_int (fun _ _ => rfl)) (pe_tup pa_nil)) (pa_cons (pe_ix ix_tup (pv 3) pe_int (fun _ _ => rfl)) pa_nil))))))) pss_nil) pG), ?_⟩
  intro D H v0 v2 v6 v7 v8 v9 v10 v11 v12 v13 v14 v15 v16 v17 d pa pb kd st ts kk cs' rs ts2 kk2 cs2 rs2 hd hg hTb hA hP hA2 hP2 l0 l1 k kc
  refine ⟨_, rfl, rfl, _, rfl, ite2 (fun c => ?_) (fun c => hG D H v0 v2 (some (.int kd)) v6 v7 v8 v9 v10 v11 v12 v13 v14 v15 v16 v17 d pa pb st ts kk cs' rs ts2 kk2 cs2 rs2 hd hg hTb hA hP hA2 hP2 l0 l1 k kc)⟩
  obtain ⟨aT, aC, aR, xr, p1, p2, p3, p4, p5⟩ := id hA
  obtain ⟨bT, bC, bR, xr2, q1, q2, q3, q4, q5⟩ := id hA2
  refine ⟨_, rfl, pa, _, 0, _, rfl, rfl, SqT.of p1, at0, _, rfl, pa, _, 1, _, rfl, rfl, SqT.of p1, at1, ?_⟩
  refine ⟨_, rfl, pb, _, 0, _, rfl, rfl, SqT.of q1, at0, bT, _, rfl, .inr (SqT.of q2), _, rfl, pa, _, 0, _, rfl, rfl, SqT.of p1, at0, aT, _, rfl, .inr (SqT.of p2), rfl, _, rfl, ?_⟩
  rw [List.length_map, List.length_map]
  have go : ∀ (H' : Hp) (u qC : Addr) (cs3 : List Int), Same H H' → H' u = some (.tup [.ref aT, .int kk, .ref qC, .ref aR]) → H' qC = some (.tup (cs3.map V.int)) → cs3.Pairwise (· < ·) → (∀ c ∈ cs3, (0 : Int) ≤ c ∧ c < (ts.length : Int)) → tmG D [v0, some (.ref d), v2, some (.ref pa), some (.ref u), some (.int kd), v6, v7, v8, v9, v10, v11, v12, v13, v14, v15, v16, v17] H' := fun H' u qC cs3 s' eu eq hp3 hm3 =>
    hG D H' v0 v2 (some (.int kd)) v6 v7 v8 v9 v10 v11 v12 v13 v14 v15 v16 v17 d pa u st ts kk cs' rs ts kk cs3 rs (s' _ _ hd) hg (hTb.ext s') (hA.mono fun t zs z => s' _ _ z) hP ⟨aT, qC, aR, xr, eu, s' _ _ p2, eq, s' _ _ p4, p5.mono fun t zs z => s' _ _ z⟩ ⟨hP.tabs, hP.n1, hP.n6, hP.k0, hP.k9, hp3, hm3, hP.rp, hP.rm, hP.r10⟩ l0 l0 k kc
  refine ite2 (fun c2 => ?_) (fun c2 => ?_)
  · have c2 : V.int ((ts2.length : Nat) : Int) = V.int ((ts.length : Nat) : Int) := of_decide_eq_true c2
    injection c2 with c2
    refine ⟨_, rfl, pb, _, 2, _, rfl, rfl, SqT.of q1, at2, _, rfl, pa, _, 3, _, rfl, rfl, SqT.of p1, atI_nat (j := 3) rfl, by show 4 ≤ sizeLine; decide, fun u hu => ?_⟩
    have s1 := same_upd (o := .tup [.ref aT, .int kk, .ref bC, .ref aR]) hu
    exact go _ u bC cs2 s1 upd_same (s1 _ _ q3) hP2.cp fun c hc => by have := hP2.cm c hc; omega
  · refine ⟨by show 0 ≤ sizeLine; decide, fun qC hqC => ?_⟩
    have s1 := same_upd (o := .tup []) hqC
    have eC : (upd H qC (.tup [])) qC = some (.tup (([] : List Int).map V.int)) := upd_same
    refine ⟨_, rfl, pa, _, 3, _, rfl, rfl, SqT.of (s1 _ _ p1), atI_nat (j := 3) rfl, by show 4 ≤ sizeLine; decide, fun u hu => ?_⟩
    have s2 := same_upd (o := .tup [.ref aT, .int kk, .ref qC, .ref aR]) hu
    exact go _ u qC [] (s1.trans s2) upd_same (s2 _ _ eC) .nil (fun c hc => by cases hc)
/-- other keys -/
theorem law_i {f : Addr} {A : Around} {outer : List Env} {s : Shared} {H0 : Hp} {E : XK} (hr : Room 14 (A.deeper (envOfC (Str.ofString "law") (defScope sLaw) s.heap.objs.size f (.ref cL)))) (U : Use P w K mg base CH CI CD fH fFd fE cL Pt CE fdH fdFd fdE cs dvs ds2 e1 e2) :
    ∃ tm, PSs (cxOf CX0 P w K mg base nLaw "law" (defScope sLaw) f (.ref cL) A outer s H0 E).nox (lawLoop.drop 4) tm ∧ ∀ (D : Ends) (H : Hp) (v0 v2 v6 v7 v8 v9 v10 v11 v12 v13 v14 v15 v16 v17 : Option V) (d pa pb : Addr) (kd : Int) (st : List Int) (ts : List Str) (kk : Int) (cs' : List Int) (rs : List Pr) (ts2 : List Str) (kk2 : Int) (cs2 : List Int) (rs2 : List Pr),
      H d = some (.lst (st.map V.int)) → Good st → LamX.Tabs [(Pt, lamQ)] H → PartsAt H pa ts kk cs' rs → Parts ts kk cs' rs → PartsAt H pb ts2 kk2 cs2 rs2 → Parts ts2 kk2 cs2 rs2 → ts.length ≤ 3 → ts2.length ≤ 3 → Nxt D Pt d v0 → Cnt D Pt d v0 →
      tm D [v0, some (.ref d), v2, some (.ref pa), some (.ref pb), some (.int kd), v6, v7, v8, v9, v10, v11, v12, v13, v14, v15, v16, v17] H := by
  have hr1 : Room 1 (A.deeper (envOfC (Str.ofString "law") (defScope sLaw) s.heap.objs.size f (.ref cL))) := hr.mono (by decide)
  obtain ⟨tmG, pG, hG⟩ := law_h (P := P) (w := w) (K := K) (mg := mg) (base := base) (CH := CH) (CI := CI) (f := f) (A := A) (outer := outer) (s := s) (H0 := H0) (E := E) hr U
  refine ⟨_, by
    exact (pss_cons (ps_if (pt_cmpR op_eq (pv 5) pe_int (nomark _)) (pss_one (ps_set (i := 4) scLaw.nd rfl (.inl rfl) (pe_tup (pa_cons (pe_ix ix_tup (pv 3) pe_int (fun _ _ => rfl)) (pa_cons (pe_cal U.C.cB hr1 (by rfl) (pa_cons (pv 1) (pa_cons pe_int pa_nil))) (pa_cons (pe_ix ix_tup (pv 3) pe_int (fun _ _ => rfl)) (pa_cons (pe_ix ix_tup (pv 3) pe_int (fun _ _ => rfl)) pa_nil))))))) pss_nil) pG), ?_⟩
  intro D H v0 v2 v6 v7 v8 v9 v10 v11 v12 v13 v14 v15 v16 v17 d pa pb kd st ts kk cs' rs ts2 kk2 cs2 rs2 hd hg hTb hA hP hA2 hP2 l0 l1 k kc
  refine ⟨_, rfl, rfl, _, rfl, ite2 (fun c => ?_) (fun c => hG D H v0 v2 v6 v7 v8 v9 v10 v11 v12 v13 v14 v15 v16 v17 d pa pb kd st ts kk cs' rs ts2 kk2 cs2 rs2 hd hg hTb hA hP hA2 hP2 l0 l1 k kc)⟩
  obtain ⟨aT, aC, aR, xr, p1, p2, p3, p4, p5⟩ := id hA
  refine ⟨_, rfl, pa, _, 0, _, rfl, rfl, SqT.of p1, at0, _, rfl, d, 4, st, rfl, hd, hg, by decide, by decide, fun H1 st1 r k1 hd1 hg1 r0 r1 => ?_⟩
  have kt := kp_tup k1 hd
  refine ⟨_, rfl, pa, _, 2, _, rfl, rfl, SqT.of (kt _ _ p1), at2, _, rfl, pa, _, 3, _, rfl, rfl, SqT.of (kt _ _ p1), atI_nat (j := 3) rfl, by show 4 ≤ sizeLine; decide, fun u hu => ?_⟩
  have s1 := same_upd (o := .tup [.ref aT, .int r, .ref aC, .ref aR]) hu
  exact hG D _ v0 v2 v6 v7 v8 v9 v10 v11 v12 v13 v14 v15 v16 v17 d pa u kd st1 ts kk cs' rs ts r cs' rs (s1 _ _ hd1) hg1 ((tabs_kp hTb k1 hd).ext s1) ((hA.mono kt).mono fun t zs z => s1 _ _ z) hP
    ⟨aT, aC, aR, xr, upd_same, s1 _ _ (kt _ _ p2), s1 _ _ (kt _ _ p3), s1 _ _ (kt _ _ p4), (p5.mono kt).mono fun t zs z => s1 _ _ z⟩ ⟨hP.tabs, hP.n1, hP.n6, r0, by omega, hP.cp, hP.cm, hP.rp, hP.rm, hP.r10⟩ l0 l0 k kc
/-- other timetables -/
theorem law_j {f : Addr} {A : Around} {outer : List Env} {s : Shared} {H0 : Hp} {E : XK} (hr : Room 14 (A.deeper (envOfC (Str.ofString "law") (defScope sLaw) s.heap.objs.size f (.ref cL)))) (U : Use P w K mg base CH CI CD fH fFd fE cL Pt CE fdH fdFd fdE cs dvs ds2 e1 e2) :
    ∃ tm, PSs (cxOf CX0 P w K mg base nLaw "law" (defScope sLaw) f (.ref cL) A outer s H0 E).nox (lawLoop.drop 3) tm ∧ ∀ (D : Ends) (H : Hp) (v0 v2 v6 v7 v8 v9 v10 v11 v12 v13 v14 v15 v16 v17 : Option V) (d pa pb : Addr) (kd : Int) (st : List Int) (ts : List Str) (kk : Int) (cs' : List Int) (rs : List Pr) (ts2 : List Str) (kk2 : Int) (cs2 : List Int) (rs2 : List Pr),
      H d = some (.lst (st.map V.int)) → Good st → LamX.Tabs [(Pt, lamQ)] H → PartsAt H pa ts kk cs' rs → Parts ts kk cs' rs → PartsAt H pb ts2 kk2 cs2 rs2 → Parts ts2 kk2 cs2 rs2 → ts.length ≤ 3 → ts2.length ≤ 3 → Nxt D Pt d v0 → Cnt D Pt d v0 →
      tm D [v0, some (.ref d), v2, some (.ref pa), some (.ref pb), some (.int kd), v6, v7, v8, v9, v10, v11, v12, v13, v14, v15, v16, v17] H := by
  have T := U.C.T
  obtain ⟨tmG, pG, hG⟩ := law_i (P := P) (w := w) (K := K) (mg := mg) (base := base) (CH := CH) (CI := CI) (f := f) (A := A) (outer := outer) (s := s) (H0 := H0) (E := E) hr U
  refine ⟨_, by
    exact (pss_cons (ps_if (pt_cmpR op_eq (pv 5) pe_int (nomark _)) (pss_cons (ps_set (i := 6) scLaw.nd rfl (.inl rfl) (pe_callTy call_tuple_of (by rfl) U.tuple (by decide +kernel) (pa_cons (pe_lc (own := [("_law_table_here", 15)]) (g := gName 15) (by rfl) scLaw.nd (pi_tup (pe_ix ix_tup (pv 3) pe_int (fun _ _ => rfl))) (blkOk_by (N := nLaw) (sc := defScope sLaw) (by decide +kernel)) (fun _ _ _ _ _ => (pg_name (i := 15) scLaw.nd rfl (Or.inl rfl))) (fun _ _ _ _ _ => by exact pts_nil) (fun _ _ _ _ _ => by exact (pe_ifExp (pt_cmpR op_lt (pe_callB call_len_str (by rfl) T.len PySem.boot_len (pa_cons (pv 15) pa_nil)) pe_int (nomark _)) (pe_op op_mulStr (pv 15) pe_int) (pv 15)))) pa_nil)))
      (pss_one (ps_set (i := 4) scLaw.nd rfl (.inl rfl) (pe_op op_catA (pe_tup (pa_cons (pv 6) pa_nil)) (pe_slice sl_tupA (pv 3) (po_some pe_int) po_none))))) pss_nil) pG), ?_⟩
  intro D H v0 v2 v6 v7 v8 v9 v10 v11 v12 v13 v14 v15 v16 v17 d pa pb kd st ts kk cs' rs ts2 kk2 cs2 rs2 hd hg hTb hA hP hA2 hP2 l0 l1 k kc
  refine ⟨_, rfl, rfl, _, rfl, ite2 (fun c => ?_) (fun c => hG D H v0 v2 v6 v7 v8 v9 v10 v11 v12 v13 v14 v15 v16 v17 d pa pb kd st ts kk cs' rs ts2 kk2 cs2 rs2 hd hg hTb hA hP hA2 hP2 l0 l1 k kc)⟩
  obtain ⟨aT, aC, aR, xr, p1, p2, p3, p4, p5⟩ := id hA
  refine ⟨_, rfl, pa, _, 0, _, rfl, rfl, SqT.of p1, at0, aT, rfl, ⟨_, SqT.of p2⟩, fun D2 hD2 => comp_tup (i := 15) (xs := ts.map V.str) hD2 (SqT.of p2) (by rw [List.length_map]; omega) (fun _ => true) (fun _ j v => ∃ t, ts[j]? = some t ∧ v = .str (dblT t)) (fun _ _ _ _ _ r => r) (fun k x H5 Qb _ _ _ q => q _ (fun _ _ e => e)) (fun j x H5 Q5 hx _ s5 _ q => ?_) (fun _ => rfl) fun H5 ys s5 eD pr => ?_⟩
  · rw [List.getElem?_map] at hx
    obtain ⟨t, ht, rfl⟩ := Option.map_eq_some_iff.mp hx
    have htab := hP.tabs t (List.mem_of_getElem? ht)
    refine ⟨_, rfl, t, rfl, htab.size, _, _, rfl, rfl, _, rfl, ite2 (fun c => ?_) (fun c => ?_)⟩
    · have c : (t.length : Int) < 3 := of_decide_eq_true c
      refine ⟨_, rfl, t, 2, rfl, rfl, mulok2 htab, q H5 _ (Same.refl _) ⟨t, ht, ?_⟩⟩
      unfold dblT
      rw [if_pos c]
    · have c : ¬ (t.length : Int) < 3 := fun y => c (decide_eq_true y)
      refine ⟨_, rfl, q H5 _ (Same.refl _) ⟨t, ht, ?_⟩⟩
      unfold dblT
      rw [if_neg c]
  have eys : ys = (ts.map dblT).map V.str := by
    have e0 : (List.range (ts.map V.str).length).filter (fun _ => true) = List.range ts.length := by rw [List.length_map]; exact List.filter_eq_self.mpr fun _ _ => rfl
    rw [e0] at pr
    have hl := Paired.length pr
    rw [List.length_range] at hl
    refine List.ext_getElem? fun j => ?_
    by_cases hj : j < ts.length
    · obtain ⟨y, hy, t, ht, e⟩ := pair_at2 pr (i := j) (x := j) (List.getElem?_range hj)
      rw [hy, e, List.getElem?_map, List.getElem?_map, ht]; rfl
    · rw [List.getElem?_eq_none (by omega), List.getElem?_eq_none (by rw [List.length_map, List.length_map]; omega)]
  subst eys
  refine ⟨D2, _, rfl, .inl ⟨SqL.of eD, fun q hq => ?_⟩⟩
  have s6 := same_upd (o := .tup ((ts.map dblT).map V.str)) hq
  have eq : (upd H5 q (.tup ((ts.map dblT).map V.str))) q = some (.tup ((ts.map dblT).map V.str)) := upd_same
  have s06 := s5.trans s6
  generalize upd H5 q (.tup ((ts.map dblT).map V.str)) = H6 at s06 eq
  refine ⟨_, rfl, by show 1 ≤ sizeLine; decide, fun u hu => ?_⟩
  have s7 := same_upd (o := .tup [.ref q]) hu
  have eu : (upd H6 u (.tup [.ref q])) u = some (.tup [.ref q]) := upd_same
  have eq7 := s7 _ _ eq
  have s07 := s06.trans s7
  generalize upd H6 u (.tup [.ref q]) = H7 at s07 eu eq7
  refine ⟨_, rfl, _, rfl, ?_⟩
  dsimp only [tNoPart]
  refine sl_any (SqT.of (s07 _ _ p1)) fun H8 y s8 hy => ?_
  rw [cut_drop (by decide) (by show (1 : Int) ≤ 4; decide)] at hy
  have s08 := s07.trans s8
  refine ⟨u, y, _, _, rfl, rfl, SqT.of (s8 _ _ eu), hy, by show 1 + 3 ≤ sizeLine; decide, (fun z => by cases z), (fun _ z => by cases z), fun _ _ z hz => ?_⟩
  have s9 := s08.trans (same_upd (o := .tup ([.ref q] ++ List.drop (1 : Int).toNat [.ref aT, .int kk, .ref aC, .ref aR])) hz)
  have ez : (upd H8 z (.tup ([.ref q] ++ List.drop (1 : Int).toNat [.ref aT, .int kk, .ref aC, .ref aR]))) z = some (.tup [.ref q, .int kk, .ref aC, .ref aR]) := upd_same
  have eq9 := (same_upd (o := .tup ([.ref q] ++ List.drop (1 : Int).toNat [.ref aT, .int kk, .ref aC, .ref aR])) hz) _ _ (s8 _ _ eq7)
  generalize upd H8 z (.tup ([.ref q] ++ List.drop (1 : Int).toNat [.ref aT, .int kk, .ref aC, .ref aR])) = H9 at s9 ez eq9
  exact hG D H9 v0 v2 _ v7 v8 v9 v10 v11 v12 v13 v14 v15 v16 v17 d pa z kd st ts kk cs' rs (ts.map dblT) kk cs' rs (s9 _ _ hd) hg (hTb.ext s9) (hA.mono fun t zs z => s9 _ _ z) hP ⟨q, aC, aR, xr, ez, eq9, s9 _ _ p3, s9 _ _ p4, p5.mono fun t zs z => s9 _ _ z⟩ (dbl_parts hP) l0 (by rw [List.length_map]; exact l0) k kc
end
end Dk

set_option Elab.async false
set_option linter.all false
set_option maxRecDepth 100000
set_option maxHeartbeats 4000000
namespace Dk
open PySem PySem.Spec PyProof.Rows L2 TL
section
variable {P : Program} {w : World} {K : PySem.W.Frag} {mg : Str → Option Value} {base : Heap} {CH CI CD fH fFd fE cL Pt CE : Addr} {fdH fdFd fdE : FuncData} {cs : Nat → Addr} {dvs : List V} {ds2 : List Value} {e1 e2 : Addr}
theorem ok_law {f : Addr} {fd : FuncData} (F : FunC K "law" "law" sLaw f cL fd) (U : Use P w K mg base CH CI CD fH fFd fE cL Pt CE fdH fdFd fdE cs dvs ds2 e1 e2) : FnOk P w K mg base CX0 15 f fd ["_law_script"] (spLaw K Pt) := by
  refine F.ok scLaw (fun vs H Q E h => ?_) (fun A outer s H vs Q E hr h => ?_)
  · obtain ⟨a, ns, rfl, _⟩ := h
    rfl
  · obtain ⟨a, ns, rfl, hS, hlen, hTb, k⟩ := h
    have hr1 : Room 1 (A.deeper (envOfC (Str.ofString "law") (defScope sLaw) s.heap.objs.size f (.ref cL))) := hr.mono (by decide)
    have hr3 : Room 3 (A.deeper (envOfC (Str.ofString "law") (defScope sLaw) s.heap.objs.size f (.ref cL))) := hr.mono (by decide)
    have T := U.C.T
    obtain ⟨tmX, pX, hX⟩ := law_j (P := P) (w := w) (K := K) (mg := mg) (base := base) (CH := CH) (CI := CI) (f := f) (A := A) (outer := outer) (s := s) (H0 := H) (E := E) hr U
    obtain ⟨tmL, pL, hL⟩ := law_l (P := P) (w := w) (K := K) (mg := mg) (base := base) (CH := CH) (CI := CI) (f := f) (A := A) (outer := outer) (s := s) (H0 := H) (E := E) hr U
    refine ⟨_, by
      exact (pss_cons (ps_set (i := 1) scLaw.nd rfl (.inl rfl) (pe_cal U.cRa hr1 (by rfl) (pa_cons (pv 0) (pa_cons pe_int pa_nil))))
    (pss_cons (ps_for PassesOwn.never rfl (pi_range1 (by rfl) T.range (pa_cons pe_int pa_nil)) (pg_name (i := 2) scLaw.nd rfl (.inl rfl))
      (pss_cons (ps_set (i := 3) scLaw.nd rfl (.inl rfl) (pe_cal U.cPa hr3 (by rfl) (pa_cons (pv 1) (pa_cons pe_int pa_nil))))
      (pss_cons (ps_set (i := 4) scLaw.nd rfl (.inl rfl) (pe_cal U.cPa hr3 (by rfl) (pa_cons (pv 1) (pa_cons pe_int pa_nil))))
      (pss_cons (ps_set (i := 5) scLaw.nd rfl (.inl rfl) (pe_cal U.C.cB hr1 (by rfl) (pa_cons (pv 1) (pa_cons pe_int pa_nil)))) pX)))) pL)), ?_⟩
    refine ⟨_, rfl, a, ns, 10, rfl, hS, hlen, by decide, by decide, fun H1 d st s1 _ hd hg => ?_⟩
    have hTb1 := hTb.ext s1
    refine ⟨_, rfl, by decide, by decide, for_range (lo := 0) (n := 3) (fun i σ H2 => ∃ (st2 : List Int) (r : List (Option V)), r.length = 16 ∧ σ = some (.ref a) :: some (.ref d) :: r ∧ H2 d = some (.lst (st2.map V.int)) ∧ Good st2 ∧ LamX.Tabs [(Pt, lamQ)] H2) ⟨st, _, by rfl, rfl, hd, hg, hTb1⟩ ?_ ?_⟩
    · rintro i σ H2 hi ⟨st2, r, hr', rfl, hd2, hg2, hTb2⟩
      match r, hr' with
      | [v2, v3, v4, v5, v6, v7, v8, v9, v10, v11, v12, v13, v14, v15, v16, v17], _ =>
      refine ⟨_, rfl, d, 3, st2, rfl, hd2, hg2, by decide, by decide, fun H5 st5 pa ts kk cs' rs k5 hd5 hg5 hPA hPP hl5 => ?_⟩
      have hTb5 := tabs_kp hTb2 k5 hd2
      have hl5 : ts.length ≤ 3 := by omega
      refine ⟨_, rfl, d, 3, st5, rfl, hd5, hg5, by decide, by decide, fun H6 st6 pb ts2 kk2 cs2 rs2 k6 hd6 hg6 hPB hPP2 hl6 => ?_⟩
      have hTb6 := tabs_kp hTb5 k6 hd5
      have hl6 : ts2.length ≤ 3 := by omega
      have hPA6 := hPA.mono (kp_tup k6 hd5)
      refine ⟨_, rfl, d, 4, st6, rfl, hd6, hg6, by decide, by decide, fun H7 st7 kd k7 hd7 hg7 r70 r71 => ?_⟩
      have hTb7 := tabs_kp hTb6 k7 hd6
      exact hX _ H7 (some (.ref a)) _ v6 v7 v8 v9 v10 v11 v12 v13 v14 v15 v16 v17 d pa pb kd st7 ts kk cs' rs ts2 kk2 cs2 rs2 hd7 hg7 hTb7 (hPA6.mono (kp_tup k7 hd6)) hPP (hPB.mono (kp_tup k7 hd6)) hPP2 hl5 hl6
        (fun H' st' r hr' hd' hg' hT' => ⟨st', r, hr', rfl, hd', hg', hT'⟩) (fun H' st' r hr' hd' hg' hT' => ⟨st', r, hr', rfl, hd', hg', hT'⟩)
    · rintro σ H2 ⟨st2, r, hr', rfl, hd2, hg2, hTb2⟩
      exact hL _ H2 _ d r st2 hr' hd2 hg2 k
end
end Dk

set_option Elab.async false
set_option linter.all false
set_option maxRecDepth 100000
set_option maxHeartbeats 4000000
namespace Dk
open PySem PySem.Spec PyProof.Rows L2 TL
/-! ### what the top has written -/
structure FnAt (K : PySem.W.Frag) (x : Str) (st : Stmt) (f : Addr) (fd : FuncData) : Prop where
  g : PySem.W.nsIn K mainGlobals x = some (some (.ref f))
  F : Fun K x x st f fd
theorem fnAt_mk {K : PySem.W.Frag} {x : Str} {st : Stmt} {f : Addr} {oc : Value} {od an : Option Addr} {osl : Array (Option Value)} {kV doc pm cdv ct : Value} (a : PySem.W.nsIn K mainGlobals x = some (some (.ref f)))
    (l : K.lookup f = some ⟨oc, od, .func (PySem.W.fnOf x x (defArgs st) (defBody st) (defScope st) .none kV doc pm an cdv ct), osl⟩)
    (c : PySem.W.codeIn K cdv x = true) (k : PySem.W.keepIn K (.ref f) = true) : FnAt K x st f (PySem.W.fnOf x x (defArgs st) (defBody st) (defScope st) .none kV doc pm an cdv ct) := ⟨a, fun_mk l c k⟩
/-- an error of the program's own -/
structure ErrAt (K : PySem.W.Frag) (x q : Str) (st : Stmt) (C f : Addr) (fd : FuncData) : Prop where
  g : PySem.W.nsIn K mainGlobals x = some (some (.ref C))
  O : OexC K C
  i : PySem.W.findIn K (.ref C) "__init__" = some (some (.ref f))
  t : PySem.W.typeIn K (.ref f) = some (.type "function")
  F : Fun K "__init__" q st f fd
theorem errAt_mk {K : PySem.W.Frag} {x q : Str} {st : Stmt} {C C0 f : Addr} {nm qn : Str} {N : Addr} {bs : List Value} {sn : List Str} {sub : List Value} {ab : Bool} {col : Option Bool} {dd : Option Addr} {m0 m1 m2 m3 m5 : Option Value}
    {oc : Value} {od an : Option Addr} {osl : Array (Option Value)} {kV doc pm cdv ct : Value}
    (a : PySem.W.nsIn K mainGlobals x = some (some (.ref C)))
    (xL : K.lookup C = some (excClassObj nm qn C N bs [.ref C0, .type "ValueError", .type "Exception", .type "BaseException", .type "object"] true sn sub ab col dd m0 m1 m2 m3 m5 "ValueError.__new__"))
    (sa : PySem.W.findIn K (.ref C) "__setattr__" = some (some (.builtin "object.__setattr__"))) (eC : PySem.W.subIn K (.ref C) (.type "BaseException") = some true) (tC : PySem.W.typeIn K (.ref C) = some (.type "type")) (kC : PySem.W.keepIn K (.ref C) = true)
    (i : PySem.W.findIn K (.ref C) "__init__" = some (some (.ref f))) (t : PySem.W.typeIn K (.ref f) = some (.type "function"))
    (l : K.lookup f = some ⟨oc, od, .func (PySem.W.fnOf "__init__" q (defArgs st) (defBody st) (defScope st) .none kV doc pm an cdv ct), osl⟩)
    (c : PySem.W.codeIn K cdv q = true) (k : PySem.W.keepIn K (.ref f) = true) : ErrAt K x q st C f (PySem.W.fnOf "__init__" q (defArgs st) (defBody st) (defScope st) .none kV doc pm an cdv ct) :=
  ⟨a, ⟨⟨nm, qn, N, bs, _, sn, sub, ab, col, dd, m0, m1, m2, m3, m5, xL, (by decide +kernel : PySem.HandSPX.refsVE [.type "ValueError", .type "Exception", .type "BaseException", .type "object"] = true)⟩, sa, eC, tC, kC⟩, i, t, fun_mk l c k⟩
/-- a tuple of texts or numbers among the globals -/
def TupAt (K : PySem.W.Frag) (x : Str) (xs : List V) : Prop := ∃ a, PySem.W.nsIn K mainGlobals x = some (some (.ref a)) ∧ SqT K (fun _ => none) a xs
theorem tupAt_mk {K : PySem.W.Frag} {x : Str} {xs : List V} {a : Addr} {od : Option Addr} {osl : Array (Option Value)} {its : Array Value} {n : Nat} (g : PySem.W.nsIn K mainGlobals x = some (some (.ref a)))
    (l : K.lookup a = some ⟨.type "tuple", od, .seq its n, osl⟩) (z : its.size ≤ sizeLine) (v : Vals xs its.toList) : TupAt K x xs := ⟨a, g, .inr ⟨_, its, n, l, rfl, rfl, z, v⟩⟩
def IntAt (K : PySem.W.Frag) (x : Str) (i : Int) : Prop := ∃ t, PySem.W.nsIn K mainGlobals x = some (some (.int i t))
theorem intAt_mk {K : PySem.W.Frag} {x : Str} {i : Int} {t : Nat} (g : PySem.W.nsIn K mainGlobals x = some (some (.int i t))) : IntAt K x i := ⟨t, g⟩
def StrAt (K : PySem.W.Frag) (x : Str) (i : Str) : Prop := ∃ t, PySem.W.nsIn K mainGlobals x = some (some (.str i t))
theorem strAt_mk {K : PySem.W.Frag} {x : Str} {i : Str} {t : Nat} (g : PySem.W.nsIn K mainGlobals x = some (some (.str i t))) : StrAt K x i := ⟨t, g⟩
/-- the class of houses -/
structure HouAt (K : PySem.W.Frag) (CH : Addr) (fH : Addr) (fdH : FuncData) (dvs : List V) (e1 e2 : Addr) : Prop where
  g : PySem.W.nsIn K mainGlobals "House" = some (some (.ref CH))
  cl : Cls K CH
  nT : NoAttr K CH "tables"
  nK : NoAttr K CH "key_count"
  nC : NoAttr K CH "careful"
  nR : NoAttr K CH "reminders"
  M : Mk K CH fH
  FH : FunD K "__init__" "House.__init__" (defArgs sInit) (defBody sInit) (defScope sInit) dvs [] fH fdH
  two : dvs.length = 2
  dv : dvs = [.ref e1, .ref e2]
  z1 : SqT K (fun _ => none) e1 []
  z2 : SqT K (fun _ => none) e2 []
theorem houAt_mk {K : PySem.W.Frag} {CH : Addr} {fH T e1 e2 : Addr} {ocH dcH pmH cdH ctH kVH ocT : Value} {odH anH odT : Option Addr} {slH slT : Array (Option Value)} {nT : Nat} {od1 od2 : Option Addr} {n1' n2' : Nat} {sl1 sl2 : Array (Option Value)}
    (g : PySem.W.nsIn K mainGlobals "House" = some (some (.ref CH)))
    (pg : PySem.W.plainGet K CH Str.empty = true) (hd : PySem.W.hasDictIn K CH = true) (po : PySem.W.plainOver K CH = true) (sa : PySem.W.findIn K (.ref CH) "__setattr__" = some (some (.builtin "object.__setattr__")))
    (n1 : PySem.W.findIn K (.ref CH) "tables" = some none) (n2 : PySem.W.findIn K (.ref CH) "key_count" = some none) (n3 : PySem.W.findIn K (.ref CH) "careful" = some none) (n4 : PySem.W.findIn K (.ref CH) "reminders" = some none)
    (mk : PySem.W.makesIn K CH = true) (i : PySem.W.findIn K (.ref CH) "__init__" = some (some (.ref fH))) (fn : PySem.W.isFn K (.ref fH) = true) (kc : PySem.W.keepIn K (.ref CH) = true)
    (lH : K.lookup fH = some ⟨ocH, odH, .func (PySem.W.fnOf "__init__" "House.__init__" (defArgs sInit) (defBody sInit) (defScope sInit) (.ref T) kVH dcH pmH anH cdH ctH), slH⟩) (cH : PySem.W.codeIn K cdH "House.__init__" = true) (kH : PySem.W.keepIn K (.ref fH) = true)
    (lT : K.lookup T = some ⟨ocT, odT, .seq #[.ref e1, .ref e2] nT, slT⟩) (l1 : K.lookup e1 = some ⟨.type "tuple", od1, .seq #[] n1', sl1⟩) (l2 : K.lookup e2 = some ⟨.type "tuple", od2, .seq #[] n2', sl2⟩) :
    HouAt K CH fH (PySem.W.fnOf "__init__" "House.__init__" (defArgs sInit) (defBody sInit) (defScope sInit) (.ref T) kVH dcH pmH anH cdH ctH) [.ref e1, .ref e2] e1 e2 :=
  ⟨g, ⟨pg, hd, po, sa⟩, n1, n2, n3, n4, ⟨mk, i, fn, kc⟩, ⟨⟨ocH, odH, _, _, _, _, _, _, _, _, rfl, lH, cH, .inr ⟨by simp, T, _, [.ref e1, .ref e2], nT, rfl, lT, rfl, .cons rfl (.cons rfl .nil)⟩, .inl rfl⟩, kH⟩, rfl, rfl, .inr ⟨_, #[], n1', l1, rfl, rfl, by decide, .nil⟩, .inr ⟨_, #[], n2', l2, rfl, rfl, by decide, .nil⟩⟩
/-- the class of courses -/
structure CouAt (K : PySem.W.Frag) (CC fC : Addr) (fdC : FuncData) : Prop where
  g : PySem.W.nsIn K mainGlobals "Course" = some (some (.ref CC))
  cl : Cls K CC
  n1 : NoAttr K CC "house"
  n2 : NoAttr K CC "span"
  n3 : NoAttr K CC "tick"
  n4 : NoAttr K CC "home"
  n5 : NoAttr K CC "waiters"
  n6 : NoAttr K CC "carriers"
  n7 : NoAttr K CC "unlocked"
  M : Mk K CC fC
  F : Fun K "__init__" "Course.__init__" sCInit fC fdC
theorem couAt_mk {K : PySem.W.Frag} {CC fC : Addr} {oc : Value} {od an : Option Addr} {osl : Array (Option Value)} {kV doc pm cdv ct : Value}
    (g : PySem.W.nsIn K mainGlobals "Course" = some (some (.ref CC)))
    (pg : PySem.W.plainGet K CC Str.empty = true) (hd : PySem.W.hasDictIn K CC = true) (po : PySem.W.plainOver K CC = true) (sa : PySem.W.findIn K (.ref CC) "__setattr__" = some (some (.builtin "object.__setattr__")))
    (n1 : PySem.W.findIn K (.ref CC) "house" = some none) (n2 : PySem.W.findIn K (.ref CC) "span" = some none) (n3 : PySem.W.findIn K (.ref CC) "tick" = some none) (n4 : PySem.W.findIn K (.ref CC) "home" = some none) (n5 : PySem.W.findIn K (.ref CC) "waiters" = some none) (n6 : PySem.W.findIn K (.ref CC) "carriers" = some none) (n7 : PySem.W.findIn K (.ref CC) "unlocked" = some none)
    (mk : PySem.W.makesIn K CC = true) (i : PySem.W.findIn K (.ref CC) "__init__" = some (some (.ref fC))) (fn : PySem.W.isFn K (.ref fC) = true) (kc : PySem.W.keepIn K (.ref CC) = true)
    (l : K.lookup fC = some ⟨oc, od, .func (PySem.W.fnOf "__init__" "Course.__init__" (defArgs sCInit) (defBody sCInit) (defScope sCInit) .none kV doc pm an cdv ct), osl⟩)
    (c : PySem.W.codeIn K cdv "Course.__init__" = true) (k : PySem.W.keepIn K (.ref fC) = true) : CouAt K CC fC (PySem.W.fnOf "__init__" "Course.__init__" (defArgs sCInit) (defBody sCInit) (defScope sCInit) .none kV doc pm an cdv ct) :=
  ⟨g, ⟨pg, hd, po, sa⟩, n1, n2, n3, n4, n5, n6, n7, ⟨mk, i, fn, kc⟩, fun_mk l c k⟩
/-- a method -/
structure MetAt (K : PySem.W.Frag) (C : Addr) (x q : Str) (st : Stmt) (f : Addr) (fd : FuncData) : Prop where
  m : Meth K C x f
  F : Fun K x q st f fd
theorem metAt_mk {K : PySem.W.Frag} {C : Addr} {x q : Str} {st : Stmt} {f : Addr} {oc : Value} {od an : Option Addr} {osl : Array (Option Value)} {kV doc pm cdv ct : Value} (a : PySem.W.findIn K (.ref C) x = some (some (.ref f))) (n : PySem.W.isFn K (.ref f) = true)
    (l : K.lookup f = some ⟨oc, od, .func (PySem.W.fnOf x q (defArgs st) (defBody st) (defScope st) .none kV doc pm an cdv ct), osl⟩)
    (c : PySem.W.codeIn K cdv q = true) (k : PySem.W.keepIn K (.ref f) = true) : MetAt K C x q st f (PySem.W.fnOf x q (defArgs st) (defBody st) (defScope st) .none kV doc pm an cdv ct) := ⟨⟨a, n, k⟩, fun_mk l c k⟩
/-- a property -/
structure PrpAt (K : PySem.W.Frag) (C : Addr) (x q : Str) (st : Stmt) (p f : Addr) (fd : FuncData) : Prop where
  po : PropOf K C x p f
  F : Fun K x q st f fd
theorem prpAt_mk {K : PySem.W.Frag} {C : Addr} {x q : Str} {st : Stmt} {p f : Addr} {oc : Value} {od an : Option Addr} {osl : Array (Option Value)} {kV doc pm cdv ct : Value} {rt : List Value} (a : PySem.W.findIn K (.ref C) x = some (some (.ref p)))
    (pG : PySem.W.specialIn K (.ref p) "__get__" = some (some (.builtin "property.__get__"))) (pK : PySem.W.takesIn K (.ref p) = some true) (pR : PySem.W.recIn K p "property" = some (.ref f :: rt))
    (l : K.lookup f = some ⟨oc, od, .func (PySem.W.fnOf x q (defArgs st) (defBody st) (defScope st) .none kV doc pm an cdv ct), osl⟩)
    (c : PySem.W.codeIn K cdv q = true) (k : PySem.W.keepIn K (.ref f) = true) : PrpAt K C x q st p f (PySem.W.fnOf x q (defArgs st) (defBody st) (defScope st) .none kV doc pm an cdv ct) := ⟨⟨a, pG, pK, ⟨_, pR⟩⟩, fun_mk l c k⟩
/-- a class of errors: its name, and that it is a class -/
structure ClsAt (K : PySem.W.Frag) (x : Str) (c : Addr) : Prop where
  g : PySem.W.nsIn K mainGlobals x = some (some (.ref c))
  t : PySem.W.typeIn K (.ref c) = some (.type "type")
  i : PySem.W.isClsIn K c = true
theorem kit_no {K : PySem.W.Frag} {x : Str} {D c : Addr} (h : ClsAt K x c) (n : D ≠ c) (s : PySem.W.subIn K (.ref D) (.ref c) = some false) : PySem.W.kitOne K (.ref D) (.ref c) = some false := by
  unfold PySem.W.kitOne
  rw [if_neg (by intro q; exact n (Value.ref.inj (beq_iff_eq.mp q)))]
  show (if ((PySem.W.clsIn K c).isSome && PySem.W.typeIn K (.ref c) == some (.type "type")) = true then PySem.W.subIn K (.ref D) (.ref c) else none) = some false
  rw [show (PySem.W.clsIn K c).isSome = true from h.i, h.t]
  exact s
theorem kit_self {K : PySem.W.Frag} {c : Addr} : PySem.W.kitOne K (.ref c) (.ref c) = some true := by
  unfold PySem.W.kitOne
  rw [if_pos (beq_self_eq_true _)]
theorem kit_ve {K : PySem.W.Frag} {D : Addr} (s : PySem.W.subIn K (.ref D) (.type "ValueError") = some true) : PySem.W.kitOne K (.ref D) (.type "ValueError") = some true := by
  unfold PySem.W.kitOne
  rw [if_neg (by intro q; cases beq_iff_eq.mp q)]
  show (if PySem.W.kitMeta "ValueError" = true then PySem.W.subIn K (.ref D) (.type "ValueError") else none) = some true
  rw [if_pos (by decide +kernel)]
  exact s
structure SubAt (K : PySem.W.Frag) (CE D : Addr) : Prop where
  v : PySem.W.subIn K (.ref D) (.type "ValueError") = some true
  e : PySem.W.subIn K (.ref D) (.ref CE) = some true
  C : ExcC K D
theorem subAt_mk {K : PySem.W.Frag} {CE D : Addr} (v : PySem.W.subIn K (.ref D) (.type "ValueError") = some true) (e : PySem.W.subIn K (.ref D) (.ref CE) = some true)
    (hg : PySem.W.findIn K (.ref D) "__getattribute__" = some (some (.builtin "BaseException.__getattribute__"))) (hk : PySem.W.findIn K (.ref D) "__getattr__" = some none) (hs : PySem.W.subIn K (.ref D) (.type "BaseException") = some true) (hd : PySem.W.hasDictIn K D = true)
    (ha : PySem.W.findIn K (.ref D) "__class__" = some (some (.builtin "object.__class__"))) (hn : PySem.W.specialIn K (.builtin "object.__class__") "__get__" = some (some (.builtin "getset_descriptor.__get__"))) (ht : PySem.W.takesIn K (.builtin "object.__class__") = some true) (hm : PySem.W.mroIn K D (.type "object") = some true) : SubAt K CE D := ⟨v, e, ⟨hg, hk, hs, hd, ha, hn, ht, hm⟩⟩
theorem all_mk {l : PySem.W.OpenLaw} {w : World} {K : PySem.W.Frag} {h : Heap} {mg : Str → Option Value} {fa : Addr} (X : K.In h) (G : h.Ns mainGlobals mg) (hfa : mg "law" = some (.ref fa))
    {f_ii f_ib f_pe f_ct f_ck f_cc f_cr f_it f_ir f_as f_ho f_hl f_so f_fc f_cy f_ra f_be f_ta f_le f_pa f_eq f_hs f_lv f_tl f_cyl f_fd f_ip f_ctk f_fe f_ig f_er f_lat f_lck f_ad f_sn f_ar f_ce f_dp f_th f_tkk f_cl f_pP f_pS ppP ppS C_i f_i CH fH CC fC e1 e2 c_0 c_1 c_2 c_3 c_4 c_5 c_6 c_7 c_9 c_10 c_11 CE  f_lw cL_lw Pt_lw  : Addr} {d_ii d_ib d_pe d_ct d_ck d_cc d_cr d_it d_ir d_as d_ho d_hl d_so d_fc d_cy d_ra d_be d_ta d_le d_pa d_eq d_hs d_lv d_tl d_cyl d_fd d_ip d_ctk d_fe d_ig d_er d_lat d_lck d_ad d_sn d_ar d_ce d_dp d_th d_tkk d_cl d_pP d_pS d_i d_h d_c : FuncData} {dvs : List V}
    (h_ii : FnAt K "is_integer" sIsInt f_ii d_ii) (h_ib : FnAt K "is_below" sIsBelow f_ib d_ib) (h_pe : FnAt K "common_period" sPeriod f_pe d_pe) (h_ct : FnAt K "check_tables" sChkTables f_ct d_ct) (h_ck : FnAt K "check_keys" sChkKeys f_ck d_ck) (h_cc : FnAt K "check_careful" sChkCareful f_cc d_cc) (h_cr : FnAt K "check_reminders" sChkRem f_cr d_cr) (h_it : FnAt K "is_table" sIsTable f_it d_it) (h_ir : FnAt K "is_reminder" sIsRem f_ir d_ir) (h_as : FnAt K "is_ascending_at" sAsc f_as d_as) (h_ho : FnAt K "has_only" sHasOnly f_ho d_ho) (h_hl : FnAt K "is_home_letter" sHomeL f_hl d_hl) (h_so : FnAt K "scenes_of" sScenes f_so d_so) (h_fc : FnAt K "find_cycle" sFindC f_fc d_fc) (h_cy : FnAt K "cycle_of" sCyc f_cy d_cy) (h_ra : FnAt K "_law_random" sRandom f_ra d_ra) (h_be : FnAt K "_law_below" sBelow f_be d_be) (h_ta : FnAt K "_law_table" sTable f_ta d_ta) (h_le : FnAt K "_law_length" sLength f_le d_le) (h_pa : FnAt K "_law_parts" sParts f_pa d_pa) (h_eq : FnAt K "_law_equal" sEqual f_eq d_eq) (h_hs : FnAt K "_law_house" sHouseF f_hs d_hs) (h_lv : FnAt K "_law_leave" sLeave f_lv d_lv) (h_tl : FnAt K "_law_tick" sTickF f_tl d_tl) (h_cyl : FnAt K "_law_cycle" sCycle f_cyl d_cyl) (h_fd : FnAt K "first_difference" sFirstD f_fd d_fd) (h_ip : FnAt K "is_pair" sIsPair f_ip d_ip) (h_ctk : FnAt K "count_ticks" sCntT f_ctk d_ctk) (h_fe : FnAt K "first_error" sFirstE f_fe d_fe) (h_ig : FnAt K "is_group" sIsGroup f_ig d_ig) (h_er : FnAt K "_law_error_of" sErrOf f_er d_er) (h_lat : FnAt K "_law_at" sLawAt f_lat d_lat) (h_lck : FnAt K "_law_checks" sChecks f_lck d_lck)
    (m_ad : MetAt K CC "advance" "Course.advance" sAdv f_ad d_ad) (m_sn : MetAt K CC "scene" "Course.scene" sScene f_sn d_sn) (m_ar : MetAt K CC "_arrive" "Course._arrive" sArrive f_ar d_ar) (m_ce : MetAt K CC "_can_enter" "Course._can_enter" sCanE f_ce d_ce) (m_dp : MetAt K CC "_depart" "Course._depart" sDepart f_dp d_dp) (m_th : MetAt K CC "_thinks_of_key" "Course._thinks_of_key" sThinks f_th d_th) (m_tkk : MetAt K CC "_take_key" "Course._take_key" sTake f_tkk d_tkk) (m_cl : MetAt K CC "_close" "Course._close" sClose f_cl d_cl)
    (p_pP : PrpAt K CH "period" "House.period" sPeriodP ppP f_pP d_pP) (p_pS : PrpAt K CH "persons" "House.persons" sPersonsP ppS f_pS d_pS)
    (e_i : ErrAt K "InvalidHouse" "InvalidHouse.__init__" sIHInit C_i f_i d_i) (np : PySem.W.findIn K (.ref C_i) "part" = some none) (ni : PySem.W.findIn K (.ref C_i) "index" = some none)
    (hh : HouAt K CH fH d_h dvs e1 e2) (hc : CouAt K CC fC d_c)
    (hE : PySem.W.nsIn K mainGlobals "HouseError" = some (some (.ref CE))) (x1 : PySem.W.subIn K (.ref CE) (.type "BaseException") = some true) (x2 : PySem.W.hasDictIn K CE = true) (x3 : PySem.W.typeIn K (.ref CE) = some (.type "type"))
    (k0 : ClsAt K "InvalidTick" c_0) (k1 : ClsAt K "UnknownPerson" c_1) (k2 : ClsAt K "InvalidLimit" c_2) (k3 : ClsAt K "DifferentHouses" c_3) (k4 : ClsAt K "InvalidWaiting" c_4) (k5 : ClsAt K "Contradiction" c_5) (k6 : ClsAt K "InvalidName" c_6) (k7 : ClsAt K "UnknownName" c_7) (k8 : ClsAt K "InvalidHouse" C_i) (k9 : ClsAt K "TextFault" c_9) (k10 : ClsAt K "InvalidCode" c_10) (k11 : ClsAt K "InvalidOperation" c_11)
    (s3 : SubAt K CE c_3)
    (a3_0 : PySem.W.subIn K (.ref c_3) (.ref c_0) = some false) (m3_0 : c_3 ≠ c_0) (a3_1 : PySem.W.subIn K (.ref c_3) (.ref c_1) = some false) (m3_1 : c_3 ≠ c_1) (a3_2 : PySem.W.subIn K (.ref c_3) (.ref c_2) = some false) (m3_2 : c_3 ≠ c_2) (a3_4 : PySem.W.subIn K (.ref c_3) (.ref c_4) = some false) (m3_4 : c_3 ≠ c_4) (a3_5 : PySem.W.subIn K (.ref c_3) (.ref c_5) = some false) (m3_5 : c_3 ≠ c_5) (a3_6 : PySem.W.subIn K (.ref c_3) (.ref c_6) = some false) (m3_6 : c_3 ≠ c_6) (a3_7 : PySem.W.subIn K (.ref c_3) (.ref c_7) = some false) (m3_7 : c_3 ≠ c_7) (a3_8 : PySem.W.subIn K (.ref c_3) (.ref C_i) = some false) (m3_8 : c_3 ≠ C_i) (a3_9 : PySem.W.subIn K (.ref c_3) (.ref c_9) = some false) (m3_9 : c_3 ≠ c_9) (a3_10 : PySem.W.subIn K (.ref c_3) (.ref c_10) = some false) (m3_10 : c_3 ≠ c_10) (a3_11 : PySem.W.subIn K (.ref c_3) (.ref c_11) = some false) (m3_11 : c_3 ≠ c_11)
    (xf8 : XfC K C_i) (xf9 : XfC K c_9) (nl : PySem.W.findIn K (.ref c_9) "line" = some none)
    {ocl_lw : Value} {odl_lw anl_lw : Option Addr} {osl_lw : Array (Option Value)} {kVl_lw docl_lw pml_lw ctl_lw : Value}
    (gl_lw : PySem.W.nsIn K mainGlobals "law" = some (some (.ref f_lw))) (ll_lw : K.lookup f_lw = some ⟨ocl_lw, odl_lw, .func (PySem.W.fnOf "law" "law" (defArgs sLaw) (defBody sLaw) (defScope sLaw) .none kVl_lw docl_lw pml_lw anl_lw (.ref cL_lw) ctl_lw), osl_lw⟩) (lc_lw : PySem.W.codeIn K (.ref cL_lw) "law" = true) (kl_lw : PySem.W.keepIn K (.ref f_lw) = true)
    (tabE_lw : h.get? Pt_lw = some { cls := .none, data := .fields #[] }) (hC_lw : PySem.W.codeHdIn K cL_lw Pt_lw = true) (nPx_lw : K.lookup Pt_lw = none)
    (c1 : TupAt K "TABLE_LENGTHS" (tabLens.map V.int)) (c3 : IntAt K "MOST_PERSONS" 6) (c4 : IntAt K "MOST_KEYS" 9) (c5 : IntAt K "MOST_REMINDERS" 10) (c6 : StrAt K "LETTERS" hoS)
    (zl : PySem.W.nsIn K mainGlobals "lcm" = some (some (.builtin "math.lcm")))
    (z_abs : PySem.W.nsIn K mainGlobals "abs" = some none) (z_len : PySem.W.nsIn K mainGlobals "len" = some none) (z_range : PySem.W.nsIn K mainGlobals "range" = some none) (z_tuple : PySem.W.nsIn K mainGlobals "tuple" = some none) (z_sorted : PySem.W.nsIn K mainGlobals "sorted" = some none) (z_enumerate : PySem.W.nsIn K mainGlobals "enumerate" = some none) (z_isinstance : PySem.W.nsIn K mainGlobals "isinstance" = some none) (z_int : PySem.W.nsIn K mainGlobals "int" = some none) (z_bool : PySem.W.nsIn K mainGlobals "bool" = some none) (z_str : PySem.W.nsIn K mainGlobals "str" = some none) (z_all : PySem.W.nsIn K mainGlobals "all" = some none) (z_list : PySem.W.nsIn K mainGlobals "list" = some none) (z_any : PySem.W.nsIn K mainGlobals "any" = some none) (z_max : PySem.W.nsIn K mainGlobals "max" = some none) (z_min : PySem.W.nsIn K mainGlobals "min" = some none) (z_ValueError : PySem.W.nsIn K mainGlobals "ValueError" = some none) (iH1 : PySem.W.findIn K (.ref CH) "__class__" = some (some (.builtin "object.__class__"))) (iH2 : PySem.W.specialIn K (.builtin "object.__class__") "__get__" = some (some (.builtin "getset_descriptor.__get__"))) (iH3 : PySem.W.takesIn K (.builtin "object.__class__") = some true) (iH4 : PySem.W.mroIn K CH (.type "object") = some true)
    (xD : PySem.W.excIn K c_3 [Value.type "ValueError", Value.type "Exception", Value.type "BaseException", Value.type "object"] "ValueError.__new__" = true) (kD : PySem.W.keepIn K (.ref c_3) = true) (bD : PySem.W.subIn K (.ref c_3) (.type "BaseException") = some true) (tD : PySem.W.typeIn K (.ref c_3) = some (.type "type")) :
    LamX.LawAtS l w K CX0 15 63 "_law_script" mg fa h := by
  have e := hfa.symm.trans (PySem.W.mg_of X G gl_lw)
  cases e
  have g_ii := PySem.W.mg_of X G h_ii.g
  have b_ii := h_ii.F.binds (ps := ["value"]) fun _ _ _ _ _ _ us hl => match us, hl with | [_], _ => rfl
  have g_ib := PySem.W.mg_of X G h_ib.g
  have b_ib := h_ib.F.binds (ps := ["value", "limit"]) fun _ _ _ _ _ _ us hl => match us, hl with | [_, _], _ => rfl
  have g_pe := PySem.W.mg_of X G h_pe.g
  have b_pe := h_pe.F.binds (ps := ["tables"]) fun _ _ _ _ _ _ us hl => match us, hl with | [_], _ => rfl
  have g_ct := PySem.W.mg_of X G h_ct.g
  have b_ct := h_ct.F.binds (ps := ["tables"]) fun _ _ _ _ _ _ us hl => match us, hl with | [_], _ => rfl
  have g_ck := PySem.W.mg_of X G h_ck.g
  have b_ck := h_ck.F.binds (ps := ["keys"]) fun _ _ _ _ _ _ us hl => match us, hl with | [_], _ => rfl
  have g_cc := PySem.W.mg_of X G h_cc.g
  have b_cc := h_cc.F.binds (ps := ["careful", "persons"]) fun _ _ _ _ _ _ us hl => match us, hl with | [_, _], _ => rfl
  have g_cr := PySem.W.mg_of X G h_cr.g
  have b_cr := h_cr.F.binds (ps := ["reminders", "period", "persons"]) fun _ _ _ _ _ _ us hl => match us, hl with | [_, _, _], _ => rfl
  have g_it := PySem.W.mg_of X G h_it.g
  have b_it := h_it.F.binds (ps := ["table"]) fun _ _ _ _ _ _ us hl => match us, hl with | [_], _ => rfl
  have g_ir := PySem.W.mg_of X G h_ir.g
  have b_ir := h_ir.F.binds (ps := ["reminder", "period", "persons"]) fun _ _ _ _ _ _ us hl => match us, hl with | [_, _, _], _ => rfl
  have g_as := PySem.W.mg_of X G h_as.g
  have b_as := h_as.F.binds (ps := ["items", "index"]) fun _ _ _ _ _ _ us hl => match us, hl with | [_, _], _ => rfl
  have g_ho := PySem.W.mg_of X G h_ho.g
  have b_ho := h_ho.F.binds (ps := ["word", "characters"]) fun _ _ _ _ _ _ us hl => match us, hl with | [_, _], _ => rfl
  have g_hl := PySem.W.mg_of X G h_hl.g
  have b_hl := h_hl.F.binds (ps := ["table", "tick"]) fun _ _ _ _ _ _ us hl => match us, hl with | [_, _], _ => rfl
  have g_so := PySem.W.mg_of X G h_so.g
  have b_so := h_so.F.binds (ps := ["house"]) fun _ _ _ _ _ _ us hl => match us, hl with | [_], _ => rfl
  have g_fc := PySem.W.mg_of X G h_fc.g
  have b_fc := h_fc.F.binds (ps := ["house"]) fun _ _ _ _ _ _ us hl => match us, hl with | [_], _ => rfl
  have g_cy := PySem.W.mg_of X G h_cy.g
  have b_cy := h_cy.F.binds (ps := ["scenes"]) fun _ _ _ _ _ _ us hl => match us, hl with | [_], _ => rfl
  have g_ra := PySem.W.mg_of X G h_ra.g
  have b_ra := h_ra.F.binds (ps := ["_law_script", "_law_salt"]) fun _ _ _ _ _ _ us hl => match us, hl with | [_, _], _ => rfl
  have g_be := PySem.W.mg_of X G h_be.g
  have b_be := h_be.F.binds (ps := ["_law_d", "_law_limit"]) fun _ _ _ _ _ _ us hl => match us, hl with | [_, _], _ => rfl
  have g_ta := PySem.W.mg_of X G h_ta.g
  have b_ta := h_ta.F.binds (ps := ["_law_d"]) fun _ _ _ _ _ _ us hl => match us, hl with | [_], _ => rfl
  have g_le := PySem.W.mg_of X G h_le.g
  have b_le := h_le.F.binds (ps := ["_law_tables"]) fun _ _ _ _ _ _ us hl => match us, hl with | [_], _ => rfl
  have g_pa := PySem.W.mg_of X G h_pa.g
  have b_pa := h_pa.F.binds (ps := ["_law_d", "_law_most"]) fun _ _ _ _ _ _ us hl => match us, hl with | [_, _], _ => rfl
  have g_eq := PySem.W.mg_of X G h_eq.g
  have b_eq := h_eq.F.binds (ps := ["_law_actual", "_law_expected"]) fun _ _ _ _ _ _ us hl => match us, hl with | [_, _], _ => rfl
  have g_hs := PySem.W.mg_of X G h_hs.g
  have b_hs := h_hs.F.binds (ps := ["_law_parts_here"]) fun _ _ _ _ _ _ us hl => match us, hl with | [_], _ => rfl
  have g_lv := PySem.W.mg_of X G h_lv.g
  have b_lv := h_lv.F.binds (ps := ["_law_parts_here", "_law_scene", "_law_tick_here", "_law_events"]) fun _ _ _ _ _ _ us hl => match us, hl with | [_, _, _, _], _ => rfl
  have g_tl := PySem.W.mg_of X G h_tl.g
  have b_tl := h_tl.F.binds (ps := ["_law_parts_here", "_law_scene", "_law_tick_here"]) fun _ _ _ _ _ _ us hl => match us, hl with | [_, _, _], _ => rfl
  have g_cyl := PySem.W.mg_of X G h_cyl.g
  have b_cyl := h_cyl.F.binds (ps := ["_law_parts_here"]) fun _ _ _ _ _ _ us hl => match us, hl with | [_], _ => rfl
  have g_fd := PySem.W.mg_of X G h_fd.g
  have b_fd := h_fd.F.binds (ps := ["house", "other"]) fun _ _ _ _ _ _ us hl => match us, hl with | [_, _], _ => rfl
  have g_ip := PySem.W.mg_of X G h_ip.g
  have b_ip := h_ip.F.binds (ps := ["house", "other"]) fun _ _ _ _ _ _ us hl => match us, hl with | [_, _], _ => rfl
  have g_ctk := PySem.W.mg_of X G h_ctk.g
  have b_ctk := h_ctk.F.binds (ps := ["house", "other"]) fun _ _ _ _ _ _ us hl => match us, hl with | [_, _], _ => rfl
  have g_fe := PySem.W.mg_of X G h_fe.g
  have b_fe := h_fe.F.binds (ps := ["house", "log"]) fun _ _ _ _ _ _ us hl => match us, hl with | [_, _], _ => rfl
  have g_ig := PySem.W.mg_of X G h_ig.g
  have b_ig := h_ig.F.binds (ps := ["item"]) fun _ _ _ _ _ _ us hl => match us, hl with | [_], _ => rfl
  have g_er := PySem.W.mg_of X G h_er.g
  have b_er := h_er.F.binds (ps := ["_law_call"]) fun _ _ _ _ _ _ us hl => match us, hl with | [_], _ => rfl
  have g_lat := PySem.W.mg_of X G h_lat.g
  have b_lat := h_lat.F.binds (ps := ["_law_cycle_here", "_law_tick_here"]) fun _ _ _ _ _ _ us hl => match us, hl with | [_, _], _ => rfl
  have g_lck := PySem.W.mg_of X G h_lck.g
  have b_lck := h_lck.F.binds (ps := ["_law_d", "_law_houses", "_law_cycles"]) fun _ _ _ _ _ _ us hl => match us, hl with | [_, _, _], _ => rfl
  have b_ad := m_ad.F.binds (ps := ["self"]) fun _ _ _ _ _ _ us hl => match us, hl with | [_], _ => rfl
  have b_sn := m_sn.F.binds (ps := ["self"]) fun _ _ _ _ _ _ us hl => match us, hl with | [_], _ => rfl
  have b_ar := m_ar.F.binds (ps := ["self", "wishes"]) fun _ _ _ _ _ _ us hl => match us, hl with | [_, _], _ => rfl
  have b_ce := m_ce.F.binds (ps := ["self", "comers"]) fun _ _ _ _ _ _ us hl => match us, hl with | [_, _], _ => rfl
  have b_dp := m_dp.F.binds (ps := ["self", "wishes"]) fun _ _ _ _ _ _ us hl => match us, hl with | [_, _], _ => rfl
  have b_th := m_th.F.binds (ps := ["self", "person"]) fun _ _ _ _ _ _ us hl => match us, hl with | [_, _], _ => rfl
  have b_tkk := m_tkk.F.binds (ps := ["self", "person"]) fun _ _ _ _ _ _ us hl => match us, hl with | [_, _], _ => rfl
  have b_cl := m_cl.F.binds (ps := ["self", "person"]) fun _ _ _ _ _ _ us hl => match us, hl with | [_, _], _ => rfl
  have b_pP := p_pP.F.binds (ps := ["self"]) fun _ _ _ _ _ _ us hl => match us, hl with | [_], _ => rfl
  have b_pS := p_pS.F.binds (ps := ["self"]) fun _ _ _ _ _ _ us hl => match us, hl with | [_], _ => rfl
  have y_abs := PySem.W.mg_none_of X G z_abs
  have y_len := PySem.W.mg_none_of X G z_len
  have y_range := PySem.W.mg_none_of X G z_range
  have y_tuple := PySem.W.mg_none_of X G z_tuple
  have y_sorted := PySem.W.mg_none_of X G z_sorted
  have y_enumerate := PySem.W.mg_none_of X G z_enumerate
  have y_isinstance := PySem.W.mg_none_of X G z_isinstance
  have y_int := PySem.W.mg_none_of X G z_int
  have y_bool := PySem.W.mg_none_of X G z_bool
  have y_str := PySem.W.mg_none_of X G z_str
  have y_all := PySem.W.mg_none_of X G z_all
  have y_list := PySem.W.mg_none_of X G z_list
  have y_any := PySem.W.mg_none_of X G z_any
  have y_max := PySem.W.mg_none_of X G z_max
  have y_min := PySem.W.mg_none_of X G z_min
  have y_ValueError := PySem.W.mg_none_of X G z_ValueError
  have b_i := e_i.F.binds (ps := ["self", "part", "index"]) fun _ _ _ _ _ _ us hl => match us, hl with | [_, _, _], _ => rfl
  have b_c := hc.F.binds (ps := ["self", "house"]) fun _ _ _ _ _ _ us hl => match us, hl with | [_, _], _ => rfl
  have b_h : Binds K d_h ["self", "tables", "keys", "careful", "reminders"] [] := by
    have hq := hh.FH.binds1 (ps := ["self", "tables", "keys", "careful", "reminders"]) 5 2 (fun q => by have := hh.two; rw [q] at this; cases this) (by rw [hh.two]; rfl)
      (fun T kV doc pm an cdv ct us its hl hi => by
        rw [hh.two] at hi
        match us, hl, its, hi with
        | [_, _, _, _, _], _, [_, _], _ => exact ⟨_, rfl, rfl⟩)
    obtain ⟨ds, hv, hb⟩ := hq
    rw [show dvs.drop 2 = [] from List.drop_of_length_le (by rw [hh.two]; exact Nat.le_refl _)] at hv
    cases hv
    exact hb
  have hdv := hh.dv
  subst hdv
  obtain ⟨ds2, hd2, b_h2⟩ := hh.FH.binds1 (ps := ["self", "tables", "keys", "careful", "reminders"]) 3 0 (by simp) rfl
      (fun T kV doc pm an cdv ct us its hl hi => by
        match us, hl, its, hi with
        | [_, _, _], _, [_, _], _ => exact ⟨_, rfl, rfl⟩)
  obtain ⟨a1, g1, q1⟩ := c1
  obtain ⟨t3, g3⟩ := c3
  obtain ⟨t4, g4⟩ := c4
  obtain ⟨t5, g5⟩ := c5
  obtain ⟨t6, g6⟩ := c6
  have TA : TxtA mg := { abs := y_abs, len := y_len, range := y_range }
  have TB : TxtB K mg f_be d_be := { g := g_be, F := h_be.F, b := b_be }
  have TD : TxtD K mg f_ta f_le d_ta d_le := { gT := g_ta, FT := h_ta.F, bT := b_ta, gL := g_le, FL := h_le.F, bL := b_le, tuple := y_tuple, sorted := y_sorted }
  have TC : TxtC mg := { lcm := PySem.W.mg_of X G zl }
  have TF : TxtF K mg f_ii f_ib f_ho d_ii d_ib d_ho := { isinstance := y_isinstance, int := y_int, bool := y_bool, str := y_str, tuple := y_tuple, all := y_all, gII := g_ii, FII := h_ii.F, bII := b_ii, gIB := g_ib, FIB := h_ib.F, bIB := b_ib, gHO := g_ho, FHO := h_ho.F, bHO := b_ho, letters := ⟨t6, PySem.W.mg_of X G g6⟩, lengths := ⟨a1, PySem.W.mg_of X G g1, q1⟩ }
  have TI : TxtI K mg f_it f_ir f_as d_it d_ir d_as := { enumerate := y_enumerate, most := ⟨t3, PySem.W.mg_of X G g3⟩, keys := ⟨t4, PySem.W.mg_of X G g4⟩, rems := ⟨t5, PySem.W.mg_of X G g5⟩, gIT := g_it, FIT := h_it.F, bIT := b_it, gIR := g_ir, FIR := h_ir.F, bIR := b_ir, gAs := g_as, FAs := h_as.F, bAs := b_as }
  have TH : TxtIH K mg C_i f_i d_i := { gC := PySem.W.mg_of X G e_i.g, O := e_i.O, iC := e_i.i, tI := e_i.t, F := e_i.F, b := b_i, nP := np, nI := ni }
  have TL' : TxtL K mg CH f_pe f_ct f_ck f_cc f_cr d_pe d_ct d_ck d_cc d_cr := { cl := hh.cl, nT := hh.nT, nK := hh.nK, nC := hh.nC, nR := hh.nR, gP := g_pe, FP := h_pe.F, bP := b_pe, gT := g_ct, FT := h_ct.F, bT := b_ct, gK := g_ck, FK := h_ck.F, bK := b_ck, gCa := g_cc, FC := h_cc.F, bC := b_cc, gR := g_cr, FR := h_cr.F, bR := b_cr }
  have HP : TxtHp K mg CH f_pe ppP f_pP ppS f_pS d_pe d_pP d_pS := { gCP := g_pe, FCP := h_pe.F, bCP := b_pe, poPe := p_pP.po, FPe := p_pP.F, bPe := b_pP, poPs := p_pS.po, FPs := p_pS.F, bPs := b_pS }
  have C' : TxtCo K mg CC CH f_hl d_hl := { cl := hc.cl, nHo := hc.n1, nSp := hc.n2, nTk := hc.n3, nHm := hc.n4, nWt := hc.n5, nCr := hc.n6, nUn := hc.n7, clH := hh.cl, nT := hh.nT, nK := hh.nK, nC := hh.nC, nR := hh.nR, gHL := g_hl, FHL := h_hl.F, bHL := b_hl, any := y_any, sorted := y_sorted, enumerate := y_enumerate, list := y_list, tuple := y_tuple }
  have TKK : TxtTk K CC f_tkk d_tkk := { m := m_tkk.m, F := m_tkk.F, b := b_tkk }
  have DP : TxtDp K CC f_th f_tkk f_cl d_th d_tkk d_cl := { mTh := m_th.m, FTh := m_th.F, bTh := b_th, tk := TKK, mCl := m_cl.m, FCl := m_cl.F, bCl := b_cl }
  have AD : TxtAd K CC f_ar f_dp f_ce f_th f_tkk f_cl d_ar d_dp d_ce d_th d_tkk d_cl := { mAr := m_ar.m, FAr := m_ar.F, bAr := b_ar, mDp := m_dp.m, FDp := m_dp.F, bDp := b_dp, ce := { m := m_ce.m, F := m_ce.F, b := b_ce }, dp := DP }
  have Z : ∀ base : Heap, TxtSc l.prog w K mg base CC CH fC f_ad f_sn d_c d_ad d_sn := fun base => { gC := PySem.W.mg_of X G hc.g, M := hc.M, GI := ok_cinit hc.F C' HP TA TC, bI := b_c, mAd := m_ad.m, GA := ok_adv m_ad.F C' TA AD, bAd := b_ad, mSn := m_sn.m, GS := ok_scene m_sn.F C', bSn := b_sn, cl := hc.cl }
  have TLv : TxtLv K mg f_lv d_lv := { g := g_lv, F := h_lv.F, b := b_lv }
  have TT2 : TxtTk2 K mg f_tl d_tl := { g := g_tl, F := h_tl.F, b := b_tl }
  have FC : TxtFc K mg f_so f_fc d_so d_fc := { gSo := g_so, FSo := h_so.F, bSo := b_so, gFc := g_fc, FFc := h_fc.F, bFc := b_fc, list := y_list, cy := ⟨_, _, g_cy, h_cy.F, b_cy⟩ }
  let ecs : Nat → Addr := fun i => [c_0, c_1, c_2, c_3, c_4, c_5, c_6, c_7, C_i, c_9, c_10, c_11].getD i 0
  have NN : TxtN mg ecs CE := { gE := PySem.W.mg_of X G hE, n0 := PySem.W.mg_of X G k0.g, n1 := PySem.W.mg_of X G k1.g, n2 := PySem.W.mg_of X G k2.g, n3 := PySem.W.mg_of X G k3.g, n4 := PySem.W.mg_of X G k4.g, n5 := PySem.W.mg_of X G k5.g, n6 := PySem.W.mg_of X G k6.g, n7 := PySem.W.mg_of X G k7.g, n8 := PySem.W.mg_of X G k8.g, n9 := PySem.W.mg_of X G k9.g, n10 := PySem.W.mg_of X G k10.g, n11 := PySem.W.mg_of X G k11.g, vE := y_ValueError, isi := y_isinstance }
  have KT3 : ErrKit K ecs CE (ecs 3) 3 := by
    refine ⟨fun i hi => ?_, kit_ve s3.v, PySem.W.exm_ref x1 x2 x3 s3.e, s3.C⟩
    match i, hi with
    | 0, _ => exact kit_no k0 m3_0 a3_0
    | 1, _ => exact kit_no k1 m3_1 a3_1
    | 2, _ => exact kit_no k2 m3_2 a3_2
    | 3, _ => exact kit_self
    | 4, _ => exact kit_no k4 m3_4 a3_4
    | 5, _ => exact kit_no k5 m3_5 a3_5
    | 6, _ => exact kit_no k6 m3_6 a3_6
    | 7, _ => exact kit_no k7 m3_7 a3_7
    | 8, _ => exact kit_no k8 m3_8 a3_8
    | 9, _ => exact kit_no k9 m3_9 a3_9
    | 10, _ => exact kit_no k10 m3_10 a3_10
    | 11, _ => exact kit_no k11 m3_11 a3_11
  have ekit : ∀ j ∈ ([3] : List Nat), ErrKit K ecs CE (ecs j) j := by
    intro j hj
    simp only [List.mem_cons, List.not_mem_nil, or_false] at hj
    subst hj
    exact KT3
  have eten : ∀ j ∈ ([3] : List Nat), 10 ≤ j → XfC K (ecs j) ∧ PySem.W.findIn K (.ref (ecs j)) "place" = some none := by
    intro j hj h10
    simp only [List.mem_cons, List.not_mem_nil, or_false] at hj
    subst hj
    exact absurd h10 (by decide)
  have EK : ErK K ecs CE [3] := { lt := by decide, kit := ekit, x8 := xf8, x9 := xf9, nP := np, nI := ni, nL := nl, x10 := eten }
  have gH := PySem.W.mg_of X G hh.g
  have isH : C8.InsC K CH := ⟨hh.cl, iH1, iH2, iH3, iH4, kit_self⟩
  have FD : TxtFd K mg CH c_3 f_fd f_ip f_ctk d_fd d_ip d_ctk := { FFd := h_fd.F, gIp := g_ip, FIp := h_ip.F, bIp := b_ip, gCt := g_ctk, FCt := h_ctk.F, bCt := b_ctk, gH := gH, max := y_max, isH := isH, gD := PySem.W.mg_of X G k3.g, xD := xD, kD := kD, bD := bD, tD := tD }
  have FE : TxtFe K mg f_fe f_ig d_fe d_ig := { gFe := g_fe, FFe := h_fe.F, bFe := b_fe, gIg := g_ig, FIg := h_ig.F, bIg := b_ig, list := y_list, enumerate := y_enumerate }
  have UC : ∀ base : Heap, UseC l.prog w K mg base CH := fun base => {
    T := TA
    cB := ⟨_, _, g_be, h_be.F.kp, b_be, ok_below h_be.F TA⟩
    cAt := ⟨_, _, g_lat, h_lat.F.kp, b_lat, ok_lawat h_lat.F TA y_tuple⟩
    cFe := ⟨_, _, g_fe, h_fe.F.kp, b_fe, ok_firste2 FE TF (Z base) C'⟩
    cEq := ⟨_, _, g_eq, h_eq.F.kp, b_eq, ok_equalM h_eq.F b_eq g_eq TA TF y_list 4⟩ }
  have FO : FunC K "law" "law" sLaw fa cL_lw (PySem.W.fnOf "law" "law" (defArgs sLaw) (defBody sLaw) (defScope sLaw) .none kVl_lw docl_lw pml_lw anl_lw (.ref cL_lw) ctl_lw) := ⟨⟨_, _, _, _, _, _, _, _, rfl, ll_lw, lc_lw⟩⟩
  have U : ∀ base : Heap, LamX.TabB base mg cL_lw Pt_lw → Use l.prog w K mg base CH C_i c_3 fH f_fd f_er cL_lw Pt_lw CE d_h d_fd d_er ecs [.ref e1, .ref e2] ds2 e1 e2 := fun base TB' => {
    C := UC base, tuple := y_tuple, max := y_max, min := y_min
    cRa := ⟨_, _, g_ra, h_ra.F.kp, b_ra, ok_random h_ra.F TA⟩
    cPa := ⟨_, _, g_pa, h_pa.F.kp, b_pa, ok_partsN h_pa.F TA TB TD⟩
    cHo := ⟨_, _, g_hs, h_hs.F.kp, b_hs, ok_housef h_hs.F TA TC TF TI TH TL' hh.FH b_h hh.M gH⟩
    cCy := ⟨_, _, g_cyl, h_cyl.F.kp, b_cyl, ok_cycle h_cyl.F TA TD TLv TT2 y_list⟩
    cCk := ⟨_, _, g_lck, h_lck.F.kp, b_lck, ok_checks h_lck.F (UC base)⟩
    GFd := ok_firstd FD y_isinstance y_tuple TA TC HP C' (Z base) FC
    gFd := g_fd, kFd := h_fd.F.kp, bFd := b_fd
    N := NN, EK := EK, eCD := rfl, gE := g_er, FE := h_er.F, bE := b_er, TB := TB'
    M := hh.M, GH := ok_init hh.FH TA TC TF TI TH TL', gH := gH, bH2 := b_h2, hd2 := hd2, hdv := rfl, he1 := hh.z1, he2 := hh.z2 }

  refine ⟨PySem.W.fnOf "law" "law" (defArgs sLaw) (defBody sLaw) (defScope sLaw) .none kVl_lw docl_lw pml_lw anl_lw (.ref cL_lw) ctl_lw, [(cL_lw, Pt_lw)], spLaw K Pt_lw, fun p hp => ?_, fun p hp => ?_, fun p hp => ?_, fun s u => .of_eq rfl, fun H a ns hl _ hT hS => ?_, fun base hb hg hTB => ?_⟩
  · rw [List.mem_singleton.mp hp]; exact tabE_lw
  · rw [List.mem_singleton.mp hp]; exact nPx_lw
  · rw [List.mem_singleton.mp hp]; exact PySem.W.codeHd_of_K X hC_lw
  · exact ⟨a, ns, rfl, hS, hl, fun p hp => by rw [List.mem_singleton.mp hp]; exact LamX.TabS.nil (hT _ (List.mem_singleton.mpr rfl)), fun _ => rfl⟩
  · have TB_lw := hTB (cL_lw, Pt_lw) (by simp)
    exact ok_law FO (U base TB_lw)
end Dk

open PySem PySem.W PyProof.Rows
set_option Elab.async false
set_option maxRecDepth 100000 in
set_option maxHeartbeats 0 in
open_top hd for PySem.Challenge.rw_doorkeys_k10_first_differences

set_option Elab.async false
set_option linter.all false
open PySem PySem.W PyProof.Rows
set_option maxRecDepth 100000 in
set_option maxHeartbeats 0 in
theorem PySem.Challenge.cw_doorkeys_k10_first_differences_holds : PySem.Challenge.rw_doorkeys_k10_first_differences.Holds :=
  hd (by
  k_fill
  refine LamX.walk_ofTs (l := PySem.Challenge.rw_doorkeys_k10_first_differences) (n := 63) (k := 15) (x := "_law_script") (CX := fun _ => L2.CX0) rfl (by decide) rfl ⟨rfl, by decide, by decide⟩ (fun w h Y => PySem.W.km_in_of Y) ?F (fun _ _ _ _ _ z => z)
  case F =>
    intro w mg fa h Y KX G hmg
    refine' Dk.all_mk KX G hmg ?h_ii ?h_ib ?h_pe ?h_ct ?h_ck ?h_cc ?h_cr ?h_it ?h_ir ?h_as ?h_ho ?h_hl ?h_so ?h_fc ?h_cy ?h_ra ?h_be ?h_ta ?h_le ?h_pa ?h_eq ?h_hs ?h_lv ?h_tl ?h_cyl ?h_fd ?h_ip ?h_ctk ?h_fe ?h_ig ?h_er ?h_lat ?h_lck ?m_ad ?m_sn ?m_ar ?m_ce ?m_dp ?m_th ?m_tkk ?m_cl ?p_pP ?p_pS ?e_i ?np ?ni ?hh ?hc ?hE ?x1 ?x2 ?x3 ?k0 ?k1 ?k2 ?k3 ?k4 ?k5 ?k6 ?k7 ?k8 ?k9 ?k10 ?k11 ?s3 ?a3_0 ?m3_0 ?a3_1 ?m3_1 ?a3_2 ?m3_2 ?a3_4 ?m3_4 ?a3_5 ?m3_5 ?a3_6 ?m3_6 ?a3_7 ?m3_7 ?a3_8 ?m3_8 ?a3_9 ?m3_9 ?a3_10 ?m3_10 ?a3_11 ?m3_11 ?xf8 ?xf9 ?nl ?gl_lw ?ll_lw ?lc_lw ?kl_lw ?tabE_lw ?hC_lw ?nPx_lw ?c1 ?c3 ?c4 ?c5 ?c6 ?zl ?z_abs ?z_len ?z_range ?z_tuple ?z_sorted ?z_enumerate ?z_isinstance ?z_int ?z_bool ?z_str ?z_all ?z_list ?z_any ?z_max ?z_min ?z_ValueError ?iH1 ?iH2 ?iH3 ?iH4 ?xD ?kD ?bD ?tD
    (case h_ii => refine' Dk.fnAt_mk ?a ?l ?c ?k; (case a => k_is); (case l => k_is); (case c => k_is); (case k => k_is))
    (case h_ib => refine' Dk.fnAt_mk ?a ?l ?c ?k; (case a => k_is); (case l => k_is); (case c => k_is); (case k => k_is))
    (case h_pe => refine' Dk.fnAt_mk ?a ?l ?c ?k; (case a => k_is); (case l => k_is); (case c => k_is); (case k => k_is))
    (case h_ct => refine' Dk.fnAt_mk ?a ?l ?c ?k; (case a => k_is); (case l => k_is); (case c => k_is); (case k => k_is))
    (case h_ck => refine' Dk.fnAt_mk ?a ?l ?c ?k; (case a => k_is); (case l => k_is); (case c => k_is); (case k => k_is))
    (case h_cc => refine' Dk.fnAt_mk ?a ?l ?c ?k; (case a => k_is); (case l => k_is); (case c => k_is); (case k => k_is))
    (case h_cr => refine' Dk.fnAt_mk ?a ?l ?c ?k; (case a => k_is); (case l => k_is); (case c => k_is); (case k => k_is))
    (case h_it => refine' Dk.fnAt_mk ?a ?l ?c ?k; (case a => k_is); (case l => k_is); (case c => k_is); (case k => k_is))
    (case h_ir => refine' Dk.fnAt_mk ?a ?l ?c ?k; (case a => k_is); (case l => k_is); (case c => k_is); (case k => k_is))
    (case h_as => refine' Dk.fnAt_mk ?a ?l ?c ?k; (case a => k_is); (case l => k_is); (case c => k_is); (case k => k_is))
    (case h_ho => refine' Dk.fnAt_mk ?a ?l ?c ?k; (case a => k_is); (case l => k_is); (case c => k_is); (case k => k_is))
    (case h_hl => refine' Dk.fnAt_mk ?a ?l ?c ?k; (case a => k_is); (case l => k_is); (case c => k_is); (case k => k_is))
    (case h_so => refine' Dk.fnAt_mk ?a ?l ?c ?k; (case a => k_is); (case l => k_is); (case c => k_is); (case k => k_is))
    (case h_fc => refine' Dk.fnAt_mk ?a ?l ?c ?k; (case a => k_is); (case l => k_is); (case c => k_is); (case k => k_is))
    (case h_cy => refine' Dk.fnAt_mk ?a ?l ?c ?k; (case a => k_is); (case l => k_is); (case c => k_is); (case k => k_is))
    (case h_ra => refine' Dk.fnAt_mk ?a ?l ?c ?k; (case a => k_is); (case l => k_is); (case c => k_is); (case k => k_is))
    (case h_be => refine' Dk.fnAt_mk ?a ?l ?c ?k; (case a => k_is); (case l => k_is); (case c => k_is); (case k => k_is))
    (case h_ta => refine' Dk.fnAt_mk ?a ?l ?c ?k; (case a => k_is); (case l => k_is); (case c => k_is); (case k => k_is))
    (case h_le => refine' Dk.fnAt_mk ?a ?l ?c ?k; (case a => k_is); (case l => k_is); (case c => k_is); (case k => k_is))
    (case h_pa => refine' Dk.fnAt_mk ?a ?l ?c ?k; (case a => k_is); (case l => k_is); (case c => k_is); (case k => k_is))
    (case h_eq => refine' Dk.fnAt_mk ?a ?l ?c ?k; (case a => k_is); (case l => k_is); (case c => k_is); (case k => k_is))
    (case h_hs => refine' Dk.fnAt_mk ?a ?l ?c ?k; (case a => k_is); (case l => k_is); (case c => k_is); (case k => k_is))
    (case h_lv => refine' Dk.fnAt_mk ?a ?l ?c ?k; (case a => k_is); (case l => k_is); (case c => k_is); (case k => k_is))
    (case h_tl => refine' Dk.fnAt_mk ?a ?l ?c ?k; (case a => k_is); (case l => k_is); (case c => k_is); (case k => k_is))
    (case h_cyl => refine' Dk.fnAt_mk ?a ?l ?c ?k; (case a => k_is); (case l => k_is); (case c => k_is); (case k => k_is))
    (case h_fd => refine' Dk.fnAt_mk ?a ?l ?c ?k; (case a => k_is); (case l => k_is); (case c => k_is); (case k => k_is))
    (case h_ip => refine' Dk.fnAt_mk ?a ?l ?c ?k; (case a => k_is); (case l => k_is); (case c => k_is); (case k => k_is))
    (case h_ctk => refine' Dk.fnAt_mk ?a ?l ?c ?k; (case a => k_is); (case l => k_is); (case c => k_is); (case k => k_is))
    (case h_fe => refine' Dk.fnAt_mk ?a ?l ?c ?k; (case a => k_is); (case l => k_is); (case c => k_is); (case k => k_is))
    (case h_ig => refine' Dk.fnAt_mk ?a ?l ?c ?k; (case a => k_is); (case l => k_is); (case c => k_is); (case k => k_is))
    (case h_er => refine' Dk.fnAt_mk ?a ?l ?c ?k; (case a => k_is); (case l => k_is); (case c => k_is); (case k => k_is))
    (case h_lat => refine' Dk.fnAt_mk ?a ?l ?c ?k; (case a => k_is); (case l => k_is); (case c => k_is); (case k => k_is))
    (case h_lck => refine' Dk.fnAt_mk ?a ?l ?c ?k; (case a => k_is); (case l => k_is); (case c => k_is); (case k => k_is))
    (case e_i => refine' Dk.errAt_mk ?a ?xL ?sa ?eC ?tC ?kC ?i ?t ?l ?c ?k; (case a => k_is); (case xL => k_is); (case sa => k_is); (case eC => k_is); (case tC => k_is); (case kC => k_is); (case i => k_is); (case t => k_is); (case l => k_is); (case c => k_is); (case k => k_is))
    (case np => k_is)
    (case ni => k_is)
    (case hh => refine' Dk.houAt_mk ?qg ?qpg ?qhd ?qpo ?qsa ?qn1 ?qn2 ?qn3 ?qn4 ?qmk ?qi ?qfn ?qkc ?qlH ?qcH ?qkH ?qlT ?ql1 ?ql2; (case qg => k_is); (case qpg => k_is); (case qhd => k_is); (case qpo => k_is); (case qsa => k_is); (case qn1 => k_is); (case qn2 => k_is); (case qn3 => k_is); (case qn4 => k_is); (case qmk => k_is); (case qi => k_is); (case qfn => k_is); (case qkc => k_is); (case qlH => k_is); (case qcH => k_is); (case qkH => k_is); (case qlT => k_is); (case ql1 => k_is); (case ql2 => k_is))
    (case hc => refine' Dk.couAt_mk ?qg ?qpg ?qhd ?qpo ?qsa ?qn1 ?qn2 ?qn3 ?qn4 ?qn5 ?qn6 ?qn7 ?qmk ?qi ?qfn ?qkc ?ql ?qc ?qk; (case qg => k_is); (case qpg => k_is); (case qhd => k_is); (case qpo => k_is); (case qsa => k_is); (case qn1 => k_is); (case qn2 => k_is); (case qn3 => k_is); (case qn4 => k_is); (case qn5 => k_is); (case qn6 => k_is); (case qn7 => k_is); (case qmk => k_is); (case qi => k_is); (case qfn => k_is); (case qkc => k_is); (case ql => k_is); (case qc => k_is); (case qk => k_is))
    (case hE => k_is)
    (case x1 => k_is)
    (case x2 => k_is)
    (case x3 => k_is)
    (case k0 => refine' Dk.ClsAt.mk ?a ?b ?c; (case a => k_is); (case b => k_is); (case c => k_is))
    (case k1 => refine' Dk.ClsAt.mk ?a ?b ?c; (case a => k_is); (case b => k_is); (case c => k_is))
    (case k2 => refine' Dk.ClsAt.mk ?a ?b ?c; (case a => k_is); (case b => k_is); (case c => k_is))
    (case k3 => refine' Dk.ClsAt.mk ?a ?b ?c; (case a => k_is); (case b => k_is); (case c => k_is))
    (case k4 => refine' Dk.ClsAt.mk ?a ?b ?c; (case a => k_is); (case b => k_is); (case c => k_is))
    (case k5 => refine' Dk.ClsAt.mk ?a ?b ?c; (case a => k_is); (case b => k_is); (case c => k_is))
    (case k6 => refine' Dk.ClsAt.mk ?a ?b ?c; (case a => k_is); (case b => k_is); (case c => k_is))
    (case k7 => refine' Dk.ClsAt.mk ?a ?b ?c; (case a => k_is); (case b => k_is); (case c => k_is))
    (case k8 => refine' Dk.ClsAt.mk ?a ?b ?c; (case a => k_is); (case b => k_is); (case c => k_is))
    (case k9 => refine' Dk.ClsAt.mk ?a ?b ?c; (case a => k_is); (case b => k_is); (case c => k_is))
    (case k10 => refine' Dk.ClsAt.mk ?a ?b ?c; (case a => k_is); (case b => k_is); (case c => k_is))
    (case k11 => refine' Dk.ClsAt.mk ?a ?b ?c; (case a => k_is); (case b => k_is); (case c => k_is))
    (case gl_lw => k_is)
    (case ll_lw => k_is)
    (case lc_lw => k_is)
    (case kl_lw => k_is)
    (case tabE_lw => exact PySem.W.km_tabs_of Y _ (List.mem_singleton.mpr rfl))
    (case hC_lw => first | k_is | exact rfl)
    (case nPx_lw => first | k_is | exact rfl)
    (case c1 => refine' Dk.tupAt_mk ?a ?b ?z ?v; (case a => k_is); (case b => k_is); (case z => decide); (case v => repeat (first | exact .nil | refine .cons rfl ?_ | refine .cons ⟨_, rfl⟩ ?_)))
    (case c3 => refine' Dk.intAt_mk ?a; (case a => k_is))
    (case c4 => refine' Dk.intAt_mk ?a; (case a => k_is))
    (case c5 => refine' Dk.intAt_mk ?a; (case a => k_is))
    (case c6 => refine' Dk.strAt_mk ?a; (case a => k_is))
    (case zl => k_is)
    (case z_abs => k_is)
    (case z_len => k_is)
    (case z_range => k_is)
    (case z_tuple => k_is)
    (case z_sorted => k_is)
    (case z_enumerate => k_is)
    (case z_isinstance => k_is)
    (case z_int => k_is)
    (case z_bool => k_is)
    (case z_str => k_is)
    (case z_all => k_is)
    (case z_list => k_is)
    (case z_any => k_is)
    (case z_max => k_is)
    (case z_min => k_is)
    (case z_ValueError => k_is)
    (case iH1 => k_is)
    (case iH2 => k_is)
    (case iH3 => k_is)
    (case iH4 => k_is)
    (case xD => k_exc)
    (case kD => k_is)
    (case bD => k_is)
    (case tD => k_is)
    (case m_ad => refine' Dk.metAt_mk ?a ?n ?l ?c ?k; (case a => k_is); (case n => k_is); (case l => k_is); (case c => k_is); (case k => k_is))
    (case m_sn => refine' Dk.metAt_mk ?a ?n ?l ?c ?k; (case a => k_is); (case n => k_is); (case l => k_is); (case c => k_is); (case k => k_is))
    (case m_ar => refine' Dk.metAt_mk ?a ?n ?l ?c ?k; (case a => k_is); (case n => k_is); (case l => k_is); (case c => k_is); (case k => k_is))
    (case m_ce => refine' Dk.metAt_mk ?a ?n ?l ?c ?k; (case a => k_is); (case n => k_is); (case l => k_is); (case c => k_is); (case k => k_is))
    (case m_dp => refine' Dk.metAt_mk ?a ?n ?l ?c ?k; (case a => k_is); (case n => k_is); (case l => k_is); (case c => k_is); (case k => k_is))
    (case m_th => refine' Dk.metAt_mk ?a ?n ?l ?c ?k; (case a => k_is); (case n => k_is); (case l => k_is); (case c => k_is); (case k => k_is))
    (case m_tkk => refine' Dk.metAt_mk ?a ?n ?l ?c ?k; (case a => k_is); (case n => k_is); (case l => k_is); (case c => k_is); (case k => k_is))
    (case m_cl => refine' Dk.metAt_mk ?a ?n ?l ?c ?k; (case a => k_is); (case n => k_is); (case l => k_is); (case c => k_is); (case k => k_is))
    (case p_pP => refine' Dk.prpAt_mk ?a ?g ?t ?r ?l ?c ?k; (case a => k_is); (case g => k_is); (case t => k_is); (case r => k_is); (case l => k_is); (case c => k_is); (case k => k_is))
    (case p_pS => refine' Dk.prpAt_mk ?a ?g ?t ?r ?l ?c ?k; (case a => k_is); (case g => k_is); (case t => k_is); (case r => k_is); (case l => k_is); (case c => k_is); (case k => k_is))
    (case s3 => refine' Dk.subAt_mk ?qv ?qe ?qhg ?qhk ?qhs ?qhd ?qha ?qhn ?qht ?qhm; (case qv => k_is); (case qe => k_is); (case qhg => k_is); (case qhk => k_is); (case qhs => k_is); (case qhd => k_is); (case qha => k_is); (case qhn => k_is); (case qht => k_is); (case qhm => k_is))
    (case a3_0 => k_is)
    (case m3_0 => decide)
    (case a3_1 => k_is)
    (case m3_1 => decide)
    (case a3_2 => k_is)
    (case m3_2 => decide)
    (case a3_4 => k_is)
    (case m3_4 => decide)
    (case a3_5 => k_is)
    (case m3_5 => decide)
    (case a3_6 => k_is)
    (case m3_6 => decide)
    (case a3_7 => k_is)
    (case m3_7 => decide)
    (case a3_8 => k_is)
    (case m3_8 => decide)
    (case a3_9 => k_is)
    (case m3_9 => decide)
    (case a3_10 => k_is)
    (case m3_10 => decide)
    (case a3_11 => k_is)
    (case m3_11 => decide)
    (case xf8 => refine' L2.XfC.mk ?a ?b ?c ?d; (case a => k_is); (case b => k_is); (case c => k_is); (case d => k_is))
    (case xf9 => refine' L2.XfC.mk ?a ?b ?c ?d; (case a => k_is); (case b => k_is); (case c => k_is); (case d => k_is))
    (case nl => k_is)
    )
