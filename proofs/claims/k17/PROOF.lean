import PyProof.Rows.All
import Wide.All
import OpenK.AllK
import Wide.FinOn
import HandS.Base
import HandS.Call
import HandS.List
import HandS.Comp
import HandS.Dict
import HandS.Iter
import HandS.Text
import HandS.More
import HandS.Ends
import HandS.Words
import HandS.Defaults
import HandS.Gcd
import KE.KMathG
import HandS.Deep
import HandS.SortRule
import HandS.Walk
import KE.GoesEnum
import HandS.IsInst
import HandS.WordsExc
import HandS.ExcInit
import HandS.NoneIn
import KE.KUnpackStar
import HandS.Star
import HandS.FStr
import HandS.Property
import HandS.ClsMeth
import HandS.Replace
import HandS.ForMost
import HandS.ForExc
import KE.KDictKeyed
import PyProof.Rows.TupTab
import HandS.SortInts
import HandS.Conv
import HandS.GenBody
import HandS.GenYield
import HandS.GenCall
import HandS.GenList
import HandS.Exc
import KE.KAsSuite
import PyProof.EnumMake
import PyProof.EnumFor
import HandS.ExcIs
import HandS.ExcField
import HandS.Lambda
import HandS.SetFor
import HandS.TupAny
import KE.KNestM
import HandS.EndOwn
import PySem.Challenge.RW_doorkeys_k17_invalid_bytes
set_option Elab.async false
set_option linter.all false
set_option maxRecDepth 100000
set_option maxHeartbeats 4000000
namespace Dk
open PySem PySem.Spec PyProof.Rows L2
/-! ### the text by places -/
def top (i : Nat) : Stmt := PySem.Challenge.pw_doorkeys_k17_invalid_bytes.main.body.getD i (.Pass ⟨0, 0, 0, 0⟩)
abbrev sIsInt : Stmt := top 17
abbrev sIsBelow : Stmt := top 18
abbrev sPeriod : Stmt := top 28
abbrev sChkTables : Stmt := top 29
abbrev sChkKeys : Stmt := top 30
abbrev sChkCareful : Stmt := top 31
abbrev sChkRem : Stmt := top 32
abbrev sIsTable : Stmt := top 33
abbrev sIsRem : Stmt := top 34
abbrev sAsc : Stmt := top 35
abbrev sHasOnly : Stmt := top 36
abbrev sRandom : Stmt := top 58
abbrev sBelow : Stmt := top 60
abbrev sTable : Stmt := top 61
abbrev sLength : Stmt := top 62
abbrev sParts : Stmt := top 63
abbrev sHouseF : Stmt := top 59
abbrev sLaw : Stmt := top 65
abbrev sErrOf : Stmt := top 64
abbrev sEncode : Stmt := top 50
abbrev sDecode : Stmt := top 51
abbrev sChksum : Stmt := top 52
abbrev sRdTable : Stmt := top 54
abbrev sRdCareful : Stmt := top 55
abbrev sRdPairs : Stmt := top 56
abbrev sSplitT : Stmt := top 37
abbrev sAreArgs : Stmt := top 38
abbrev sIsTW : Stmt := top 39
abbrev sIsNW : Stmt := top 40
abbrev sIsRW : Stmt := top 41
abbrev sReadNs : Stmt := top 42
abbrev sReadRs : Stmt := top 43
abbrev sKeysL : Stmt := top 44
abbrev sCarL : Stmt := top 45
abbrev sRemL : Stmt := top 46
abbrev sInit : Stmt := inClass (top 27) 0
abbrev sPersonsP : Stmt := inClass (top 27) 1
abbrev sPeriodP : Stmt := inClass (top 27) 2
abbrev sText : Stmt := inClass (top 27) 3
abbrev sParse : Stmt := inClass (top 27) 4
abbrev sWantsH : Stmt := inClass (top 27) 5
abbrev sTFInit : Stmt := inClass (top 11) 0
abbrev sICInit : Stmt := inClass (top 12) 0
abbrev sIOInit : Stmt := inClass (top 15) 0
abbrev sRInit : Stmt := inClass (top 53) 0
abbrev sTakeR : Stmt := inClass (top 53) 1
abbrev sTakeB : Stmt := inClass (top 53) 2
abbrev sWants : Stmt := inClass (top 27) 5

/-! ### heaps -/
theorem sSqT {K : PySem.W.Frag} {H H' : Hp} {a : Addr} {xs : List V} (e : Same H H') (h : SqT K H a xs) : SqT K H' a xs := by
  rcases h with (h | ⟨o, h⟩) | h
  · exact .inl (.inl (e _ _ h))
  · exact .inl (.inr ⟨o, e _ _ h⟩)
  · exact .inr h
theorem same_upd {H : Hp} {p : Addr} {o : HO} (h : H p = none) : Same H (upd H p o) := fun b u e => by
  rw [upd_ne (ne_of_none e h)]; exact e
/-- all that was tracked is as it was, but at l -/
def Kp (l : Addr) (H H' : Hp) : Prop := ∀ b o, b ≠ l → H b = some o → H' b = some o
theorem sKp {l : Addr} {H H' : Hp} (s : Same H H') : Kp l H H' := fun b o _ e => s b o e
theorem Kp.refl {l : Addr} {H : Hp} : Kp l H H := fun _ _ _ e => e
theorem Kp.trans {l : Addr} {H H1 H2 : Hp} (a : Kp l H H1) (b : Kp l H1 H2) : Kp l H H2 := fun c o n e => b c o n (a c o n e)
theorem kp_upd {l : Addr} {H : Hp} {o : HO} : Kp l H (upd H l o) := fun b u n e => by rw [upd_ne n]; exact e
theorem Kp.same {l : Addr} {H H' : Hp} (k : Kp l H H') (h : ∀ o, H l = some o → H' l = some o) : Same H H' := fun b o e => by
  by_cases n : b = l
  · subst n; exact h o e
  · exact k b o n e
theorem Kp.sqT {K : PySem.W.Frag} {l : Addr} {xs : List V} {ys : List V} {H H' : Hp} {a : Addr} (k : Kp l H H') (hl : H l = some (.lst ys)) (h : SqT K H a xs) : SqT K H' a xs := by
  rcases h with (h | ⟨o, h⟩) | h
  · exact .inl (.inl (k _ _ (fun e => by rw [e, hl] at h; cases h) h))
  · exact .inl (.inr ⟨o, k _ _ (fun e => by rw [e, hl] at h; cases h) h⟩)
  · exact .inr h
/-- a list other than l stays -/
theorem Kp.lst {l : Addr} {xs : List V} {H H' : Hp} {a : Addr} (k : Kp l H H') (n : a ≠ l) (h : H a = some (.lst xs)) : H' a = some (.lst xs) := k _ _ n h

theorem take_more {α : Type} {l : List α} {i : Nat} {x : α} (h : l[i]? = some x) : l.take (i + 1) = l.take i ++ [x] := by
  rw [List.take_add_one, h]
  rfl
theorem map_at {α : Type} {f : α → V} {l : List α} {i : Nat} {y : V} (h : (l.map f)[i]? = some y) : ∃ z, l[i]? = some z ∧ y = f z := by
  rw [List.getElem?_map] at h
  cases e : l[i]? with
  | none => rw [e] at h; cases h
  | some z => rw [e] at h; exact ⟨z, rfl, (Option.some.inj h).symm⟩

/-! ### the law's source of numbers -/
/-- what is always true of the source's list -/
structure Good (st : List Int) : Prop where
  ex : ∃ s0 s1 r, st = s0 :: s1 :: r ∧ 0 ≤ s0 ∧ s0 < 2147483647 ∧ 0 ≤ s1 ∧ (∀ z ∈ r, (0 : Int) ≤ z) ∧ r.length ≤ 63

def spRandom (K : PySem.W.Frag) : Sp := fun vs H Q _ => ∃ (a : Addr) (ns : List Int) (salt : Int), vs = [.ref a, .int salt] ∧ SqL K H a (ns.map V.int) ∧ ns.length ≤ 63 ∧ 0 ≤ salt ∧ salt < 2147483647 ∧
  ∀ (H' : Hp) (p : Addr) (st : List Int), Same H H' → H p = none → H' p = some (.lst (st.map V.int)) → Good st → Q (.ref p) H'
structure TxtA (mg : Str → Option Value) : Prop where
  abs : mg "abs" = none
  len : mg "len" = none
  range : mg "range" = none

section
variable {P : Program} {w : World} {K : PySem.W.Frag} {mg : Str → Option Value} {base : Heap}
theorem scRandom : FnScope ["_law_script", "_law_salt", "_law_seed", "_law_cell"] ["_law_script", "_law_salt"] (defScope sRandom) := ⟨rfl, rfl, rfl, by decide +kernel, rfl, by decide +kernel, by decide +kernel⟩
theorem ok_random {f : Addr} {fd : FuncData} (F : Fun K "_law_random" "_law_random" sRandom f fd) (T : TxtA mg) : FnOk P w K mg base CX0 1 f fd ["_law_script", "_law_salt"] (spRandom K) := by
  refine F.ok scRandom (fun vs H Q E h => ?_) (fun cdv A outer s H vs Q E hr h => ?_)
  · obtain ⟨a, ns, salt, rfl, _⟩ := h
    rfl
  · obtain ⟨a, ns, salt, rfl, hS, hlen, hs0, hs1, k⟩ := h
    refine ⟨_, pss_cons (ps_set (i := 2) scRandom.nd rfl (.inl rfl) (pv 1))
      (pss_cons (ps_for PassesOwn.never rfl (pi_list (pv 0)) (pg_name (i := 3) scRandom.nd rfl (.inl rfl))
        (pss_one (ps_set (i := 2) scRandom.nd rfl (.inl rfl) (pe_op op_mod (pe_op op_add (pe_op op_mul (pv 2) pe_int) (pe_callB call_abs (by rfl) T.abs (by decide +kernel) (pa_cons (pv 3) pa_nil))) pe_int))))
      (pss_one (ps_ret (pe_op op_cat (pe_lst (pa_cons (pv 2) (pa_cons pe_int pa_nil)))
        (pe_lc (own := [("_law_cell", 3)]) (g := gName 3) (by rfl) scRandom.nd (pi_list (pv 0)) (blkOk_by (N := ["_law_script", "_law_salt", "_law_seed", "_law_cell"]) (sc := defScope sRandom) (by decide +kernel))
          (fun _ _ _ _ _ => pg_name (i := 3) scRandom.nd rfl (Or.inl rfl)) (fun _ _ _ _ _ => pts_one (pt_cmpR op_ge (pv 3) (pe_op op_pow pe_int pe_int) (nomark _))) (fun _ _ _ _ _ => pv 3)))))), ?_⟩
    refine ⟨_, rfl, ?_⟩
    refine ⟨_, rfl, a, rfl, ⟨_, hS⟩, for_list (K := K) (a := a) (xs := ns.map V.int) (fun i σ H' => ∃ (z : Int) (v : Option V), σ = [some (.ref a), some (.int salt), some (.int z), v] ∧ H' = H ∧ 0 ≤ z ∧ z < 2147483647)
      ⟨salt, none, rfl, rfl, hs0, hs1⟩ (fun i σ H' _ ⟨_, _, _, e, _⟩ => by rw [e]; exact hS) ?_ ?_⟩
    · rintro i y σ H' hi ⟨z, v, rfl, rfl, h0, h1⟩
      obtain ⟨u, hu, rfl⟩ := map_at hi
      refine ⟨_, rfl, _, _, rfl, rfl, .inl ⟨by omega, by omega⟩, _, rfl, _, rfl, _, _, rfl, rfl, _, _, rfl, rfl, (by show (0 : Int) < 2147483647; decide), ?_⟩
      exact ⟨_, _, rfl, rfl, Int.emod_nonneg _ (by decide), Int.emod_lt_of_pos _ (by decide)⟩
    · rintro σ H' ⟨z, v, rfl, rfl, h0, h1⟩
      refine ⟨_, rfl, (by show 2 ≤ sizeLine; decide), fun l hl => ?_⟩
      have s1 : Same H' (upd H' l (.lst [.int z, .int 0])) := same_upd hl
      refine ⟨_, rfl, a, rfl, ⟨_, s1.seq hS⟩, fun D hD => lc_list (K := K) (a := a) (xs := ns.map V.int)
        (fun i H2 => ∃ r : List Int, Same (upd H' l (.lst [.int z, .int 0])) H2 ∧ H2 D = some (.lst (r.map V.int)) ∧ r.length ≤ i ∧ ∀ x : Int, x ∈ r → 0 ≤ x)
        ⟨[], same_upd hD, upd_same, Nat.le_refl _, fun x hx => by cases hx⟩ (fun i H2 _ ⟨_, e, _⟩ => e.seq (s1.seq hS)) ?_ ?_⟩
      · rintro i y H2 hi ⟨r, e2, eD, hr1, hr2⟩
        obtain ⟨u, hu, rfl⟩ := map_at hi
        have hil : i < ns.length := (List.getElem?_eq_some_iff.mp hu).1
        refine ⟨rfl, _, rfl, _, _, rfl, rfl, ?_, _, _, rfl, rfl, _, rfl, ite2 (fun c => ?_) (fun c => ?_)⟩
        · exact ⟨by decide, by decide, by decide⟩
        · refine ⟨_, rfl, _, eD, ?_, r ++ [u], fun b o eb => ?_, ?_, ?_, fun x hx => ?_⟩
          · rw [List.length_map]; exact Nat.lt_of_le_of_lt (by omega : r.length ≤ 1000) (by decide)
          · have nb : b ≠ D := ne_of_none eb hD
            rw [upd_ne nb]; exact e2 _ _ eb
          · rw [upd_same]; simp
          · rw [List.length_append, List.length_singleton]; omega
          · rcases List.mem_append.mp hx with hx | hx
            · exact hr2 x hx
            · rw [List.mem_singleton] at hx
              subst hx
              have c' : (10 : Int) ^ (18 : Int).toNat ≤ x := of_decide_eq_true c
              exact Int.le_trans (by decide) c'
        · exact ⟨r, e2, eD, by omega, hr2⟩
      · rintro H2 ⟨r, e2, eD, hr1, hr2⟩
        rw [List.length_map] at hr1
        have el : H2 l = some (.lst [.int z, .int 0]) := e2 _ _ upd_same
        refine ⟨_, _, _, _, rfl, rfl, el, eD, ?_, fun p hp => ?_⟩
        · simp only [List.length_cons, List.length_nil, List.length_map]
          exact Nat.le_trans (by omega : _ ≤ 1000) (by decide)
        · have s2 : Same H' H2 := s1.trans e2
          refine k _ p (z :: 0 :: r) (s2.trans (same_upd hp)) (s2.free hp) (by rw [upd_same]; rfl) ⟨⟨z, 0, r, rfl, h0, h1, Int.le_refl _, hr2, by omega⟩⟩
end
end Dk

set_option Elab.async false
set_option linter.all false
set_option maxRecDepth 100000
set_option maxHeartbeats 4000000
namespace Dk
open PySem PySem.Spec PyProof.Rows L2
theorem at0 {a : V} {l : List V} : atI (a :: l) 0 = some a := atI_nat (j := 0) rfl
theorem at1 {a b : V} {l : List V} : atI (a :: b :: l) 1 = some b := atI_nat (j := 1) rfl
theorem at2 {a b c : V} {l : List V} : atI (a :: b :: c :: l) 2 = some c := atI_nat (j := 2) rfl
theorem at3 {a b c e : V} {l : List V} : atI (a :: b :: c :: e :: l) 3 = some e := atI_nat (j := 3) rfl
theorem ix0 {a : V} {l : List V} : ixN (a :: l).length 0 = some 0 := by
  unfold ixN; rw [if_pos (by decide), if_pos (by rw [List.length_cons]; omega)]; rfl
theorem ix1 {a b : V} {l : List V} : ixN (a :: b :: l).length 1 = some 1 := by
  unfold ixN; rw [if_pos (by decide), if_pos (by rw [List.length_cons, List.length_cons]; omega)]; rfl
theorem sq2 {a b c : V} {l : List V} : seqIndex? 2 (a :: b :: c :: l).length = some 2 := (ixN_seq (by
  unfold ixN; rw [if_pos (by decide), if_pos (by rw [List.length_cons, List.length_cons, List.length_cons]; omega)]; rfl)).1
def spBelow : Sp := fun vs H Q _ => ∃ (d : Addr) (lim : Int) (st : List Int), vs = [.ref d, .int lim] ∧ H d = some (.lst (st.map V.int)) ∧ Good st ∧ 1 ≤ lim ∧ lim < 1073741824 ∧
  ∀ (H' : Hp) (st' : List Int) (r : Int), Kp d H H' → H' d = some (.lst (st'.map V.int)) → Good st' → 0 ≤ r → r < lim → Q (.int r) H'
section
variable {P : Program} {w : World} {K : PySem.W.Frag} {mg : Str → Option Value} {base : Heap}
theorem scBelow : FnScope ["_law_d", "_law_limit", "_law_result"] ["_law_d", "_law_limit"] (defScope sBelow) := ⟨rfl, rfl, rfl, by decide +kernel, rfl, by decide +kernel, by decide +kernel⟩
theorem ok_below {f : Addr} {fd : FuncData} (F : Fun K "_law_below" "_law_below" sBelow f fd) (T : TxtA mg) : FnOk P w K mg base CX0 1 f fd ["_law_d", "_law_limit"] spBelow := by
  refine F.ok scBelow (fun vs H Q E h => ?_) (fun cdv A outer s H vs Q E hr h => ?_)
  · obtain ⟨d, lim, st, rfl, _⟩ := h
    rfl
  · obtain ⟨d, lim, st, rfl, hd, ⟨s0, s1, r, rfl, h0, h1, h2, h3, h4⟩, hl1, hl2, k⟩ := h
    refine ⟨_, pss_cons (ps_if (PW.pt (pw_and (pt_cmpR op_eq (pe_ix ix_list (pv 0) pe_int (fun _ _ => rfl)) pe_int (nomark _)) (pw_and1 (pt_cmpR op_gt (pe_callB call_len_seq (by rfl) T.len PySem.boot_len (pa_cons (pv 0) pa_nil)) pe_int (nomark _)))))
        (pss_one (ps_asg (pe_bm PySem.F.plainAttrs_list PySem.F.slot_list_pop PySem.F.type_list_pop mt_popAt (pv 0) (pa_cons pe_int pa_nil)) (pg_sub (pv 0) pe_int set_list))) pss_nil)
      (pss_cons (ps_if (pt_cmpR op_gt (pe_ix ix_list (pv 0) pe_int (fun _ _ => rfl)) pe_int (nomark _))
        (pss_cons (ps_set (i := 2) scBelow.nd rfl (.inl rfl) (pe_op op_modN (pe_ix ix_list (pv 0) pe_int (fun _ _ => rfl)) (pv 1)))
        (pss_cons (ps_asg (pe_op op_fdivN (pe_ix ix_list (pv 0) pe_int (fun _ _ => rfl)) (pv 1)) (pg_sub (pv 0) pe_int set_list))
        (pss_one (ps_ret (pv 2))))) pss_nil)
      (pss_cons (ps_asg (pe_op op_mod (pe_op op_add (pe_op op_mul (pe_ix ix_list (pv 0) pe_int (fun _ _ => rfl)) pe_int) pe_int) pe_int) (pg_sub (pv 0) pe_int set_list))
      (pss_one (ps_ret (pe_op op_modN (pe_op op_fdiv (pe_ix ix_list (pv 0) pe_int (fun _ _ => rfl)) pe_int) (pv 1)))))), ?_⟩
    have hd' : H d = some (.lst (V.int s0 :: V.int s1 :: r.map V.int)) := hd
    refine ⟨_, rfl, d, _, 1, V.int s1, rfl, rfl, SqL.of hd', at1, rfl, _, rfl, ite2 (fun c => ?_) (fun c => ?_)⟩
    · refine ⟨_, rfl, d, _, rfl, .inl (SqL.of hd'), _, _, rfl, rfl, _, rfl, ite2 (fun c2 => ?_) (fun c2 => ?_)⟩
      · cases r with
        | nil => exact absurd (of_decide_eq_true c2) (by simp)
        | cons r0 r =>
          refine ⟨_, rfl, .inl ⟨rfl, _, SqL.of hd'⟩, d, _, 2, 2, V.int r0, rfl, rfl, hd', (by decide), (by decide), sq2, rfl, ?_⟩
          refine ⟨_, rfl, d, _, _, 1, rfl, rfl, upd_same, ix1, ?_⟩
          generalize e : (upd (upd H d (HO.lst ((V.int s0 :: V.int s1 :: List.map V.int (r0 :: r)).eraseIdx 2))) d (HO.lst (((V.int s0 :: V.int s1 :: List.map V.int (r0 :: r)).eraseIdx 2).set 1 (V.int r0)))) = H1
          have kp1 : Kp d H H1 := by rw [← e]; exact kp_upd.trans kp_upd
          obtain ⟨t0, t1, r', hd1, g0, g1, g2, g3, g4⟩ : ∃ t0 t1 r', H1 d = some (.lst (V.int t0 :: V.int t1 :: r'.map V.int)) ∧ 0 ≤ t0 ∧ t0 < 2147483647 ∧ 0 ≤ t1 ∧ (∀ z ∈ r', (0 : Int) ≤ z) ∧ r'.length ≤ 63 :=
            ⟨s0, r0, r, by rw [← e, upd_same]; rfl, h0, h1, h3 _ (List.mem_cons_self ..), fun z hz => h3 z (List.mem_cons_of_mem _ hz), by rw [List.length_cons] at h4; omega⟩
          refine ⟨_, rfl, d, _, 1, V.int t1, rfl, rfl, SqL.of hd1, at1, _, _, rfl, rfl, _, rfl, ite2 (fun c3 => ?_) (fun c3 => ?_)⟩
          · have c3' : 0 < t1 := of_decide_eq_true c3
            refine ⟨_, rfl, d, _, 1, V.int t1, rfl, rfl, SqL.of hd1, at1, _, rfl, _, _, rfl, rfl, (by omega), ?_⟩
            refine ⟨_, rfl, d, _, 1, V.int t1, rfl, rfl, SqL.of hd1, at1, _, rfl, _, _, rfl, rfl, ⟨by omega, by omega⟩, _, rfl, d, _, _, 1, rfl, rfl, hd1, ix1, ?_⟩
            exact ⟨_, rfl, k _ (t0 :: t1.fdiv lim :: r') _ (kp1.trans kp_upd) upd_same ⟨⟨t0, _, r', rfl, g0, g1, Int.fdiv_nonneg g2 (by omega), g3, g4⟩⟩ (Int.fmod_nonneg_of_pos _ (by omega)) (Int.fmod_lt_of_pos _ (by omega))⟩
          · refine ⟨_, rfl, d, _, 0, V.int t0, rfl, rfl, SqL.of hd1, at0, _, _, rfl, rfl, .inl ⟨by omega, by omega⟩, _, _, rfl, rfl, _, _, rfl, rfl, (by show (0 : Int) < 2147483647; decide), _, rfl, d, _, _, 0, rfl, rfl, hd1, ix0, ?_⟩
            refine ⟨_, rfl, d, _, 0, V.int ((t0 * 48271 + 11) % 2147483647), rfl, rfl, SqL.of upd_same, at0, _, _, rfl, rfl, ⟨by decide, by decide⟩, _, rfl, _, _, rfl, rfl, (by omega), ?_⟩
            exact k _ ((t0 * 48271 + 11) % 2147483647 :: t1 :: r') _ (kp1.trans kp_upd) upd_same ⟨⟨_, _, r', rfl, Int.emod_nonneg _ (by decide), Int.emod_lt_of_pos _ (by decide), g2, g3, g4⟩⟩ (Int.fmod_nonneg_of_pos _ (by omega)) (Int.fmod_lt_of_pos _ (by omega))
      · have kp1 : Kp d H H := Kp.refl
        obtain ⟨t0, t1, r', hd1, g0, g1, g2, g3, g4⟩ : ∃ t0 t1 r', H d = some (.lst (V.int t0 :: V.int t1 :: r'.map V.int)) ∧ 0 ≤ t0 ∧ t0 < 2147483647 ∧ 0 ≤ t1 ∧ (∀ z ∈ r', (0 : Int) ≤ z) ∧ r'.length ≤ 63 :=
          ⟨s0, s1, r, hd', h0, h1, h2, h3, h4⟩
        refine ⟨_, rfl, d, _, 1, V.int t1, rfl, rfl, SqL.of hd1, at1, _, _, rfl, rfl, _, rfl, ite2 (fun c3 => ?_) (fun c3 => ?_)⟩
        · have c3' : 0 < t1 := of_decide_eq_true c3
          refine ⟨_, rfl, d, _, 1, V.int t1, rfl, rfl, SqL.of hd1, at1, _, rfl, _, _, rfl, rfl, (by omega), ?_⟩
          refine ⟨_, rfl, d, _, 1, V.int t1, rfl, rfl, SqL.of hd1, at1, _, rfl, _, _, rfl, rfl, ⟨by omega, by omega⟩, _, rfl, d, _, _, 1, rfl, rfl, hd1, ix1, ?_⟩
          exact ⟨_, rfl, k _ (t0 :: t1.fdiv lim :: r') _ (kp1.trans kp_upd) upd_same ⟨⟨t0, _, r', rfl, g0, g1, Int.fdiv_nonneg g2 (by omega), g3, g4⟩⟩ (Int.fmod_nonneg_of_pos _ (by omega)) (Int.fmod_lt_of_pos _ (by omega))⟩
        · refine ⟨_, rfl, d, _, 0, V.int t0, rfl, rfl, SqL.of hd1, at0, _, _, rfl, rfl, .inl ⟨by omega, by omega⟩, _, _, rfl, rfl, _, _, rfl, rfl, (by show (0 : Int) < 2147483647; decide), _, rfl, d, _, _, 0, rfl, rfl, hd1, ix0, ?_⟩
          refine ⟨_, rfl, d, _, 0, V.int ((t0 * 48271 + 11) % 2147483647), rfl, rfl, SqL.of upd_same, at0, _, _, rfl, rfl, ⟨by decide, by decide⟩, _, rfl, _, _, rfl, rfl, (by omega), ?_⟩
          exact k _ ((t0 * 48271 + 11) % 2147483647 :: t1 :: r') _ (kp1.trans kp_upd) upd_same ⟨⟨_, _, r', rfl, Int.emod_nonneg _ (by decide), Int.emod_lt_of_pos _ (by decide), g2, g3, g4⟩⟩ (Int.fmod_nonneg_of_pos _ (by omega)) (Int.fmod_lt_of_pos _ (by omega))
    · have kp1 : Kp d H H := Kp.refl
      obtain ⟨t0, t1, r', hd1, g0, g1, g2, g3, g4⟩ : ∃ t0 t1 r', H d = some (.lst (V.int t0 :: V.int t1 :: r'.map V.int)) ∧ 0 ≤ t0 ∧ t0 < 2147483647 ∧ 0 ≤ t1 ∧ (∀ z ∈ r', (0 : Int) ≤ z) ∧ r'.length ≤ 63 :=
        ⟨s0, s1, r, hd', h0, h1, h2, h3, h4⟩
      refine ⟨_, rfl, d, _, 1, V.int t1, rfl, rfl, SqL.of hd1, at1, _, _, rfl, rfl, _, rfl, ite2 (fun c3 => ?_) (fun c3 => ?_)⟩
      · have c3' : 0 < t1 := of_decide_eq_true c3
        refine ⟨_, rfl, d, _, 1, V.int t1, rfl, rfl, SqL.of hd1, at1, _, rfl, _, _, rfl, rfl, (by omega), ?_⟩
        refine ⟨_, rfl, d, _, 1, V.int t1, rfl, rfl, SqL.of hd1, at1, _, rfl, _, _, rfl, rfl, ⟨by omega, by omega⟩, _, rfl, d, _, _, 1, rfl, rfl, hd1, ix1, ?_⟩
        exact ⟨_, rfl, k _ (t0 :: t1.fdiv lim :: r') _ (kp1.trans kp_upd) upd_same ⟨⟨t0, _, r', rfl, g0, g1, Int.fdiv_nonneg g2 (by omega), g3, g4⟩⟩ (Int.fmod_nonneg_of_pos _ (by omega)) (Int.fmod_lt_of_pos _ (by omega))⟩
      · refine ⟨_, rfl, d, _, 0, V.int t0, rfl, rfl, SqL.of hd1, at0, _, _, rfl, rfl, .inl ⟨by omega, by omega⟩, _, _, rfl, rfl, _, _, rfl, rfl, (by show (0 : Int) < 2147483647; decide), _, rfl, d, _, _, 0, rfl, rfl, hd1, ix0, ?_⟩
        refine ⟨_, rfl, d, _, 0, V.int ((t0 * 48271 + 11) % 2147483647), rfl, rfl, SqL.of upd_same, at0, _, _, rfl, rfl, ⟨by decide, by decide⟩, _, rfl, _, _, rfl, rfl, (by omega), ?_⟩
        exact k _ ((t0 * 48271 + 11) % 2147483647 :: t1 :: r') _ (kp1.trans kp_upd) upd_same ⟨⟨_, _, r', rfl, Int.emod_nonneg _ (by decide), Int.emod_lt_of_pos _ (by decide), g2, g3, g4⟩⟩ (Int.fmod_nonneg_of_pos _ (by omega)) (Int.fmod_lt_of_pos _ (by omega))
end
end Dk

set_option Elab.async false
set_option linter.all false
set_option maxRecDepth 100000
set_option maxHeartbeats 4000000
namespace Dk
open PySem PySem.Spec PyProof.Rows L2 TL
theorem at_mem {L : List Int} {r : Int} (h0 : 0 ≤ r) (h1 : r < L.length) : ∃ z, z ∈ L ∧ atI (L.map V.int) r = some (.int z) := by
  obtain ⟨n, rfl⟩ := Int.eq_ofNat_of_zero_le h0
  have hn : n < L.length := by omega
  exact ⟨L[n], List.getElem_mem hn, atI_nat (by rw [List.getElem?_map, List.getElem?_eq_getElem hn]; rfl)⟩
theorem joinL_nil : ∀ ls : List (List Nat), joinL [] ls = ls.flatten
  | [] => rfl
  | [p] => by simp [joinL]
  | p :: q :: r => by
    show p ++ ([] ++ joinL [] (q :: r)) = _
    rw [List.nil_append, joinL_nil (q :: r)]
    rfl
def one (c : Nat) : Str := ⟨#[c]⟩
theorem tl_one (c : Nat) : tl (one c) = [c] := rfl
theorem tl_joined (cs : List Nat) : tl (Txt.join Str.empty (cs.map one)) = cs := by
  rw [join_eq, tl_join, show tl Str.empty = [] from rfl, joinL_nil, List.map_map]
  induction cs with
  | nil => rfl
  | cons c cs ih => show [c] ++ (List.map (tl ∘ one) cs).flatten = _; rw [ih]; rfl
theorem ones_sum (cs : List Nat) : ((cs.map one).map (·.length)).sum = cs.length := by
  induction cs with
  | nil => rfl
  | cons c cs ih => rw [List.map_cons, List.map_cons, List.sum_cons, ih, List.length_cons]; show 1 + _ = _; omega
/-- a timetable -/
structure IsTab (t : Str) : Prop where
  len : (tl t).length ∈ [1, 2, 3, 4, 6, 8, 12, 24]
  ho : ∀ c ∈ tl t, c = 104 ∨ c = 111
theorem IsTab.pos {t : Str} (h : IsTab t) : 1 ≤ (tl t).length ∧ (tl t).length ≤ 24 := by
  have := h.len
  simp only [List.mem_cons, List.not_mem_nil, or_false] at this
  omega
def spTable : Sp := fun vs H Q _ => ∃ (d : Addr) (st : List Int), vs = [.ref d] ∧ H d = some (.lst (st.map V.int)) ∧ Good st ∧
  ∀ (H' : Hp) (st' : List Int) (t : Str), Kp d H H' → H' d = some (.lst (st'.map V.int)) → Good st' → IsTab t → Q (.str t) H'
structure TxtB (K : PySem.W.Frag) (mg : Str → Option Value) (fB : Addr) (fdB : FuncData) : Prop where
  g : mg "_law_below" = some (.ref fB)
  F : Fun K "_law_below" "_law_below" sBelow fB fdB
  b : Binds K fdB ["_law_d", "_law_limit"] []
section
variable {P : Program} {w : World} {K : PySem.W.Frag} {mg : Str → Option Value} {base : Heap}
theorem scTable : FnScope ["_law_d", "_law_length_here", "_law_k"] ["_law_d"] (defScope sTable) := ⟨rfl, rfl, rfl, by decide +kernel, rfl, by decide +kernel, by decide +kernel⟩
theorem ok_table {f fB : Addr} {fd fdB : FuncData} (F : Fun K "_law_table" "_law_table" sTable f fd) (T : TxtA mg) (B : TxtB K mg fB fdB) : FnOk P w K mg base CX0 2 f fd ["_law_d"] spTable := by
  have GB : FnOk P w K mg base CX0 1 fB fdB ["_law_d", "_law_limit"] spBelow := ok_below B.F T
  refine F.ok scTable (fun vs H Q E h => ?_) (fun cdv A outer s H vs Q E hr h => ?_)
  · obtain ⟨d, st, rfl, _⟩ := h
    rfl
  · obtain ⟨d, st, rfl, hd, hg, k⟩ := h
    refine ⟨_, pss_cons (ps_set (i := 1) scTable.nd rfl (.inl rfl) (pe_ix ix_list (pe_lst (pa_cons pe_int (pa_cons pe_int (pa_cons pe_int (pa_cons pe_int (pa_cons pe_int (pa_cons pe_int (pa_cons pe_int (pa_cons pe_int (pa_cons pe_int pa_nil))))))))))
        (pe_call GB hr rfl B.g B.F.kp B.b .nil pass0 (pa_cons (pv 0) (pa_cons (pe_ix ix_list (pe_lst (pa_cons pe_int (pa_cons pe_int (pa_cons pe_int pa_nil)))) (pe_call GB hr rfl B.g B.F.kp B.b .nil pass0 (pa_cons (pv 0) (pa_cons pe_int pa_nil))) (fun _ _ => rfl)) pa_nil))) (fun _ _ => rfl)))
      (pss_one (ps_ret (pe_join pe_str
        (pe_lc (own := [("_law_k", 2)]) (g := gName 2) (by rfl) scTable.nd (pi_range1 rfl T.range (pa_cons (pv 1) pa_nil)) (blkOk_by (N := ["_law_d", "_law_length_here", "_law_k"]) (sc := defScope sTable) (by decide +kernel))
          (fun _ _ _ _ _ => pg_name (i := 2) scTable.nd rfl (Or.inl rfl)) (fun _ _ _ _ _ => pts_nil)
          (fun _ _ _ _ _ => pe_item_str pe_str (pe_call GB hr rfl B.g B.F.kp B.b .nil pass0 (pa_cons (pv 0) (pa_cons pe_int pa_nil))) (fun _ _ => rfl)))))), ?_⟩
    refine ⟨by show 9 ≤ sizeLine; decide, fun l1 hl1 => ?_⟩
    have nl1 : d ≠ l1 := ne_of_none hd hl1
    refine ⟨_, rfl, by show 3 ≤ sizeLine; decide, fun l2 hl2 => ?_⟩
    have hd0 : (upd (upd H l1 (.lst [.int 1, .int 2, .int 3, .int 4, .int 4, .int 6, .int 8, .int 12, .int 24])) l2 (.lst [.int 5, .int 7, .int 9])) d = some (.lst (st.map V.int)) := same_upd hl2 _ _ (same_upd hl1 _ _ hd)
    have nl12 : l1 ≠ l2 := ne_of_none upd_same hl2
    have nl2 : d ≠ l2 := ne_of_none (same_upd hl1 _ _ hd) hl2
    refine ⟨_, rfl, d, 3, st, rfl, hd0, hg, by decide, by decide, fun H1 st1 r1 k1 hd1 hg1 r10 r11 => ?_⟩
    have e2 : H1 l2 = some (.lst (([5, 7, 9] : List Int).map V.int)) := k1 _ _ nl2.symm upd_same
    have e1 : H1 l1 = some (.lst (([1, 2, 3, 4, 4, 6, 8, 12, 24] : List Int).map V.int)) := k1 _ _ nl1.symm (by rw [upd_ne nl12]; exact upd_same)
    have kA : Kp d H H1 := (sKp ((same_upd hl1).trans (same_upd hl2))).trans k1
    obtain ⟨z1, hz1, a1⟩ := at_mem (L := [5, 7, 9]) r10 (by simpa using r11)
    refine ⟨l2, _, r1, _, rfl, rfl, SqL.of e2, a1, d, z1, st1, rfl, hd1, hg1, ?_, ?_, fun H2 st2 r2 k2 hd2 hg2 r20 r21 => ?_⟩
    · simp at hz1; omega
    · simp at hz1; omega
    have e3 := k2 _ _ nl1.symm e1
    have kB : Kp d H H2 := kA.trans k2
    obtain ⟨z2, hz2, a2⟩ := at_mem (L := [1, 2, 3, 4, 4, 6, 8, 12, 24]) r20 (by simp at hz1 ⊢; omega)
    refine ⟨l1, _, r2, _, rfl, rfl, SqL.of e3, a2, ?_⟩
    have hz3 : 1 ≤ z2 ∧ z2 ≤ 24 ∧ z2.toNat ∈ [1, 2, 3, 4, 6, 8, 12, 24] := by
      simp only [List.mem_cons, List.not_mem_nil, or_false] at hz2
      rcases hz2 with h | h | h | h | h | h | h | h | h <;> subst h <;> decide
    refine ⟨⟨_, rfl⟩, _, rfl, z2, rfl, by omega, by omega, fun D hD => lc_range (lo := 0) (n := z2.toNat)
      (fun i H3 => ∃ (st3 : List Int) (cs : List Nat), Kp d H2 H3 ∧ H3 d = some (.lst (st3.map V.int)) ∧ Good st3 ∧ H3 D = some (.lst ((cs.map one).map V.str)) ∧ cs.length = i ∧ ∀ c ∈ cs, c = 104 ∨ c = 111)
      ⟨st2, [], sKp (same_upd hD), same_upd hD _ _ hd2, hg2, upd_same, rfl, fun c hc => by cases hc⟩ ?_ ?_⟩
    · rintro i H3 hi ⟨st3, cs, k3, hd3, hg3, eD, hcl, hc⟩
      have ndD : d ≠ D := ne_of_none hd2 hD
      refine ⟨rfl, _, rfl, d, 2, st3, rfl, hd3, hg3, by decide, by decide, fun H4 st4 r4 k4 hd4 hg4 r40 r41 => ?_⟩
      have add : ∀ (c : Nat), (c = 104 ∨ c = 111) → ∃ acc, H4 D = some (.lst acc) ∧ acc.length < sizeLine ∧
          ∃ (st3 : List Int) (cs : List Nat), Kp d H2 (upd H4 D (.lst (acc ++ [V.str (one c)]))) ∧ (upd H4 D (.lst (acc ++ [V.str (one c)]))) d = some (.lst (st3.map V.int)) ∧ Good st3 ∧ (upd H4 D (.lst (acc ++ [V.str (one c)]))) D = some (.lst ((cs.map one).map V.str)) ∧ cs.length = i + 1 ∧ ∀ c ∈ cs, c = 104 ∨ c = 111 := fun c hc1 => by
        refine ⟨_, k4 _ _ ndD.symm eD, ?_, st4, cs ++ [c], fun b o nb eb => ?_, by rw [upd_ne ndD]; exact hd4, hg4, by rw [upd_same]; simp, by rw [List.length_append, hcl]; rfl, fun x hx => ?_⟩
        · rw [List.length_map, List.length_map, hcl]; exact Nat.lt_of_le_of_lt (by omega : i ≤ 1000) (by decide)
        · rw [upd_ne (ne_of_none eb hD)]; exact k4 _ _ nb (k3 _ _ nb eb)
        · rcases List.mem_append.mp hx with hx | hx
          · exact hc x hx
          · rw [List.mem_singleton.mp hx]; exact hc1
      have r4c : r4 = 0 ∨ r4 = 1 := by omega
      rcases r4c with rfl | rfl
      · exact ⟨_, 0, 104, rfl, rfl, by decide, by decide, by decide +kernel, by decide +kernel, add 104 (.inl rfl)⟩
      · exact ⟨_, 1, 111, rfl, rfl, by decide, by decide, by decide +kernel, by decide +kernel, add 111 (.inr rfl)⟩
    · rintro H3 ⟨st3, cs, k3, hd3, hg3, eD, hcl, hc⟩
      refine ⟨_, D, cs.map one, rfl, rfl, .inl (SqL.of eD), ?_, ?_⟩
      · rw [ones_sum, hcl]
        have : (Str.ofString "").length = 0 := by decide +kernel
        rw [this]
        omega
      · refine k _ st3 _ (kB.trans k3) hd3 hg3 ⟨?_, ?_⟩
        · have e := tl_joined cs
          rw [show tl (Txt.join (Str.ofString "") (cs.map one)) = cs from e, hcl]
          exact hz3.2.2
        · rw [show tl (Txt.join (Str.ofString "") (cs.map one)) = cs from tl_joined cs]
          exact hc
end
end Dk

set_option Elab.async false
set_option linter.all false
set_option maxRecDepth 100000
set_option maxHeartbeats 4000000
namespace Dk
open PySem PySem.Spec PyProof.Rows L2 TL
/-! ### the period -/
def lens (ts : List Str) : List Nat := ts.map fun t => (tl t).length
def lcmL : List Nat → Nat → Nat
  | [], a => a
  | n :: r, a => lcmL r (a.lcm n)
def per (ts : List Str) : Nat := lcmL (lens ts) 1
theorem lcmL_dvd : ∀ (l : List Nat) (a m : Nat), a ∣ m → (∀ n ∈ l, n ∣ m) → lcmL l a ∣ m
  | [], a, m, h, _ => h
  | n :: r, a, m, h, k => lcmL_dvd r _ m (Nat.lcm_dvd h (k n (List.mem_cons_self ..))) fun x hx => k x (List.mem_cons_of_mem _ hx)
theorem dvd_lcmL : ∀ (l : List Nat) (a : Nat), a ∣ lcmL l a ∧ ∀ n ∈ l, n ∣ lcmL l a
  | [], a => ⟨Nat.dvd_refl _, fun n h => by cases h⟩
  | n :: r, a => by
    have ih := dvd_lcmL r (a.lcm n)
    refine ⟨Nat.dvd_trans (Nat.dvd_lcm_left a n) ih.1, fun x hx => ?_⟩
    rcases List.mem_cons.mp hx with e | hx
    · rw [e]; exact Nat.dvd_trans (Nat.dvd_lcm_right a n) ih.1
    · exact ih.2 x hx
def Tabs (ts : List Str) : Prop := ∀ t ∈ ts, IsTab t
theorem IsTab.dvd {t : Str} (h : IsTab t) : (tl t).length ∣ 24 := by
  have := h.len
  simp only [List.mem_cons, List.not_mem_nil, or_false] at this
  rcases this with e | e | e | e | e | e | e | e <;> rw [e] <;> decide
theorem per_24 {ts : List Str} (h : Tabs ts) : per ts ∣ 24 := lcmL_dvd _ _ _ (Nat.one_dvd _) fun n hn => by
  obtain ⟨t, ht, rfl⟩ := List.mem_map.mp hn
  exact (h t ht).dvd
theorem per_le {ts : List Str} (h : Tabs ts) : per ts ≤ 24 := Nat.le_of_dvd (by decide) (per_24 h)
theorem per_pos {ts : List Str} (h : Tabs ts) : 1 ≤ per ts := Nat.pos_of_ne_zero fun e => by
  have := per_24 h
  rw [e] at this
  exact absurd (Nat.eq_zero_of_zero_dvd this) (by decide)
theorem dvd_per {ts : List Str} {t : Str} (h : t ∈ ts) : (tl t).length ∣ per ts := (dvd_lcmL _ _).2 _ (List.mem_map.mpr ⟨t, h, rfl⟩)
theorem per_min {ts : List Str} {m : Nat} (h : ∀ t ∈ ts, (tl t).length ∣ m) : per ts ∣ m := lcmL_dvd _ _ _ (Nat.one_dvd _) fun n hn => by
  obtain ⟨t, ht, rfl⟩ := List.mem_map.mp hn
  exact h t ht
theorem IsTab.strOk {t : Str} (h : IsTab t) : PyData.strOk t = true := by
  unfold PyData.strOk
  rw [← Array.all_toList, List.all_eq_true]
  intro c hc
  have := h.ho c hc
  simp only [decide_eq_true_eq]
  omega
theorem dpAll_strs {K : PySem.W.Frag} {H : Hp} : ∀ ys : List Str, DpAll K H (ys.map V.str) (ys.map PyData.str)
  | [] => .nil
  | y :: ys => .cons (.str y) (dpAll_strs ys)
theorem shaped_strs : ∀ {ys : List Str}, Tabs ys → SeqAt.shaped (.list (ys.map PyData.str)) = true := by
  intro ys h
  have h1 : PyData.canLayAll0 (ys.map PyData.str) = true := by
    induction ys with
    | nil => rfl
    | cons y ys ih =>
      show (PyData.canLay0 (.str y) && PyData.canLayAll0 (ys.map PyData.str)) = true
      rw [ih fun t ht => h t (List.mem_cons_of_mem _ ht)]
      have := (h y (List.mem_cons_self ..)).strOk
      simp [PyData.canLay0, this]
  have h2 : PyData.depthAll (ys.map PyData.str) = 0 := by
    clear h h1
    induction ys with
    | nil => rfl
    | cons y ys ih => show max (PyData.depth (.str y)) (PyData.depthAll _) = 0; rw [ih]; rfl
  unfold SeqAt.shaped
  simp only [PyData.canLay0, PyData.depth, h1, h2]
  decide
theorem eqv_strs (ys : List Str) : PyData.eqv (.list (ys.map PyData.str)) (.list []) = ys.isEmpty := by
  cases ys <;> rfl
theorem fmod_pos {n m : Nat} (hm : 1 ≤ m) : (0 < (n : Int).fmod (m : Int)) ↔ ¬ m ∣ n := by
  have e : (n : Int).fmod (m : Int) = ((n % m : Nat) : Int) := by
    rw [Int.fmod_eq_emod_of_nonneg _ (by omega)]; rfl
  rw [e]
  constructor
  · intro h d
    rw [Nat.mod_eq_zero_of_dvd d] at h
    exact absurd h (by decide)
  · intro h
    have : n % m ≠ 0 := fun q => h (Nat.dvd_of_mod_eq_zero q)
    omega
/-! ### lcm -/
def rLcm : List V → Hp → VK → Prop := fun vs H Q => ∃ a b : Nat, vs = [.int (a : Int), .int (b : Int)] ∧ a ≤ 1000 ∧ b ≤ 1000 ∧ Q (.int ((Nat.lcm a b : Nat) : Int)) H
theorem cr_lcm {X : Cx} : CallR X (.builtin "math.lcm") rLcm := by
  intro pins s σ H vs us Q I r h
  obtain ⟨a, b, rfl, ha, hb, q⟩ := h
  obtain ⟨t, u, rfl⟩ := Vals.int2 r
  have e : (Nat.lcm 1 (a : Int).natAbs).lcm (b : Int).natAbs = Nat.lcm a b := by
    rw [Nat.lcm_one_left]; rfl
  have hle : Nat.lcm a b ≤ 1000000 := by
    have h1 : Nat.lcm a b ≤ a * b := Nat.div_le_self _ _
    have h2 : a * b ≤ 1000 * 1000 := Nat.mul_le_mul ha hb
    omega
  refine PySem.W.mg_lcm_v (c := ((Nat.lcm a b : Nat) : Int)) (by simp; omega) (by simp; omega) (by rw [e]) ?_ ⟨.int _, H, I.tok _, ⟨_, rfl⟩, q⟩
  rw [bitsLine_eq]
  have h3 : ((Nat.lcm a b : Nat) : Int).natAbs.log2 ≤ ((Nat.lcm a b : Nat) : Int).natAbs := Nat.log2_le_self _
  have h4 : ((Nat.lcm a b : Nat) : Int).natAbs = Nat.lcm a b := rfl
  omega
theorem lcmL_take {l : List Nat} {i x a : Nat} (h : l[i]? = some x) : lcmL (l.take (i + 1)) a = (lcmL (l.take i) a).lcm x := by
  rw [take_more h]
  generalize l.take i = p
  induction p generalizing a with
  | nil => rfl
  | cons y p ih => exact ih (a := a.lcm y)
theorem Tabs.take {ts : List Str} (h : Tabs ts) (n : Nat) : Tabs (ts.take n) := fun t ht => h t (List.mem_of_mem_take ht)
theorem lens_take (ts : List Str) (n : Nat) : lens (ts.take n) = (lens ts).take n := by unfold lens; rw [List.map_take]
theorem small_str {t : Str} (h : t.length ≤ 1000) : t.length ≤ sizeLine := Nat.le_trans h (by decide)
theorem IsTab.size {t : Str} (h : IsTab t) : t.length ≤ sizeLine := small_str (by rw [len_tl t]; have := h.pos.2; omega)
theorem filt1 {α : Type} {p : α → Bool} {x : α} (h : p x = true) : [x].filter p = [x] := by simp [h]
theorem filt0 {α : Type} {p : α → Bool} {x : α} (h : p x = false) : [x].filter p = [] := by simp [h]
def spPeriod (K : PySem.W.Frag) : Sp := fun vs H Q _ => ∃ (a : Addr) (ts : List Str), vs = [.ref a] ∧ SqT K H a (ts.map V.str) ∧ Tabs ts ∧ Q (.int ((per ts : Nat) : Int)) H
def spLength (K : PySem.W.Frag) : Sp := fun vs H Q _ => ∃ (a : Addr) (ts : List Str), vs = [.ref a] ∧ SqT K H a (ts.map V.str) ∧ Tabs ts ∧ ts.length ≤ 6 ∧ ∀ H', Same H H' → Q (.int ((per ts : Nat) : Int)) H'
structure TxtC (mg : Str → Option Value) : Prop where
  lcm : mg "lcm" = some (.builtin "math.lcm")
section
variable {P : Program} {w : World} {K : PySem.W.Frag} {mg : Str → Option Value} {base : Heap}
theorem scPeriod : FnScope ["tables", "ticks", "table"] ["tables"] (defScope sPeriod) := ⟨rfl, rfl, rfl, by decide +kernel, rfl, by decide +kernel, by decide +kernel⟩
theorem ok_period {f : Addr} {fd : FuncData} (F : Fun K "common_period" "common_period" sPeriod f fd) (T : TxtA mg) (TC : TxtC mg) : FnOk P w K mg base CX0 1 f fd ["tables"] (spPeriod K) := by
  refine F.ok scPeriod (fun vs H Q E h => ?_) (fun cdv A outer s H vs Q E hr h => ?_)
  · obtain ⟨a, ts, rfl, _⟩ := h
    rfl
  · obtain ⟨a, ts, rfl, hS, hT, k⟩ := h
    refine ⟨_, pss_cons (ps_set (i := 1) scPeriod.nd rfl (.inl rfl) pe_int)
      (pss_cons (ps_for PassesOwn.never rfl (pi_tup (pv 0)) (pg_name (i := 2) scPeriod.nd rfl (.inl rfl))
        (pss_one (ps_set (i := 1) scPeriod.nd rfl (.inl rfl) (pe_callBfun cr_lcm (by rfl) TC.lcm (pa_cons (pv 1) (pa_cons (pe_callB call_len_str (by rfl) T.len PySem.boot_len (pa_cons (pv 2) pa_nil)) pa_nil))))))
      (pss_one (ps_ret (pv 1)))), ?_⟩
    refine ⟨_, rfl, a, rfl, ⟨_, hS⟩, for_tup (K := K) (a := a) (xs := ts.map V.str) (fun i σ H' => ∃ v : Option V, σ = [some (.ref a), some (.int ((per (ts.take i) : Nat) : Int)), v] ∧ H' = H)
      ⟨none, rfl, rfl⟩ (fun i σ H' _ ⟨_, _, e⟩ => by rw [e]; exact hS) ?_ ?_⟩
    · rintro i y σ H' hi ⟨v, rfl, rfl⟩
      obtain ⟨t, ht, rfl⟩ := map_at hi
      have hm : t ∈ ts := List.mem_of_getElem? ht
      have hit := hT t hm
      have ex : (lens ts)[i]? = some (tl t).length := by unfold lens; rw [List.getElem?_map, ht]; rfl
      refine ⟨_, rfl, _, rfl, _, rfl, hit.size, per (ts.take i), (tl t).length, ?_, ?_, ?_, ?_⟩
      · rw [len_tl t]
      · have := per_le (hT.take i); omega
      · have := hit.pos.2; omega
      · refine ⟨some (.str t), ?_, rfl⟩
        show _ = [some (V.ref a), some (V.int ((per (ts.take (i + 1)) : Nat) : Int)), some (V.str t)]
        unfold per
        rw [lens_take, lens_take, lcmL_take ex]
        rfl
    · rintro σ H' ⟨v, rfl, rfl⟩
      rw [List.length_map, List.take_length]
      exact ⟨_, rfl, k⟩
theorem scLength : FnScope ["_law_tables", "_law_length_here", "_law_table_here"] ["_law_tables"] (defScope sLength) := ⟨rfl, rfl, rfl, by decide +kernel, rfl, by decide +kernel, by decide +kernel⟩
theorem ok_length {f : Addr} {fd : FuncData} (F : Fun K "_law_length" "_law_length" sLength f fd) (T : TxtA mg) : FnOk P w K mg base CX0 1 f fd ["_law_tables"] (spLength K) := by
  refine F.ok scLength (fun vs H Q E h => ?_) (fun cdv A outer s H vs Q E hr h => ?_)
  · obtain ⟨a, ts, rfl, _⟩ := h
    rfl
  · obtain ⟨a, ts, rfl, hS, hT, hl6, k⟩ := h
    refine ⟨_, pss_cons (ps_set (i := 1) scLength.nd rfl (.inr rfl) pe_int)
      (pss_cons (ps_while PassesOwn.never (pt_cmpR (op_neD hr.units) (pe_lc (own := [("_law_table_here", 2)]) (g := gName 2) (by rfl) scLength.nd (pi_tup (pv 0)) (blkOk_by (N := ["_law_tables", "_law_length_here", "_law_table_here"]) (sc := defScope sLength) (by decide +kernel))
          (fun _ _ _ _ _ => pg_name (i := 2) scLength.nd rfl (Or.inl rfl)) (fun _ _ _ _ _ => pts_one (pt_cmpR op_gt (pe_op op_modN (pv 1) (pe_callB call_len_str (by rfl) T.len PySem.boot_len (pa_cons (pv 2) pa_nil))) pe_int (nomark _))) (fun _ _ _ _ _ => pv 2)) (pe_lst pa_nil) (nomark _))
        (pss_one (ps_set (i := 1) scLength.nd rfl (.inr rfl) (pe_op op_add (pv 1) pe_int))))
      (pss_one (ps_ret (pv 1)))), ?_⟩
    refine ⟨fun m σ H' => ∃ n : Nat, σ = [some (.ref a), some (.int (n : Int)), none] ∧ Same H H' ∧ 1 ≤ n ∧ n ≤ per ts ∧ m = per ts - n, ⟨_, 1, rfl, Same.refl H, Nat.le_refl _, per_pos hT, rfl⟩, ?_⟩
    rintro m σ H' ⟨n, rfl, s1, h1, h2, rfl⟩
    have hS1 := sSqT s1 hS
    refine ⟨_, rfl, a, rfl, ⟨_, hS1⟩, fun D hD => lc_tup (K := K) (a := a) (xs := ts.map V.str)
      (fun i H3 => ∃ ys : List Str, Same H' H3 ∧ H3 D = some (.lst (ys.map V.str)) ∧ ys = (ts.take i).filter (fun t => decide (¬ (tl t).length ∣ n)) ∧ ys.length ≤ i)
      ⟨[], same_upd hD, upd_same, rfl, Nat.le_refl _⟩ (fun i H3 _ ⟨_, e, _⟩ => sSqT e hS1) ?_ ?_⟩
    · rintro i y H3 hi ⟨ys, s3, eD, hys, hyl⟩
      obtain ⟨t, ht, rfl⟩ := map_at hi
      have hil : i < ts.length := (List.getElem?_eq_some_iff.mp ht).1
      have hit := hT t (List.mem_of_getElem? ht)
      have hlen : t.length = (tl t).length := len_tl t
      refine ⟨rfl, _, rfl, _, rfl, _, rfl, hit.size, _, _, rfl, rfl, (by have := hit.pos.1; omega), _, _, rfl, rfl, _, rfl, ite2 (fun c => ?_) (fun c => ?_)⟩
      · have c' := of_decide_eq_true c
        rw [hlen, fmod_pos hit.pos.1] at c'
        refine ⟨_, rfl, _, eD, ?_, ys ++ [t], fun b o eb => ?_, ?_, ?_, ?_⟩
        · rw [List.length_map]; exact Nat.lt_of_le_of_lt (by omega : ys.length ≤ 1000) (by decide)
        · rw [upd_ne (ne_of_none eb hD)]; exact s3 _ _ eb
        · rw [upd_same]; simp
        · rw [take_more ht, List.filter_append, ← hys, show List.filter (fun t => decide (¬ (tl t).length ∣ n)) [t] = [t] from filt1 (decide_eq_true c')]
        · rw [List.length_append, List.length_singleton]; omega
      · have c' : ¬ (0 < (n : Int).fmod (t.length : Int)) := fun q => c (decide_eq_true q)
        rw [hlen, fmod_pos hit.pos.1] at c'
        refine ⟨ys, s3, eD, ?_, by omega⟩
        rw [take_more ht, List.filter_append, ← hys, show List.filter (fun t => decide (¬ (tl t).length ∣ n)) [t] = [] from filt0 (decide_eq_false c'), List.append_nil]
    · rintro H3 ⟨ys, s3, eD, hys, hyl⟩
      rw [List.length_map, List.take_length] at hys
      refine ⟨Nat.zero_le _, fun l hl => ?_⟩
      have eD2 := same_upd (o := .lst []) hl _ _ eD
      have hTy : Tabs ys := fun t ht => hT t (by rw [hys] at ht; exact (List.mem_filter.mp ht).1)
      refine ⟨.list (ys.map PyData.str), .list [], .lst (SqL.of eD2) (dpAll_strs ys), .lst (SqL.of upd_same) .nil, shaped_strs hTy, by decide, _, rfl, ?_⟩
      rw [eqv_strs]
      have s5 : Same H (upd H3 l (.lst [])) := (s1.trans s3).trans (same_upd hl)
      cases hy : ys with
      | nil =>
        refine iteF ⟨_, rfl, ?_⟩
        have all : ∀ t ∈ ts, (tl t).length ∣ n := fun t ht => by
          by_cases d : (tl t).length ∣ n
          · exact d
          · have : t ∈ ys := by rw [hys]; exact List.mem_filter.mpr ⟨ht, decide_eq_true d⟩
            rw [hy] at this
            cases this
        have e : n = per ts := Nat.le_antisymm h2 (Nat.le_of_dvd h1 (per_min all))
        rw [e]
        exact k _ s5
      | cons t0 ys' =>
        refine iteT ?_
        have hne : n ≠ per ts := fun e => by
          have hm : t0 ∈ ts.filter (fun t => decide (¬ (tl t).length ∣ n)) := by rw [← hys, hy]; exact List.mem_cons_self ..
          have := List.mem_filter.mp hm
          exact (of_decide_eq_true this.2) (by rw [e]; exact dvd_per this.1)
        refine ⟨fun σ' H'' => ∃ n' : Nat, σ' = [some (.ref a), some (.int (n' : Int)), none] ∧ Same H H'' ∧ 1 ≤ n' ∧ n' ≤ per ts ∧ n' = n + 1, fun σ' H'' ⟨n', e1, e2, e3, e4, e5⟩ => ⟨per ts - n', by omega, n', e1, e2, e3, e4, rfl⟩, ?_⟩
        exact ⟨_, rfl, _, _, rfl, rfl, n + 1, rfl, s5, by omega, by omega, rfl⟩
end
end Dk

set_option Elab.async false
set_option linter.all false
set_option maxRecDepth 100000
set_option maxHeartbeats 4000000
namespace Dk
open PySem PySem.Spec PyProof.Rows L2 TL
/-! ### pairs -/
abbrev Pr := Int × Int
def PrAt (H : Hp) (x : V) (r : Pr) : Prop := ∃ t, x = .ref t ∧ H t = some (.tup [.int r.1, .int r.2])
def Prs (H : Hp) (xs : List V) (rs : List Pr) : Prop := Paired (PrAt H) xs rs
theorem Prs.app {H : Hp} : ∀ {xs : List V} {rs : List Pr} {x : V} {r : Pr}, Prs H xs rs → PrAt H x r → Prs H (xs ++ [x]) (rs ++ [r])
  | [], [], _, _, .nil, h => .cons h .nil
  | _ :: _, _ :: _, _, _, .cons a b, h => .cons a (Prs.app b h)
theorem Prs.mono {H H' : Hp} : ∀ {xs : List V} {rs : List Pr}, (∀ t ys, H t = some (.tup ys) → H' t = some (.tup ys)) → Prs H xs rs → Prs H' xs rs
  | [], [], _, .nil => .nil
  | _ :: _, _ :: _, k, .cons ⟨t, e, h⟩ b => .cons ⟨t, e, k _ _ h⟩ (Prs.mono k b)
theorem kp_tup {d : Addr} {H H' : Hp} {xs : List V} (k : Kp d H H') (hd : H d = some (.lst xs)) : ∀ t ys, H t = some (.tup ys) → H' t = some (.tup ys) := fun t ys h => k t _ (fun e => by rw [e, hd] at h; cases h) h
theorem Prs.len {H : Hp} {xs : List V} {rs : List Pr} (h : Prs H xs rs) : xs.length = rs.length := Paired.length h
def kf (H : Hp) : V → Pr
  | .ref t => match H t with
    | some (.tup [.int i, .int j]) => (i, j)
    | _ => (0, 0)
  | _ => (0, 0)
theorem kf_at {H : Hp} {x : V} {r : Pr} (h : PrAt H x r) : kf H x = r := by
  obtain ⟨t, rfl, e⟩ := h
  show (match H t with | some (.tup [.int i, .int j]) => (i, j) | _ => (0, 0)) = r
  rw [e]
theorem Prs.kf {H : Hp} : ∀ {xs : List V} {rs : List Pr}, Prs H xs rs → xs.map (kf H) = rs
  | [], [], .nil => rfl
  | _ :: _, _ :: _, .cons a b => by rw [List.map_cons, kf_at a, Prs.kf b]
theorem Prs.mem {H : Hp} : ∀ {xs : List V} {rs : List Pr}, Prs H xs rs → ∀ x ∈ xs, PrAt H x (Dk.kf H x)
  | [], [], .nil, _, h => by cases h
  | _ :: _, _ :: _, .cons a b, x, h => by
    rcases List.mem_cons.mp h with rfl | h
    · rw [kf_at a]; exact a
    · exact Prs.mem b x h
theorem Prs.of_mem {H : Hp} : ∀ {xs : List V}, (∀ x ∈ xs, PrAt H x (Dk.kf H x)) → Prs H xs (xs.map (Dk.kf H))
  | [], _ => .nil
  | x :: xs, h => .cons (h x (List.mem_cons_self ..)) (Prs.of_mem fun y hy => h y (List.mem_cons_of_mem _ hy))
/-- r before s -/
def plt (r s : Pr) : Prop := r.1 < s.1 ∨ (r.1 = s.1 ∧ r.2 < s.2)
def prR (r : Pr) : PyData := .tuple [.int r.1, .int r.2]
theorem prR_eqv (r s : Pr) : PyData.eqv (prR r) (prR s) = decide (r = s) := by
  obtain ⟨a, b⟩ := r
  obtain ⟨c, d⟩ := s
  show (a == c && (b == d && true)) = decide ((a, b) = (c, d))
  by_cases h1 : a = c
  · by_cases h2 : b = d
    · subst h1 h2; simp
    · simp [h2]
  · simp [h1]
theorem any_eqv (rs : List Pr) (r : Pr) : ((rs.map prR).any fun z => PyData.eqv z (prR r)) = decide (r ∈ rs) := by
  induction rs with
  | nil => rfl
  | cons s rs ih =>
    rw [List.map_cons, List.any_cons, ih, prR_eqv]
    by_cases h : s = r
    · subst h; simp
    · have h' : r ≠ s := fun e => h e.symm
      simp [h, h']
theorem prR_shaped (r : Pr) : SeqAt.shaped (prR r) = true := by
  unfold SeqAt.shaped prR
  simp [PyData.canLay0, PyData.canLayAll0, PyData.depth, PyData.depthAll]
theorem prRs_shaped (rs : List Pr) : SeqAt.shaped (.list (rs.map prR)) = true := by
  have h1 : PyData.canLayAll0 (rs.map prR) = true := by
    induction rs with
    | nil => rfl
    | cons r rs ih => show (PyData.canLay0 (prR r) && PyData.canLayAll0 (rs.map prR)) = true; rw [ih]; rfl
  have h2 : PyData.depthAll (rs.map prR) ≤ 1 := by
    clear h1
    induction rs with
    | nil => exact Nat.zero_le _
    | cons r rs ih => show max (PyData.depth (prR r)) (PyData.depthAll (rs.map prR)) ≤ 1; exact Nat.max_le.mpr ⟨by show max 0 (max 0 0) + 1 ≤ 1; decide, ih⟩
  have h3 : PyData.depth (.list (rs.map prR)) ≤ 64 := by
    show PyData.depthAll (rs.map prR) + 1 ≤ 64
    omega
  unfold SeqAt.shaped
  rw [show PyData.canLay0 (.list (rs.map prR)) = true from h1, decide_eq_true h3]
  rfl
theorem dp_pr {K : PySem.W.Frag} {H : Hp} {x : V} {r : Pr} (h : PrAt H x r) : Dp K H x (prR r) := by
  obtain ⟨t, rfl, e⟩ := h
  exact .tup (SqT.of e) (.cons (.int _) (.cons (.int _) .nil))
theorem dpAll_prs {K : PySem.W.Frag} {H : Hp} : ∀ {xs : List V} {rs : List Pr}, Prs H xs rs → DpAll K H xs (rs.map prR)
  | [], [], .nil => .nil
  | _ :: _, _ :: _, .cons a b => .cons (dp_pr a) (dpAll_prs b)
theorem lex_plt {r s : Pr} (h : SrtO.lexB s r = false) (n : r ≠ s) : plt r s := by
  have a := SrtO.lexB_no.mp h
  obtain ⟨r1, r2⟩ := r
  obtain ⟨s1, s2⟩ := s
  simp only [plt] at *
  by_cases h1 : r1 = s1
  · subst h1
    by_cases h2 : r2 = s2
    · subst h2; exact absurd rfl n
    · right; omega
  · left; omega
theorem sorted_plt : ∀ {l : List Pr}, l.Pairwise (fun x y => SrtO.lexB y x = false) → l.Nodup → l.Pairwise plt
  | [], _, _ => .nil
  | x :: l, h, n => by
    have h' := List.pairwise_cons.mp h
    have n' := List.nodup_cons.mp n
    exact .cons (fun y hy => lex_plt (h'.1 y hy) fun e => n'.1 (e ▸ hy)) (sorted_plt h'.2 n'.2)
/-- the parts of a house -/
structure Parts (ts : List Str) (keys : Int) (cs : List Int) (rs : List Pr) : Prop where
  tabs : Tabs ts
  n1 : 1 ≤ ts.length
  n6 : ts.length ≤ 6
  k0 : 0 ≤ keys
  k9 : keys ≤ 9
  cp : cs.Pairwise (· < ·)
  cm : ∀ c ∈ cs, (0 : Int) ≤ c ∧ c < (ts.length : Int)
  rp : rs.Pairwise plt
  rm : ∀ r ∈ rs, (0 : Int) ≤ r.1 ∧ r.1 < ((per ts : Nat) : Int) ∧ (0 : Int) ≤ r.2 ∧ r.2 < (ts.length : Int)
  r10 : rs.length ≤ 10
structure PartsAt (H : Hp) (a : Addr) (ts : List Str) (keys : Int) (cs : List Int) (rs : List Pr) : Prop where
  ex : ∃ aT aC aR xs, H a = some (.tup [.ref aT, .int keys, .ref aC, .ref aR]) ∧ H aT = some (.tup (ts.map V.str)) ∧ H aC = some (.tup (cs.map V.int)) ∧ H aR = some (.tup xs) ∧ Prs H xs rs
theorem PartsAt.mono {H H' : Hp} {a : Addr} {ts : List Str} {keys : Int} {cs : List Int} {rs : List Pr} (h : PartsAt H a ts keys cs rs) (k : ∀ t ys, H t = some (.tup ys) → H' t = some (.tup ys)) : PartsAt H' a ts keys cs rs := by
  obtain ⟨aT, aC, aR, xs, e1, e2, e3, e4, e5⟩ := h
  exact ⟨aT, aC, aR, xs, k _ _ e1, k _ _ e2, k _ _ e3, k _ _ e4, e5.mono k⟩
end Dk

set_option Elab.async false
set_option linter.all false
set_option maxRecDepth 100000
set_option maxHeartbeats 4000000
namespace Dk
open PySem PySem.Spec PyProof.Rows L2 TL
def spParts : Sp := fun vs H Q _ => ∃ (d : Addr) (most : Int) (st : List Int), vs = [.ref d, .int most] ∧ H d = some (.lst (st.map V.int)) ∧ Good st ∧ 1 ≤ most ∧ most ≤ 6 ∧
  ∀ (H' : Hp) (st' : List Int) (a : Addr) (ts : List Str) (keys : Int) (cs : List Int) (rs : List Pr), Kp d H H' → H' d = some (.lst (st'.map V.int)) → Good st' → PartsAt H' a ts keys cs rs → Parts ts keys cs rs → Q (.ref a) H'
structure TxtD (K : PySem.W.Frag) (mg : Str → Option Value) (fT fL : Addr) (fdT fdL : FuncData) : Prop where
  gT : mg "_law_table" = some (.ref fT)
  FT : Fun K "_law_table" "_law_table" sTable fT fdT
  bT : Binds K fdT ["_law_d"] []
  gL : mg "_law_length" = some (.ref fL)
  FL : Fun K "_law_length" "_law_length" sLength fL fdL
  bL : Binds K fdL ["_law_tables"] []
  tuple : mg "tuple" = none
  sorted : mg "sorted" = none
abbrev nParts : List Str := ["_law_d", "_law_most", "_law_k", "_law_tables", "_law_careful", "_law_length_here", "_law_reminders", "_law_reminder"]
section
variable {P : Program} {w : World} {K : PySem.W.Frag} {mg : Str → Option Value} {base : Heap}
theorem scParts : FnScope nParts ["_law_d", "_law_most"] (defScope sParts) := ⟨rfl, rfl, rfl, by decide +kernel, rfl, by decide +kernel, by decide +kernel⟩
theorem ok_parts {f fB fT fL : Addr} {fd fdB fdT fdL : FuncData} (F : Fun K "_law_parts" "_law_parts" sParts f fd) (T : TxtA mg) (B : TxtB K mg fB fdB) (D' : TxtD K mg fT fL fdT fdL) : FnOk P w K mg base CX0 3 f fd ["_law_d", "_law_most"] spParts := by
  have GB : FnOk P w K mg base CX0 1 fB fdB ["_law_d", "_law_limit"] spBelow := ok_below B.F T
  have GT : FnOk P w K mg base CX0 2 fT fdT ["_law_d"] spTable := ok_table D'.FT T B
  have GL : FnOk P w K mg base CX0 1 fL fdL ["_law_tables"] (spLength K) := ok_length D'.FL T
  refine F.ok scParts (fun vs H Q E h => ?_) (fun cdv A outer s H vs Q E hr h => ?_)
  · obtain ⟨d, most, st, rfl, _⟩ := h
    rfl
  · obtain ⟨d, most, st, rfl, hd, hg, hm1, hm6, k⟩ := h
    have hr1 : Room 1 _ := hr.mono (by decide)
    have hu : (A.deeper (envOfC (Str.ofString "_law_parts") (defScope sParts) s.heap.objs.size f cdv)).units + 65 < cLine := by have := hr.un; omega
    refine ⟨_, pss_cons (ps_set (i := 3) scParts.nd rfl (.inl rfl) (pe_callTy call_tuple_of (by rfl) D'.tuple (by decide +kernel) (pa_cons
        (pe_lc (own := [("_law_k", 2)]) (g := gName 2) (by rfl) scParts.nd (pi_range1 rfl T.range (pa_cons (pe_op op_add pe_int (pe_call GB hr1 rfl B.g B.F.kp B.b .nil pass0 (pa_cons (pv 0) (pa_cons (pv 1) pa_nil)))) pa_nil)) (blkOk_by (N := nParts) (sc := defScope sParts) (by decide +kernel))
          (fun _ _ _ _ _ => pg_name (i := 2) scParts.nd rfl (Or.inl rfl)) (fun _ _ _ _ _ => pts_nil)
          (fun _ _ _ _ _ => pe_call GT hr rfl D'.gT D'.FT.kp D'.bT .nil pass0 (pa_cons (pv 0) pa_nil))) pa_nil)))
      (pss_cons (ps_set (i := 4) scParts.nd rfl (.inl rfl) (pe_callTy call_tuple_of (by rfl) D'.tuple (by decide +kernel) (pa_cons
        (pe_lc (own := [("_law_k", 2)]) (g := gName 2) (by rfl) scParts.nd (pi_range1 rfl T.range (pa_cons (pe_callB call_len_seq (by rfl) T.len PySem.boot_len (pa_cons (pv 3) pa_nil)) pa_nil)) (blkOk_by (N := nParts) (sc := defScope sParts) (by decide +kernel))
          (fun _ _ _ _ _ => pg_name (i := 2) scParts.nd rfl (Or.inl rfl)) (fun _ _ _ _ _ => pts_one (pt_cmpR op_eq (pe_call GB hr1 rfl B.g B.F.kp B.b .nil pass0 (pa_cons (pv 0) (pa_cons pe_int pa_nil))) pe_int (nomark _)))
          (fun _ _ _ _ _ => pv 2)) pa_nil)))
      (pss_cons (ps_par (by rfl) scParts.nd (i := 5) (j := 6) rfl rfl (by decide) rfl rfl (pa_cons (pe_call GL hr1 rfl D'.gL D'.FL.kp D'.bL .nil pass0 (pa_cons (pv 3) pa_nil)) (pa_cons (pe_lst pa_nil) pa_nil)) (by rfl))
      (pss_cons (ps_for PassesOwn.never rfl (pi_range1 rfl T.range (pa_cons (pe_call GB hr1 rfl B.g B.F.kp B.b .nil pass0 (pa_cons (pv 0) (pa_cons
            (pe_ix ix_list (pe_lst (pa_cons pe_int (pa_cons pe_int (pa_cons pe_int pa_nil)))) (pe_call GB hr1 rfl B.g B.F.kp B.b .nil pass0 (pa_cons (pv 0) (pa_cons pe_int pa_nil))) (fun _ _ => rfl)) pa_nil))) pa_nil)) (pg_name (i := 2) scParts.nd rfl (.inl rfl))
          (pss_cons (ps_set (i := 7) scParts.nd rfl (.inl rfl) (pe_tup (pa_cons (pe_call GB hr1 rfl B.g B.F.kp B.b .nil pass0 (pa_cons (pv 0) (pa_cons (pv 5) pa_nil)))
              (pa_cons (pe_call GB hr1 rfl B.g B.F.kp B.b .nil pass0 (pa_cons (pv 0) (pa_cons (pe_callB call_len_seq (by rfl) T.len PySem.boot_len (pa_cons (pv 3) pa_nil)) pa_nil))) pa_nil))))
          (pss_one (ps_if (pt_cmpR (op_notInD hu) (pv 7) (pv 6) (by rfl))
            (pss_one (ps_expr (pe_bm PySem.F.plainAttrs_list PySem.F.slot_list_append PySem.F.type_list_append mt_append (pv 6) (pa_cons (pv 7) pa_nil)))) pss_nil))))
      (pss_one (ps_ret (pe_tup (pa_cons (pv 3) (pa_cons (pe_call GB hr1 rfl B.g B.F.kp B.b .nil pass0 (pa_cons (pv 0) (pa_cons
            (pe_ix ix_list (pe_lst (pa_cons pe_int (pa_cons pe_int pa_nil))) (pe_call GB hr1 rfl B.g B.F.kp B.b .nil pass0 (pa_cons (pv 0) (pa_cons pe_int pa_nil))) (fun _ _ => rfl)) pa_nil)))
          (pa_cons (pv 4) (pa_cons (pe_callTy call_tuple_of (by rfl) D'.tuple (by decide +kernel) (pa_cons (pe_callB cr_sortedPO (by rfl) D'.sorted (by decide +kernel) (pa_cons (pv 6) pa_nil)) pa_nil)) pa_nil)))))))))), ?_⟩
    -- the timetables
    refine ⟨_, rfl, _, rfl, d, most, st, rfl, hd, hg, hm1, by omega, fun H1 st1 r1 k1 hd1 hg1 r10 r11 => ?_⟩
    refine ⟨_, _, rfl, rfl, _, rfl, by omega, by omega, fun D hD => lc_range (lo := 0) (n := (1 + r1).toNat)
      (fun i H3 => ∃ (st3 : List Int) (ts : List Str), Kp d H1 H3 ∧ H3 d = some (.lst (st3.map V.int)) ∧ Good st3 ∧ H3 D = some (.lst (ts.map V.str)) ∧ ts.length = i ∧ Tabs ts)
      ⟨st1, [], sKp (same_upd hD), same_upd hD _ _ hd1, hg1, upd_same, rfl, fun t ht => by cases ht⟩ ?_ ?_⟩
    · rintro i H3 hi ⟨st3, ts, k3, hd3, hg3, eD, hl, hT⟩
      have ndD : d ≠ D := ne_of_none hd1 hD
      refine ⟨rfl, _, rfl, d, st3, rfl, hd3, hg3, fun H4 st4 t k4 hd4 hg4 ht => ?_⟩
      refine ⟨_, k4 _ _ ndD.symm eD, ?_, st4, ts ++ [t], fun b o nb eb => ?_, by rw [upd_ne ndD]; exact hd4, hg4, by rw [upd_same]; simp, by rw [List.length_append, hl]; rfl, fun x hx => ?_⟩
      · rw [List.length_map, hl]; exact Nat.lt_of_le_of_lt (by omega : i ≤ 1000) (by decide)
      · rw [upd_ne (ne_of_none eb hD)]; exact k4 _ _ nb (k3 _ _ nb eb)
      · rcases List.mem_append.mp hx with hx | hx
        · exact hT x hx
        · rw [List.mem_singleton.mp hx]; exact ht
    rintro H3 ⟨st3, ts, k3, hd3, hg3, eD, hl, hT⟩
    have hl6 : 1 ≤ ts.length ∧ ts.length ≤ 6 := by omega
    clear hl
    refine ⟨D, ts.map V.str, rfl, .inl ⟨SqL.of eD, fun aT haT => ?_⟩⟩
    have kA : Kp d H (upd H3 aT (.tup (ts.map V.str))) := (k1.trans k3).trans (sKp (same_upd haT))
    have hdA : (upd H3 aT (.tup (ts.map V.str))) d = some (.lst (st3.map V.int)) := same_upd haT _ _ hd3
    have eT : (upd H3 aT (.tup (ts.map V.str))) aT = some (.tup (ts.map V.str)) := upd_same
    generalize upd H3 aT (.tup (ts.map V.str)) = HA at kA hdA eT
    clear k1 hd1 hg1 k3 hd3 eD haT hD hd hg
    -- the careful persons
    refine ⟨_, rfl, aT, _, rfl, .inr (SqT.of eT), _, rfl, by omega, by rw [List.length_map]; omega, fun D hD => lc_range (lo := 0) (n := (((ts.map V.str).length : Nat) : Int).toNat)
      (fun i H3 => ∃ (st3 : List Int) (cs : List Int), Kp d HA H3 ∧ H3 d = some (.lst (st3.map V.int)) ∧ Good st3 ∧ H3 D = some (.lst (cs.map V.int)) ∧ cs.length ≤ i ∧ cs.Pairwise (· < ·) ∧ ∀ c ∈ cs, (0 : Int) ≤ c ∧ c < (i : Int))
      ⟨st3, [], sKp (same_upd hD), same_upd hD _ _ hdA, hg3, upd_same, Nat.le_refl _, .nil, fun t ht => by cases ht⟩ ?_ ?_⟩
    · rintro i H3 hi ⟨st3, cs, k3, hd3, hg3, eD, hl, hP, hC⟩
      have ndD : d ≠ D := ne_of_none hdA hD
      rw [List.length_map] at hi
      refine ⟨rfl, _, rfl, d, 3, st3, rfl, hd3, hg3, by decide, by decide, fun H4 st4 r4 k4 hd4 hg4 r40 r41 => ?_⟩
      have eD4 := k4 _ _ ndD.symm eD
      refine ⟨rfl, _, rfl, ite2 (fun c => ?_) (fun c => ?_)⟩
      · refine ⟨_, rfl, _, eD4, ?_, st4, cs ++ [(0 : Int) + (i : Int)], fun b o nb eb => ?_, by rw [upd_ne ndD]; exact hd4, hg4, by rw [upd_same]; simp, by rw [List.length_append, List.length_singleton]; omega, ?_, fun x hx => ?_⟩
        · rw [List.length_map]; exact Nat.lt_of_le_of_lt (by omega : cs.length ≤ 1000) (by decide)
        · rw [upd_ne (ne_of_none eb hD)]; exact k4 _ _ nb (k3 _ _ nb eb)
        · refine List.pairwise_append.mpr ⟨hP, List.pairwise_singleton _ _, fun x hx y hy => ?_⟩
          rw [List.mem_singleton.mp hy]
          have := hC x hx
          omega
        · rcases List.mem_append.mp hx with hx | hx
          · have := hC x hx; omega
          · rw [List.mem_singleton.mp hx]; omega
      · exact ⟨st4, cs, fun b o nb eb => k4 _ _ nb (k3 _ _ nb eb), hd4, hg4, eD4, by omega, hP, fun x hx => by have := hC x hx; omega⟩
    rintro H3 ⟨st4, cs, k3, hd3, hg4, eD, hl, hCP, hCM⟩
    rw [List.length_map] at hl hCM
    refine ⟨D, cs.map V.int, rfl, .inl ⟨SqL.of eD, fun aC haC => ?_⟩⟩
    have kB : Kp d H (upd H3 aC (.tup (cs.map V.int))) := (kA.trans k3).trans (sKp (same_upd haC))
    have hdB : (upd H3 aC (.tup (cs.map V.int))) d = some (.lst (st4.map V.int)) := same_upd haC _ _ hd3
    have eT2 : (upd H3 aC (.tup (cs.map V.int))) aT = some (.tup (ts.map V.str)) := same_upd haC _ _ (kp_tup k3 hdA _ _ eT)
    have eC : (upd H3 aC (.tup (cs.map V.int))) aC = some (.tup (cs.map V.int)) := upd_same
    generalize upd H3 aC (.tup (cs.map V.int)) = HB at kB hdB eT2 eC
    clear kA hdA eT k3 hd3 hg3 eD haC hD
    -- the period; no reminders yet
    refine ⟨_, rfl, aT, ts, rfl, SqT.of eT2, hT, hl6.2, fun HC sC => ?_⟩
    refine ⟨Nat.zero_le _, fun l hL => ?_⟩
    have kC : Kp d H (upd HC l (.lst [])) := (kB.trans (sKp sC)).trans (sKp (same_upd hL))
    have hdC := same_upd (o := .lst []) hL _ _ (sC _ _ hdB)
    have eT3 := same_upd (o := .lst []) hL _ _ (sC _ _ eT2)
    have eC3 := same_upd (o := .lst []) hL _ _ (sC _ _ eC)
    have eL : (upd HC l (.lst [])) l = some (.lst []) := upd_same
    have ndl : d ≠ l := ne_of_none (sC _ _ hdB) hL
    have nHl : H l = none := by
      cases q : H l with
      | none => rfl
      | some o =>
        have := (kB.trans (sKp sC)) l o ndl.symm q
        rw [hL] at this
        cases this
    generalize upd HC l (.lst []) = HD at kC hdC eT3 eC3 eL
    clear kB hdB eT2 eC sC hL
    refine ⟨_, _, rfl, ?_⟩
    -- the reminders
    refine ⟨_, rfl, by show 3 ≤ sizeLine; decide, fun l1 hl1 => ?_⟩
    have s1 : Same HD (upd HD l1 (.lst [.int 1, .int 4, .int 11])) := same_upd hl1
    have n1 : l1 ≠ d := (ne_of_none hdC hl1).symm
    refine ⟨_, rfl, d, 3, st4, rfl, s1 _ _ hdC, hg4, by decide, by decide, fun HE st5 r5 k5 hd5 hg5 r50 r51 => ?_⟩
    have e1 : HE l1 = some (.lst (([1, 4, 11] : List Int).map V.int)) := k5 _ _ n1 upd_same
    obtain ⟨z1, hz1, a1⟩ := at_mem (L := [1, 4, 11]) r50 (by simpa using r51)
    have hz : 1 ≤ z1 ∧ z1 ≤ 11 := by simp at hz1; omega
    refine ⟨l1, _, r5, _, rfl, rfl, SqL.of e1, a1, d, z1, st5, rfl, hd5, hg5, hz.1, by omega, fun HF st6 r6 k6 hd6 hg6 r60 r61 => ?_⟩
    have kF : Kp d HD HF := (sKp s1).trans (k5.trans k6)
    have tF := kp_tup kF hdC
    refine ⟨_, rfl, by omega, by omega, for_range (lo := 0) (n := r6.toNat)
      (fun i σ H' => ∃ (st7 : List Int) (xs : List V) (rs : List Pr) (v2 v7 : Option V), σ = [some (.ref d), some (.int most), v2, some (.ref aT), some (.ref aC), some (.int ((per ts : Nat) : Int)), some (.ref l), v7] ∧
        Kp d H H' ∧ H' d = some (.lst (st7.map V.int)) ∧ Good st7 ∧ H' aT = some (.tup (ts.map V.str)) ∧ H' aC = some (.tup (cs.map V.int)) ∧ H' l = some (.lst xs) ∧ Prs H' xs rs ∧ rs.Nodup ∧ rs.length ≤ i ∧
        ∀ r ∈ rs, (0 : Int) ≤ r.1 ∧ r.1 < ((per ts : Nat) : Int) ∧ (0 : Int) ≤ r.2 ∧ r.2 < (ts.length : Int))
      ⟨st6, [], [], none, none, rfl, kC.trans kF, hd6, hg6, tF _ _ eT3, tF _ _ eC3, kF _ _ ndl.symm eL, .nil, .nil, Nat.le_refl _, fun r hr => by cases hr⟩ ?_ ?_⟩
    · rintro i σ H' hi ⟨st7, xs, rs, v2, v7, rfl, kG, hd7, hg7, eT4, eC4, eL4, hP, hN, hlen, hM⟩
      refine ⟨_, rfl, _, rfl, d, _, st7, rfl, hd7, hg7, by have := per_pos hT; omega, by have := per_le hT; omega, fun H5 st8 ra k8 hd8 hg8 ra0 ra1 => ?_⟩
      refine ⟨_, rfl, _, rfl, aT, _, rfl, .inr (SqT.of (kp_tup k8 hd7 _ _ eT4)), d, _, st8, rfl, hd8, hg8, by rw [List.length_map]; omega, by rw [List.length_map]; omega, fun H6 st9 rb k9 hd9 hg9 rb0 rb1 => ?_⟩
      rw [List.length_map] at rb1
      have kH : Kp d H' H6 := k8.trans k9
      have tH := kp_tup kH hd7
      refine ⟨by show 2 ≤ sizeLine; decide, fun p hp => ?_⟩
      have eL6 := same_upd (o := .tup [.int ra, .int rb]) hp _ _ (kH _ _ ndl.symm eL4)
      have hP6 : Prs (upd H6 p (.tup [.int ra, .int rb])) xs rs := hP.mono fun t ys h => same_upd hp _ _ (tH _ _ h)
      have hPr : PrAt (upd H6 p (.tup [.int ra, .int rb])) (.ref p) (ra, rb) := ⟨p, rfl, upd_same⟩
      have kI : Kp d H (upd H6 p (.tup [.int ra, .int rb])) := (kG.trans kH).trans (sKp (same_upd hp))
      have hd10 := same_upd (o := .tup [.int ra, .int rb]) hp _ _ hd9
      have eT6 := same_upd (o := .tup [.int ra, .int rb]) hp _ _ (tH _ _ eT4)
      have eC6 := same_upd (o := .tup [.int ra, .int rb]) hp _ _ (tH _ _ eC4)
      generalize upd H6 p (.tup [.int ra, .int rb]) = H7 at eL6 hP6 hPr kI hd10 eT6 eC6
      refine ⟨_, rfl, _, rfl, prR (ra, rb), rs.map prR, dp_pr hPr, .lst (SqL.of eL6) (dpAll_prs hP6), prR_shaped _, prRs_shaped _, _, rfl, ?_⟩
      rw [any_eqv]
      by_cases c : (ra, rb) ∈ rs
      · rw [decide_eq_true c]
        refine iteF ?_
        exact ⟨st9, xs, rs, _, _, rfl, kI, hd10, hg9, eT6, eC6, eL6, hP6, hN, by omega, hM⟩
      · rw [decide_eq_false c]
        refine iteT ?_
        refine ⟨_, rfl, .inl ⟨rfl, _, SqL.of eL6⟩, _, rfl, l, _, _, rfl, rfl, eL6, ?_, ?_⟩
        · rw [hP6.len]; exact Nat.lt_of_le_of_lt (by omega : rs.length ≤ 1000) (by decide)
        · have nlT : aT ≠ l := fun e => by rw [e, eL6] at eT6; cases eT6
          have nlC : aC ≠ l := fun e => by rw [e, eL6] at eC6; cases eC6
          have tK : ∀ t ys, H7 t = some (.tup ys) → (upd H7 l (.lst (xs ++ [V.ref p]))) t = some (.tup ys) := fun t ys h => by
            rw [upd_ne (fun e => by rw [e, eL6] at h; cases h)]; exact h
          refine ⟨st9, _, rs ++ [(ra, rb)], _, _, rfl, fun b o nb eb => ?_, by rw [upd_ne ndl]; exact hd10, hg9, tK _ _ eT6, tK _ _ eC6, upd_same, (hP6.mono tK).app ?_, ?_, ?_, fun r hr => ?_⟩
          · rw [upd_ne (fun e => by rw [e, nHl] at eb; cases eb)]; exact kI _ _ nb eb
          · obtain ⟨t, e, h⟩ := hPr
            exact ⟨t, e, tK _ _ h⟩
          · refine List.nodup_append.mpr ⟨hN, (by simp), fun a ha b hb => ?_⟩
            rw [List.mem_singleton.mp hb]
            exact fun e => c (e ▸ ha)
          · rw [List.length_append, List.length_singleton]; omega
          · rcases List.mem_append.mp hr with hr | hr
            · exact hM r hr
            · rw [List.mem_singleton.mp hr]; exact ⟨ra0, ra1, rb0, rb1⟩
    rintro σ H' ⟨st7, xs, rs, v2, v7, rfl, kG, hd7, hg7, eT4, eC4, eL4, hP, hN, hlen, hM⟩
    have hl10 : rs.length ≤ 10 := by omega
    -- the answer
    refine ⟨_, rfl, _, rfl, by show 2 ≤ sizeLine; decide, fun l2 hl2 => ?_⟩
    have s2 : Same H' (upd H' l2 (.lst [.int 3, .int 10])) := same_upd hl2
    have n2 : l2 ≠ d := (ne_of_none hd7 hl2).symm
    refine ⟨_, rfl, d, 2, st7, rfl, s2 _ _ hd7, hg7, by decide, by decide, fun H5 st8 r8 k8 hd8 hg8 r80 r81 => ?_⟩
    have e2 : H5 l2 = some (.lst (([3, 10] : List Int).map V.int)) := k8 _ _ n2 upd_same
    obtain ⟨z2, hz2, a2⟩ := at_mem (L := [3, 10]) r80 (by simpa using r81)
    have hz3 : 1 ≤ z2 ∧ z2 ≤ 10 := by simp at hz2; omega
    refine ⟨l2, _, r8, _, rfl, rfl, SqL.of e2, a2, d, z2, st8, rfl, hd8, hg8, hz3.1, by omega, fun H6 st9 keys k9 hd9 hg9 ky0 ky1 => ?_⟩
    have k10 : Kp d H' H6 := (sKp s2).trans (k8.trans k9)
    have t10 := kp_tup k10 hd7
    have hP6 := hP.mono t10
    have eL6 := k10 _ _ ndl.symm eL4
    refine ⟨_, rfl, _, rfl, l, xs, kf H6, rfl, SqL.of eL6, fun x hx => hP6.mem x hx, fun ys p hs hst hp => ?_⟩
    refine ⟨p, ys, rfl, .inl ⟨SqL.of upd_same, fun aR haR => ?_⟩⟩
    have s3 := same_upd (o := .lst ys) hp
    have s4 := same_upd (o := .tup ys) haR
    refine ⟨by show 4 ≤ sizeLine; decide, fun a ha => ?_⟩
    have s5 := same_upd (o := .tup [V.ref aT, V.int keys, V.ref aC, V.ref aR]) ha
    have perm : ys.Perm xs := hst.perm
    have hPy : Prs H6 ys (ys.map (kf H6)) := Prs.of_mem fun y hy => hP6.mem y (perm.mem_iff.mp hy)
    have permR : (ys.map (kf H6)).Perm rs := by
      have := perm.map (kf H6)
      rw [hP6.kf] at this
      exact this
    have s6 := (s3.trans s4).trans s5
    refine k _ st9 a ts keys cs (ys.map (kf H6)) ((kG.trans k10).trans (sKp s6)) (s6 _ _ hd9) hg9 ⟨⟨aT, aC, aR, ys, upd_same, s6 _ _ (t10 _ _ eT4), s6 _ _ (t10 _ _ eC4), s5 _ _ upd_same, hPy.mono fun t zs h => s6 _ _ h⟩⟩ ?_
    refine ⟨hT, hl6.1, hl6.2, ky0, by omega, hCP, fun c hc => ⟨(hCM c hc).1, ?_⟩, ?_, fun r hr => hM r (permR.mem_iff.mp hr), by rw [permR.length_eq]; exact hl10⟩
    · have := (hCM c hc).2; omega
    · refine sorted_plt ?_ (permR.nodup_iff.mpr hN)
      rw [List.pairwise_map]
      exact hs
end
end Dk

set_option Elab.async false
set_option linter.all false
set_option maxRecDepth 100000
set_option maxHeartbeats 4000000
/-! enumerate(tuple) -/
namespace Dk
open PySem PySem.Spec PyProof.Rows L2
theorem meets_enumB {v : Value} {o : Obj} {H : Heap → Prop} (B : Begins v o H) :
    Meets (Builtin.«enumerate.__new__» ⟨[.type "enumerate", v], []⟩) (fun _ R s => H s.heap ∧
      R (.ok (.ret (.ref (s.heap.push o).objs.size))) { s with heap := (s.heap.push o).push { cls := .type "enumerate", data := .fields #[.none, .bool false, .ref s.heap.objs.size, rawInt 0, .none, .none] } }) :=
  .of_wp fun prog w A R s h => by
    obtain ⟨hh, hR⟩ := h
    cases s with
    | mk h0 g0 d0 t0 o0 =>
      have _ := sub_enumerate
      have begin_ {A1 : Around} {E1 Q1 : Value → Shared → Prop} (q : Q1 (.ref h0.objs.size) ⟨h0.push o, g0, d0, t0, o0⟩) : wpAny (model prog w) A1 (pyIter v) Q1 E1 ⟨h0, g0, d0, t0, o0⟩ := B.iter prog w _ _ _ _ hh q
      (wp_walk using begin_); refine wpAny_stack_any fun _ => ?_
      refine wpAny_pure ?_
      split
      next c _ _ _ _ _ => cases (c == Value.type "enumerate") <;> (wp_walk using begin_) <;> exact ⟨_, rfl, hR⟩
      next => (wp_walk using begin_); exact ⟨_, rfl, hR⟩
section
variable {prog : Program} {w : World} {A : Around} {E : Value → Shared → Prop} {s : Shared}
theorem enum_beginsB {v : Value} {o : Obj} {H : Heap → Prop} {Q : Value → Shared → Prop} (B : Begins v o H) (h1 : H s.heap)
    (h : ∀ h', IsEnum h' (s.heap.objs.size + 1) s.heap.objs.size 0 .none → h'.get? s.heap.objs.size = some o → h'.objs.size = s.heap.objs.size + 2 →
      (∀ b o, s.heap.get? b = some o → h'.get? b = some o) → Q (.ref (s.heap.objs.size + 1)) { s with heap := h' }) :
    wpAny (model prog w) A (call (.type "enumerate") [v]) Q E s := by
  refine callType_new F.called_enumerate (by decide) (F.typeCall_enumerate_1 _) (F.newCall_enumerate_1 _) (fun obj => F.args_object_init_2 obj _) F.entry_enumerate_new
    (meets_enumB B) ⟨h1, ?_⟩
  have hzz : (s.heap.push o).objs.size = s.heap.objs.size + 1 := Heap.size_push ..
  show _ ∧ _
  rw [hzz]
  have he : IsEnum ((s.heap.push o).push { cls := .type "enumerate", data := .fields #[.none, .bool false, .ref s.heap.objs.size, rawInt 0, .none, .none] }) (s.heap.objs.size + 1) s.heap.objs.size 0 .none := by
    have := Heap.get?_push_size (s.heap.push o) (o := { cls := .type "enumerate", data := .fields #[.none, .bool false, .ref s.heap.objs.size, rawInt 0, .none, .none] }) rfl
    rw [hzz] at this; exact this
  refine ⟨⟨_, he, rfl⟩, h _ he (Heap.get?_push_of_some _ (Heap.get?_push_size _ B.free)) (by rw [Heap.size_push, hzz]) fun b o x => Heap.get?_push_of_some _ (Heap.get?_push_of_some _ x)⟩
end
/-- the tuple at a, each item in a nw pair -/
def IteT (K : PySem.W.Frag) (a : Addr) : It :=
  ⟨fun i H => ∃ (xs : List V) (x : V), SqT K H a xs ∧ xs[i]? = some x, fun i H v H' => ∃ T x, v = .ref T ∧ H T = none ∧ H' = upd H T (.tup [.int (i : Nat), x]) ∧ ∀ xs, SqT K H a xs → xs[i]? = some x, fun i H => ∃ xs : List V, SqT K H a xs ∧ xs.length = i⟩
theorem turn_enumT {P : Program} {w : World} {K : PySem.W.Frag} {elts : List Expr} {kk : Nat} {tpos : Pos} (a e it : Addr) :
    Turn P w K (.Tuple elts kk tpos) (IteT K a) [e, it] e (fun i h => (∃ was, IsEnum h e it ((i : Nat) : Int) was) ∧ h.IsTupleIter it a i ∧ e ≠ it ∧ a ≠ it ∧ a ≠ e) where
  mem := by simp
  obj := fun i h stt b hb => by
    obtain ⟨⟨was, he⟩, ⟨o, hob, hcl, hd⟩, _⟩ := stt
    have ee : b = e ∨ b = it := by simpa using hb
    rcases ee with z | z
    · rw [z]; exact ⟨_, he, fun v q => nomatch q⟩
    · rw [z]; exact ⟨o, hob, fun v q => by rw [hd] at q; cases q⟩
  keep := fun i h h' stt k => let ⟨⟨was, he⟩, hi, neq⟩ := stt; ⟨⟨was, k e (by simp) _ he⟩, hi.at fun o q => k it (by simp) o q, neq⟩
  item := by
    intro X hP hw hK hcl i pins s σ H E I hf stt hg
    subst hP hw hK
    obtain ⟨⟨was, he⟩, hit, neq, hai, hae⟩ := stt
    obtain ⟨xs, x, hq, hx⟩ := hg
    obtain ⟨its, rv, p, hzz⟩ := I.tuple hq
    obtain ⟨u, hu, ru⟩ := rv.get hx
    have elt : e < s.heap.objs.size := Heap.lt_size he
    have ilt : it < s.heap.objs.size := by obtain ⟨_, q, _⟩ := hit; exact Heap.lt_size q
    have hlen : i < its.toArray.size := by
      have h1 := (List.getElem?_eq_some_iff.mp hu).1
      simpa using h1
    refine wpAny_pyNext_enum_itemC (n := its.toArray.size) (i := i) (Draws.tuple (A := X.A.in1) (show X.A.in1.handled = none from I.ok.hd hcl) it a hai its.toArray) he ⟨hit, p⟩ hlen neq (by simp; exact ⟨neq, fun z => hae z.symm⟩) fun y h' tk hP hob hst hT hsize hkeep => ?_
    have ey : y = u := by
      have h1 : its.toArray[i]? = some u := by simpa using hu
      rw [h1] at hP
      exact (Option.some.inj hP).symm
    subst ey
    refine ⟨_, rfl, wpAny_letOwnedTupleGo_enum (s := { s with heap := h', toks := tk + 1 }) hob fun h'' he' same2 => ?_⟩
    have hT2 : h''.get? s.heap.objs.size = some { cls := .type "tuple", data := .seq #[.int i tk, y] } := (same2.2 _ (Nat.ne_of_gt elt)).trans hT
    have nw : ObjOk X.prog X.w (upd H s.heap.objs.size (.tup [.int (i : Nat), x])) h'' s.heap.objs.size (.tup [.int (i : Nat), x]) :=
      ⟨by show 2 ≤ sizeLine; decide, [.int i tk, y], .cons ⟨_, rfl⟩ (.cons ru .nil), ⟨_, hT2, rfl, _, rfl⟩⟩
    have J1 : Inv X pins σ (upd H s.heap.objs.size (.tup [.int (i : Nat), x])) { s with heap := h'', toks := tk + 1 } :=
      I.turnedNew (ch := [e, it]) (fun b ob hb q => (same2.2 b (fun z => hb (by simp [z]))).trans (hkeep b ob (fun z => hb (by simp [z])) (fun z => hb (by simp [z])) q)) hf (Nat.le_refl _) nw
    refine ⟨.ref s.heap.objs.size, _, J1, rfl, ⟨_, x, rfl, I.hok.fresh (Nat.le_refl _), rfl, fun ys hy => by rw [I.tuple_inj hy hq]; exact hx⟩, ⟨⟨y, ?_⟩, hst.1.at fun o q => (same2.2 it (Ne.symm neq)).trans q, neq, hai, hae⟩, fun b hb => ?_⟩
    · have esum : ((i + 1 : Nat) : Int) = (i : Int) + 1 := by omega
      rw [esum]; exact he'
    · have hlow : b < s.heap.objs.size := by
        have ee : b = e ∨ b = it := by simpa using hb
        rcases ee with z | z
        · rw [z]; exact elt
        · rw [z]; exact ilt
      rw [upd_ne (Nat.ne_of_lt hlow)]
      exact (hf b hb).1
  done := by
    intro X hP hw hK hcl i pins s σ H E I hf stt hg
    subst hP hw hK
    obtain ⟨⟨was, he⟩, hit, neq, hai, hae⟩ := stt
    obtain ⟨xs, hq, hx⟩ := hg
    obtain ⟨its, rv, p, hzz⟩ := I.tuple hq
    obtain ⟨k0, k1, k2, k3, k4, k5⟩ := hf it (by simp)
    have hl : its.toArray.size = i := by have := rv.length; simp; omega
    have D := Draws.tuple (prog := X.prog) (w := X.w) (A := X.A.in1) (I.ok.hd hcl) it a hai its.toArray
    exact wpAny_pyNext_enum_endD D he (hl ▸ ⟨hit, p⟩) fun h' eb => ⟨rfl, I.turned (t' := s.toks) (fun b o hb q => eb b o hb q) k0 k1 k3 k4 k5⟩
  self := fun A i s Q E stt h => let ⟨⟨_, he⟩, _⟩ := stt; wpAny_pyIter_enum he h
def iEnumT (K : PySem.W.Frag) (ta : TA) : TI := fun σ H R => ta σ H fun vs H1 => ∃ a xs, vs = [.ref a] ∧ SqT K H1 a xs ∧ R (IteT K a) H1
theorem pi_enumT {X : Cx} {e : Expr} {ta : TA} {p pos tpos : Pos} {elts : List Expr} {kk : Nat} (hg : Gl X "enumerate") (hm : X.mg "enumerate" = none) (ha : PA X [e] ta) (hs : starEach [e] X.env = [(false, eval e X.env)] := by rfl) :
    PI X (.Tuple elts kk tpos) (.Call (.Name "enumerate" p) [e] [] pos) (iEnumT X.K ta) := by
  refine ⟨fun pins s σ H R I h => ?_⟩
  refine Call_ (ld_blt I hg hm boot_enumerate (PyProof.Rows.callWith_type1 (thn (ha.run pos pins s σ H _ I h) fun us s1 ⟨vs, H1, J1, r1, q1⟩ => ?_) hs rfl))
  obtain ⟨a, xs, ex, hq, q⟩ := q1
  subst ex
  cases r1 with
  | cons r rr =>
    cases rr
    cases r
    obtain ⟨its, rv, p', hzz⟩ := J1.tuple hq
    have hal : a < s1.heap.objs.size := p'.lt
    refine enum_beginsB (begins_tuple a its.toArray) p' fun h' he hit hsize hkeep => wpAny_pyIter_enum he ?_
    have J2 : Inv X pins σ H1 { s1 with heap := h' } := J1.kept (t' := s1.toks) hkeep
    refine ⟨s1.heap.objs.size + 1, [s1.heap.objs.size + 1, s1.heap.objs.size], _, _, H1, rfl, J2, turn_enumT a (s1.heap.objs.size + 1) s1.heap.objs.size, ⟨⟨.none, he⟩, ⟨_, hit, rfl, rfl⟩, Nat.succ_ne_self _, Nat.ne_of_lt hal, Nat.ne_of_lt (Nat.lt_succ_of_lt hal)⟩, fun b hb => ?_, q⟩
    have ee : b = s1.heap.objs.size + 1 ∨ b = s1.heap.objs.size := by simpa using hb
    have hle : s1.heap.objs.size ≤ b := by
      rcases ee with z | z
      · rw [z]; exact Nat.le_add_right _ _
      · rw [z]; exact Nat.le_refl _
    exact J1.fpOk hle (J1.hok.fresh hle)
theorem walk_enumT {K : PySem.W.Frag} {a : Addr} {xs : List V} : Walk (IteT K a) xs.length (fun H => SqT K H a xs) (YPair (fun i => some (.int (i : Nat))) (fun i => xs[i]?)) := by
  refine ⟨fun i _ hi q => ⟨xs, xs[i], q, by simp [hi]⟩, fun _ q => ⟨xs, q, rfl⟩, fun i H v H' hi q y => ?_⟩
  obtain ⟨T, x, esum, e2, e3, e4⟩ := y
  exact ⟨T, _, x, esum, e2, e3, rfl, e4 xs q⟩
end Dk

set_option Elab.async false
set_option linter.all false
set_option maxRecDepth 100000
set_option maxHeartbeats 4000000
namespace Dk
open PySem PySem.Spec PyProof.Rows L2 TL
/-! ### what the checks say of any data -/
def tyN : PyData → String
  | .none => "NoneType"
  | .bool _ => "bool"
  | .int _ => "int"
  | .str _ => "str"
  | .list _ => "list"
  | .tuple _ => "tuple"
  | .dict _ => "dict"
theorem tyx {K : PySem.W.Frag} {H : Hp} {v : V} {d : PyData} (h : Dp K H v d) : TyX K H v (.type (tyN d)) := by
  cases h with
  | non => exact .base .non
  | bl b => exact .base (.bl b)
  | int i => exact .base (.int i)
  | str x => exact .base (.str x)
  | lst hs ha =>
    rcases hs with (e | ⟨o, e⟩) | ⟨o, its, n, hk, hc, _⟩
    · exact .base (.lst e)
    · exact .base (.frz e)
    · exact .kList hk hc
  | tup hs ha =>
    rcases hs with (e | ⟨o, e⟩) | ⟨o, its, n, hk, hc, _⟩
    · exact .base (.tup e)
    · exact .fTuple e
    · exact .kTuple hk hc
def isIntD : PyData → Bool
  | .int _ => true
  | _ => false
def isIntB : PyData → Bool
  | .int _ => true
  | .bool _ => true
  | _ => false
def isBoolD : PyData → Bool
  | .bool _ => true
  | _ => false
def isStrD : PyData → Bool
  | .str _ => true
  | _ => false
def isTupD : PyData → Bool
  | .tuple _ => true
  | _ => false
def isLstD : PyData → Bool
  | .list _ => true
  | _ => false
theorem kit_int : ∀ d : PyData, kitB (tyN d) "int" = some (isIntB d)
  | .none => (by decide +kernel : kitB "NoneType" "int" = some false)
  | .bool _ => (by decide +kernel : kitB "bool" "int" = some true)
  | .int _ => (by decide +kernel : kitB "int" "int" = some true)
  | .str _ => (by decide +kernel : kitB "str" "int" = some false)
  | .list _ => (by decide +kernel : kitB "list" "int" = some false)
  | .tuple _ => (by decide +kernel : kitB "tuple" "int" = some false)
  | .dict _ => (by decide +kernel : kitB "dict" "int" = some false)
theorem kit_bool : ∀ d : PyData, kitB (tyN d) "bool" = some (isBoolD d)
  | .none => (by decide +kernel : kitB "NoneType" "bool" = some false)
  | .bool _ => (by decide +kernel : kitB "bool" "bool" = some true)
  | .int _ => (by decide +kernel : kitB "int" "bool" = some false)
  | .str _ => (by decide +kernel : kitB "str" "bool" = some false)
  | .list _ => (by decide +kernel : kitB "list" "bool" = some false)
  | .tuple _ => (by decide +kernel : kitB "tuple" "bool" = some false)
  | .dict _ => (by decide +kernel : kitB "dict" "bool" = some false)
theorem kit_str : ∀ d : PyData, kitB (tyN d) "str" = some (isStrD d)
  | .none => (by decide +kernel : kitB "NoneType" "str" = some false)
  | .bool _ => (by decide +kernel : kitB "bool" "str" = some false)
  | .int _ => (by decide +kernel : kitB "int" "str" = some false)
  | .str _ => (by decide +kernel : kitB "str" "str" = some true)
  | .list _ => (by decide +kernel : kitB "list" "str" = some false)
  | .tuple _ => (by decide +kernel : kitB "tuple" "str" = some false)
  | .dict _ => (by decide +kernel : kitB "dict" "str" = some false)
theorem kit_tup : ∀ d : PyData, kitB (tyN d) "tuple" = some (isTupD d)
  | .none => (by decide +kernel : kitB "NoneType" "tuple" = some false)
  | .bool _ => (by decide +kernel : kitB "bool" "tuple" = some false)
  | .int _ => (by decide +kernel : kitB "int" "tuple" = some false)
  | .str _ => (by decide +kernel : kitB "str" "tuple" = some false)
  | .list _ => (by decide +kernel : kitB "list" "tuple" = some false)
  | .tuple _ => (by decide +kernel : kitB "tuple" "tuple" = some true)
  | .dict _ => (by decide +kernel : kitB "dict" "tuple" = some false)
theorem kit_lst : ∀ d : PyData, kitB (tyN d) "list" = some (isLstD d)
  | .none => (by decide +kernel : kitB "NoneType" "list" = some false)
  | .bool _ => (by decide +kernel : kitB "bool" "list" = some false)
  | .int _ => (by decide +kernel : kitB "int" "list" = some false)
  | .str _ => (by decide +kernel : kitB "str" "list" = some false)
  | .list _ => (by decide +kernel : kitB "list" "list" = some true)
  | .tuple _ => (by decide +kernel : kitB "tuple" "list" = some false)
  | .dict _ => (by decide +kernel : kitB "dict" "list" = some false)
def below (d : PyData) (lim : Int) : Bool := match d with
  | .int i => decide (0 ≤ i) && decide (i < lim)
  | _ => false
def only (w cs : Str) : Bool := (tl w).all fun c => decide (c ∈ tl cs)
def tabLens : List Int := [1, 2, 3, 4, 6, 8, 12, 24]
def hoS : Str := Str.ofString "ho"
def isTabD : PyData → Bool
  | .str t => decide ((t.length : Int) ∈ tabLens) && only t hoS
  | _ => false
def isRemD (d : PyData) (per n : Int) : Bool := match d with
  | .tuple [a, b] => below a per && below b n
  | _ => false
structure TxtF (K : PySem.W.Frag) (mg : Str → Option Value) (fII fIB fHO : Addr) (fdII fdIB fdHO : FuncData) : Prop where
  isinstance : mg "isinstance" = none
  int : mg "int" = none
  bool : mg "bool" = none
  str : mg "str" = none
  tuple : mg "tuple" = none
  all : mg "all" = none
  gII : mg "is_integer" = some (.ref fII)
  FII : Fun K "is_integer" "is_integer" sIsInt fII fdII
  bII : Binds K fdII ["value"] []
  gIB : mg "is_below" = some (.ref fIB)
  FIB : Fun K "is_below" "is_below" sIsBelow fIB fdIB
  bIB : Binds K fdIB ["value", "limit"] []
  gHO : mg "has_only" = some (.ref fHO)
  FHO : Fun K "has_only" "has_only" sHasOnly fHO fdHO
  bHO : Binds K fdHO ["word", "characters"] []
  letters : ∃ t, mg "LETTERS" = some (.str hoS t)
  lengths : ∃ a, mg "TABLE_LENGTHS" = some (.ref a) ∧ SqT K (fun _ => none) a (tabLens.map V.int)
def spIsInt (K : PySem.W.Frag) : Sp := fun vs H Q _ => ∃ (v : V) (d : PyData), vs = [v] ∧ Dp K H v d ∧ Q (.bl (isIntD d)) H
def spIsBelow (K : PySem.W.Frag) : Sp := fun vs H Q _ => ∃ (v : V) (d : PyData) (lim : Int), vs = [v, .int lim] ∧ Dp K H v d ∧ Q (.bl (below d lim)) H
def spHasOnly : Sp := fun vs H Q _ => ∃ (x cs : Str), vs = [.str x, .str cs] ∧ x.length ≤ 100000 ∧ ∀ H', Same H H' → Q (.bl (only x cs)) H'
def spIsTable (K : PySem.W.Frag) : Sp := fun vs H Q _ => ∃ (v : V) (d : PyData), vs = [v] ∧ Dp K H v d ∧ (∀ t, d = .str t → t.length ≤ 100000) ∧ ∀ H', Same H H' → Q (.bl (isTabD d)) H'
def spIsRem (K : PySem.W.Frag) : Sp := fun vs H Q _ => ∃ (v : V) (d : PyData) (per n : Int), vs = [v, .int per, .int n] ∧ Dp K H v d ∧ Q (.bl (isRemD d per n)) H
section
variable {P : Program} {w : World} {K : PySem.W.Frag} {mg : Str → Option Value} {base : Heap} {fII fIB fHO : Addr} {fdII fdIB fdHO : FuncData}
theorem scIsInt : FnScope ["value"] ["value"] (defScope sIsInt) := ⟨rfl, rfl, rfl, by decide +kernel, rfl, by decide +kernel, by decide +kernel⟩
theorem ok_isint (TF : TxtF K mg fII fIB fHO fdII fdIB fdHO) : FnOk P w K mg base CX0 1 fII fdII ["value"] (spIsInt K) := by
  refine TF.FII.ok scIsInt (fun vs H Q E h => ?_) (fun cdv A outer s H vs Q E hr h => ?_)
  · obtain ⟨v, d, rfl, _⟩ := h
    rfl
  · obtain ⟨v, d, rfl, hd, k⟩ := h
    refine ⟨_, pss_one (ps_ret (pe_and (pe_callB call_isi (by rfl) TF.isinstance (by decide +kernel) (pa_cons (pv 0) (pa_cons (pe_bltn (v := .ty "int") (by rfl) TF.int (by decide +kernel) rfl) pa_nil)))
      (pe_one (pe_not (pe_callB call_isi (by rfl) TF.isinstance (by decide +kernel) (pa_cons (pv 0) (pa_cons (pe_bltn (v := .ty "bool") (by rfl) TF.bool (by decide +kernel) rfl) pa_nil))))))), ?_⟩
    refine ⟨_, rfl, _, _, _, _, _, rfl, .ty "int", tyx hd, kit_ty (kit_int d), _, rfl, ?_⟩
    cases e : isIntB d with
    | false =>
      refine iteF ?_
      have : isIntD d = false := by cases d <;> first | rfl | cases e
      rw [← this]; exact k
    | true =>
      refine iteT ⟨_, rfl, _, _, _, _, _, rfl, .ty "bool", tyx hd, kit_ty (kit_bool d), _, rfl, ?_⟩
      have : (!isBoolD d) = isIntD d := by cases d <;> first | rfl | cases e
      rw [this]; exact k
theorem scIsBelow : FnScope ["value", "limit"] ["value", "limit"] (defScope sIsBelow) := ⟨rfl, rfl, rfl, by decide +kernel, rfl, by decide +kernel, by decide +kernel⟩
theorem ok_isbelow (TF : TxtF K mg fII fIB fHO fdII fdIB fdHO) : FnOk P w K mg base CX0 2 fIB fdIB ["value", "limit"] (spIsBelow K) := by
  have GI : FnOk P w K mg base CX0 1 fII fdII ["value"] (spIsInt K) := ok_isint TF
  refine TF.FIB.ok scIsBelow (fun vs H Q E h => ?_) (fun cdv A outer s H vs Q E hr h => ?_)
  · obtain ⟨v, d, lim, rfl, _⟩ := h
    rfl
  · obtain ⟨v, d, lim, rfl, hd, k⟩ := h
    refine ⟨_, pss_one (ps_ret (pe_and (pe_call GI hr rfl TF.gII TF.FII.kp TF.bII .nil pass0 (pa_cons (pv 0) pa_nil)) (pe_one (pe_chain op_le op_lt pe_int (pv 0) (pv 1))))), ?_⟩
    refine ⟨_, rfl, v, d, rfl, hd, _, rfl, ?_⟩
    cases hd with
    | int i =>
      refine iteT ⟨_, rfl, _, _, rfl, rfl, _, rfl, ?_⟩
      by_cases c : (0 : Int) ≤ i
      · rw [decide_eq_true c]
        refine iteT ⟨_, rfl, _, _, rfl, rfl, ?_⟩
        have e : below (.int i) lim = decide (i < lim) := by show (decide ((0 : Int) ≤ i) && decide (i < lim)) = _; rw [decide_eq_true c]; rfl
        rw [e] at k; exact k
      · rw [decide_eq_false c]
        refine iteF ?_
        have e : below (.int i) lim = false := by show (decide ((0 : Int) ≤ i) && decide (i < lim)) = _; rw [decide_eq_false c]; rfl
        rw [e] at k; exact k
    | non => exact iteF k
    | bl b => exact iteF k
    | str x => exact iteF k
    | lst hs ha => exact iteF k
    | tup hs ha => exact iteF k
theorem scHasOnly : FnScope ["word", "characters", "character"] ["word", "characters"] (defScope sHasOnly) := ⟨rfl, rfl, rfl, by decide +kernel, rfl, by decide +kernel, by decide +kernel⟩
theorem ok_hasonly (TF : TxtF K mg fII fIB fHO fdII fdIB fdHO) : FnOk P w K mg base CX0 1 fHO fdHO ["word", "characters"] spHasOnly := by
  refine TF.FHO.ok scHasOnly (fun vs H Q E h => ?_) (fun cdv A outer s H vs Q E hr h => ?_)
  · obtain ⟨x, cs, rfl, _⟩ := h
    rfl
  · obtain ⟨x, cs, rfl, hlen, k⟩ := h
    refine ⟨_, pss_one (ps_ret (pe_callB (cr_all rfl) (by rfl) TF.all (by decide +kernel) (pa_cons
        (pe_lc (own := [("character", 2)]) (g := gName 2) (by rfl) scHasOnly.nd (pi_str (pv 0)) (blkOk_by (N := ["word", "characters", "character"]) (sc := defScope sHasOnly) (by decide +kernel))
          (fun _ _ _ _ _ => pg_name (i := 2) scHasOnly.nd rfl (Or.inl rfl)) (fun _ _ _ _ _ => pts_nil)
          (fun _ _ _ _ _ => pe_cmpR op_in_sign (pv 2) (pv 1) (by rfl))) pa_nil))), ?_⟩
    refine ⟨_, rfl, x, rfl, fun D hD => lc_it walk_str
      (fun i H3 => Same H H3 ∧ H3 D = some (.lst ((((tl x).take i).map fun c => decide (c ∈ tl cs)).map V.bl)))
      ⟨same_upd hD, upd_same⟩ (fun _ _ _ _ => True.intro) ?_ ?_⟩
    · rintro i y H3 H4 hi ⟨s3, eD⟩ ⟨rfl, c, hc, rfl⟩
      have hc' : (tl x)[i]? = some c := by rw [← hc]; exact Array.getElem?_toList
      refine ⟨rfl, _, rfl, _, rfl, c, cs, rfl, rfl, _, eD, ?_, fun b o eb => ?_, ?_⟩
      · have hx : i < x.length := hi
        rw [List.length_map, List.length_map, List.length_take]
        exact Nat.lt_of_le_of_lt (Nat.le_trans (Nat.min_le_left _ _) (by omega : i ≤ 100000)) (by decide)
      · rw [upd_ne (ne_of_none eb hD)]; exact s3 _ _ eb
      · rw [upd_same, take_more hc', List.map_append, List.map_append]; rfl
    · rintro H3 ⟨s3, eD⟩
      have e : (tl x).take x.cps.size = tl x := List.take_of_length_le (by simp)
      rw [e] at eD
      refine ⟨D, _, rfl, SqL.of eD, ?_⟩
      have e2 : List.all ((tl x).map fun c => decide (c ∈ tl cs)) id = only x cs := by
        unfold only
        rw [List.all_map]; rfl
      rw [e2]
      exact k _ s3
end
end Dk

set_option Elab.async false
set_option linter.all false
set_option maxRecDepth 100000
set_option maxHeartbeats 1000000
namespace Dk
open PySem PySem.Spec PyProof.Rows L2 TL
theorem sqtK {K : PySem.W.Frag} {H : Hp} {a : Addr} {xs : List V} (h : SqT K (fun _ => none) a xs) : SqT K H a xs := by
  rcases h with (h | ⟨o, h⟩) | h
  · cases h
  · cases h
  · exact .inr h
theorem any_eqI (l : List Int) (n : Int) : inV (.int n) (l.map V.int) = decide (n ∈ l) := by
  unfold inV
  induction l with
  | nil => rfl
  | cons m l ih =>
    rw [List.map_cons, List.any_cons, ih]
    show (m == n || decide (n ∈ l)) = decide (n ∈ m :: l)
    by_cases e : m = n
    · subst e; simp
    · have e' : n ≠ m := fun q => e q.symm
      simp [e, e']
theorem flat_ints (l : List Int) : (l.map V.int).all flatV = true := by
  induction l with
  | nil => rfl
  | cons m l ih => rw [List.map_cons, List.all_cons, ih]; rfl
/-- x < y, two ints or two tuples of ints -/
def Lt2 (K : PySem.W.Frag) (H : Hp) (x y : V) (b : Bool) : Prop :=
  (∃ m n : Int, x = .int m ∧ y = .int n ∧ b = decide (m < n)) ∨ (∃ (a c : Addr) (ns ms : List Int), x = .ref a ∧ y = .ref c ∧ SqT K H a (ns.map V.int) ∧ SqT K H c (ms.map V.int) ∧ b = HT.lexLt ns ms)
def rLt2 (K : PySem.W.Frag) : R2 := fun x y H Q => ∃ b, Lt2 K H x y b ∧ Q (.bl b) H
theorem op_lt2 {X : Cx} (hu : X.A.units < cLine) : OpR X (compareOp .Lt) (rLt2 X.K) := by
  intro pins s σ H x y v u Q I rx ry h
  obtain ⟨b, h | h, q⟩ := h
  · obtain ⟨m, n, rfl, rfl, rfl⟩ := h
    exact op_lt pins s σ H _ _ v u Q I rx ry ⟨m, n, rfl, rfl, q⟩
  · obtain ⟨a, c, ns, ms, rfl, rfl, h1, h2, rfl⟩ := h
    exact op_ltT hu pins s σ H _ _ v u Q I rx ry ⟨a, c, ns, ms, rfl, rfl, h1, h2, q⟩
def spAsc (K : PySem.W.Frag) : Sp := fun vs H Q _ => ∃ (a : Addr) (xs : List V) (i : Nat) (b : Bool), vs = [.ref a, .int (i : Int)] ∧ SqT K H a xs ∧ i < xs.length ∧ (i = 0 → b = true) ∧
  (∀ j, i = j + 1 → ∃ x y, xs[j]? = some x ∧ xs[j + 1]? = some y ∧ Lt2 K H x y b) ∧ Q (.bl b) H
section
variable {P : Program} {w : World} {K : PySem.W.Frag} {mg : Str → Option Value} {base : Heap} {fII fIB fHO : Addr} {fdII fdIB fdHO : FuncData}
theorem scIsTable : FnScope ["table"] ["table"] (defScope sIsTable) := ⟨rfl, rfl, rfl, by decide +kernel, rfl, by decide +kernel, by decide +kernel⟩
theorem ok_istable {f : Addr} {fd : FuncData} (F : Fun K "is_table" "is_table" sIsTable f fd) (T : TxtA mg) (TF : TxtF K mg fII fIB fHO fdII fdIB fdHO) : FnOk P w K mg base CX0 2 f fd ["table"] (spIsTable K) := by
  have GH : FnOk P w K mg base CX0 1 fHO fdHO ["word", "characters"] spHasOnly := ok_hasonly TF
  obtain ⟨tL, eL⟩ := TF.letters
  obtain ⟨aT, eT, hT⟩ := TF.lengths
  refine F.ok scIsTable (fun vs H Q E h => ?_) (fun cdv A outer s H vs Q E hr h => ?_)
  · obtain ⟨v, d, rfl, _⟩ := h
    rfl
  · obtain ⟨v, d, rfl, hd, hz, k⟩ := h
    refine ⟨_, pss_one (ps_ret (pe_and (pe_callB call_isi (by rfl) TF.isinstance (by decide +kernel) (pa_cons (pv 0) (pa_cons (pe_bltn (v := .ty "str") (by rfl) TF.str (by decide +kernel) rfl) pa_nil)))
      (pe_and (pe_cmpR op_in_seq (pe_callB call_len_str (by rfl) T.len PySem.boot_len (pa_cons (pv 0) pa_nil)) (pe_glob (v := .ref aT) rfl eT rfl) (by rfl))
      (pe_one (pe_call GH hr rfl TF.gHO TF.FHO.kp TF.bHO .nil pass0 (pa_cons (pv 0) (pa_cons (pe_glob (v := .str hoS) rfl eL ⟨_, rfl⟩) pa_nil))))))), ?_⟩
    refine ⟨_, rfl, _, _, _, _, _, rfl, .ty "str", tyx hd, kit_ty (kit_str d), _, rfl, ?_⟩
    cases hd with
    | str x =>
      have hx := hz x rfl
      refine iteT ⟨_, rfl, _, rfl, Nat.le_trans hx (by decide), aT, _, rfl, .inr (sqtK hT), rfl, flat_ints _, _, rfl, ?_⟩
      show (if inV (.int (x.length : Int)) (tabLens.map V.int) = true then _ else _)
      rw [any_eqI]
      by_cases c : (x.length : Int) ∈ tabLens
      · rw [decide_eq_true c]
        refine iteT ⟨_, rfl, x, hoS, rfl, hx, fun H' s' => ?_⟩
        have e : isTabD (.str x) = only x hoS := by show (decide _ && _) = _; rw [decide_eq_true c]; rfl
        rw [← e]; exact k _ s'
      · rw [decide_eq_false c]
        refine iteF ?_
        have e : isTabD (.str x) = false := by show (decide _ && _) = _; rw [decide_eq_false c]; rfl
        have := k H (Same.refl H)
        rw [e] at this; exact this
    | non => exact iteF (k H (Same.refl H))
    | bl b => exact iteF (k H (Same.refl H))
    | int i => exact iteF (k H (Same.refl H))
    | lst hs ha => exact iteF (k H (Same.refl H))
    | tup hs ha => exact iteF (k H (Same.refl H))
theorem scIsRem : FnScope ["reminder", "period", "persons"] ["reminder", "period", "persons"] (defScope sIsRem) := ⟨rfl, rfl, rfl, by decide +kernel, rfl, by decide +kernel, by decide +kernel⟩
theorem ok_isrem {f : Addr} {fd : FuncData} (F : Fun K "is_reminder" "is_reminder" sIsRem f fd) (T : TxtA mg) (TF : TxtF K mg fII fIB fHO fdII fdIB fdHO) : FnOk P w K mg base CX0 3 f fd ["reminder", "period", "persons"] (spIsRem K) := by
  have GB : FnOk P w K mg base CX0 2 fIB fdIB ["value", "limit"] (spIsBelow K) := ok_isbelow TF
  refine F.ok scIsRem (fun vs H Q E h => ?_) (fun cdv A outer s H vs Q E hr h => ?_)
  · obtain ⟨v, d, per, n, rfl, _⟩ := h
    rfl
  · obtain ⟨v, d, per, n, rfl, hd, k⟩ := h
    refine ⟨_, pss_cons (ps_if (PW.pt (pw_or (pt_not (pt_val (pe_callB call_isi (by rfl) TF.isinstance (by decide +kernel) (pa_cons (pv 0) (pa_cons (pe_bltn (v := .ty "tuple") (by rfl) TF.tuple (by decide +kernel) rfl) pa_nil)))))
        (pw_or1 (pt_cmpR op_ne (pe_callB call_len_seq (by rfl) T.len PySem.boot_len (pa_cons (pv 0) pa_nil)) pe_int (nomark _))))) (pss_one (ps_ret pe_bl)) pss_nil)
      (pss_one (ps_ret (pe_and (pe_call GB hr rfl TF.gIB TF.FIB.kp TF.bIB .nil pass0 (pa_cons (pe_ix ix_tup (pv 0) pe_int (fun _ _ => rfl)) (pa_cons (pv 1) pa_nil)))
        (pe_one (pe_call GB hr rfl TF.gIB TF.FIB.kp TF.bIB .nil pass0 (pa_cons (pe_ix ix_tup (pv 0) pe_int (fun _ _ => rfl)) (pa_cons (pv 2) pa_nil))))))), ?_⟩
    refine ⟨_, rfl, _, _, _, _, _, rfl, .ty "tuple", tyx hd, kit_ty (kit_tup d), _, rfl, ?_⟩
    cases hd with
    | str x => exact iteT (iteT k)
    | non => exact iteT (iteT k)
    | bl b => exact iteT (iteT k)
    | int i => exact iteT (iteT k)
    | lst hs ha => exact iteT (iteT k)
    | @tup a xs ds hs ha =>
      refine iteF ⟨_, rfl, a, xs, rfl, .inr hs, rfl, _, rfl, ?_⟩
      cases ha with
      | nil => exact iteT k
      | cons h1 ha =>
        rename_i v1 vs1 d1 ds1
        cases ha with
        | nil => exact iteT k
        | cons h2 ha =>
          rename_i v2 vs2 d2 ds2
          cases ha with
          | nil =>
            refine iteF ?_
            refine ⟨_, rfl, a, _, 0, v1, rfl, rfl, hs, at0, _, rfl, v1, d1, per, rfl, h1, _, rfl, ?_⟩
            have e : isRemD (.tuple [d1, d2]) per n = (Dk.below d1 per && Dk.below d2 n) := rfl
            rw [e] at k
            cases c : Dk.below d1 per with
            | false => rw [c] at k; exact iteF k
            | true =>
              rw [c] at k
              exact iteT ⟨_, rfl, a, _, 1, v2, rfl, rfl, hs, at1, _, rfl, v2, d2, n, rfl, h2, k⟩
          | cons h3 ha =>
            rename_i v3 vs3 d3 ds3
            have e : (!decide (V.int (((v1 :: v2 :: v3 :: vs3).length : Nat) : Int) = V.int 2)) = true := by
              have : ¬ V.int (((v1 :: v2 :: v3 :: vs3).length : Nat) : Int) = V.int 2 := fun q => by
                have := V.int.inj q
                simp only [List.length_cons] at this
                omega
              rw [decide_eq_false this]; rfl
            show (if (!decide (V.int (((v1 :: v2 :: v3 :: vs3).length : Nat) : Int) = V.int 2)) = true then _ else _)
            rw [e]
            exact iteT k
theorem scAsc : FnScope ["items", "index"] ["items", "index"] (defScope sAsc) := ⟨rfl, rfl, rfl, by decide +kernel, rfl, by decide +kernel, by decide +kernel⟩
theorem ok_asc {f : Addr} {fd : FuncData} (F : Fun K "is_ascending_at" "is_ascending_at" sAsc f fd) : FnOk P w K mg base CX0 1 f fd ["items", "index"] (spAsc K) := by
  refine F.ok scAsc (fun vs H Q E h => ?_) (fun cdv A outer s H vs Q E hr h => ?_)
  · obtain ⟨a, xs, i, b, rfl, _⟩ := h
    rfl
  · obtain ⟨a, xs, i, b, rfl, hs, hi, h0, hj, k⟩ := h
    refine ⟨_, pss_one (ps_ret (pe_or (pe_cmpR op_eq (pv 1) pe_int (nomark _)) (pe_one (pe_cmpR (op_lt2 hr.units0) (pe_ix ix_tup (pv 0) (pe_op op_sub (pv 1) pe_int) (fun _ _ => rfl)) (pe_ix ix_tup (pv 0) (pv 1) (fun _ _ => rfl)) (nomark _))))), ?_⟩
    refine ⟨_, rfl, rfl, _, rfl, ?_⟩
    cases i with
    | zero =>
      refine ite2 (fun _ => ?_) (fun c => absurd (decide_eq_true rfl) c)
      rw [← h0 rfl]; exact k
    | succ j =>
      obtain ⟨x, y, ex, ey, hl⟩ := hj j rfl
      refine ite2 (fun c => ?_) (fun _ => ?_)
      · have := of_decide_eq_true c
        cases this
      · refine ⟨_, rfl, _, rfl, _, _, rfl, rfl, a, xs, _, x, rfl, rfl, hs, ?_, _, rfl, _, rfl, a, xs, _, y, rfl, rfl, hs, atI_nat ey, b, hl, k⟩
        have e : ((j + 1 : Nat) : Int) - 1 = (j : Int) := by omega
        rw [e]; exact atI_nat ex
end
end Dk

set_option Elab.async false
set_option linter.all false
set_option maxRecDepth 100000
set_option maxHeartbeats 1000000
namespace Dk
open PySem PySem.Spec PyProof.Rows L2 TL
mutual
theorem dpSame {K : PySem.W.Frag} {H H' : Hp} (k : Same H H') : ∀ (d : PyData) (v : V), Dp K H v d → Dp K H' v d
  | .none, _, h => by cases h; exact .non
  | .bool b, _, h => by cases h; exact .bl b
  | .int i, _, h => by cases h; exact .int i
  | .str x, _, h => by cases h; exact .str x
  | .list ds, _, h => by
    cases h with
    | lst hs ha => exact .lst (k.seq hs) (dpAllSame k ds _ ha)
  | .tuple ds, _, h => by
    cases h with
    | tup hs ha => exact .tup (sSqT k hs) (dpAllSame k ds _ ha)
  | .dict _, _, h => by cases h
theorem dpAllSame {K : PySem.W.Frag} {H H' : Hp} (k : Same H H') : ∀ (ds : List PyData) (vs : List V), DpAll K H vs ds → DpAll K H' vs ds
  | [], _, h => by cases h; exact .nil
  | d :: ds, _, h => by
    cases h with
    | cons h1 h2 => exact .cons (dpSame k d _ h1) (dpAllSame k ds _ h2)
end
theorem dpAll_len {K : PySem.W.Frag} {H : Hp} : ∀ {vs : List V} {ds : List PyData}, DpAll K H vs ds → vs.length = ds.length
  | [], [], .nil => rfl
  | _ :: _, _ :: _, .cons _ h => congrArg Nat.succ (dpAll_len h)
theorem dpAll_get {K : PySem.W.Frag} {H : Hp} : ∀ {vs : List V} {ds : List PyData} {i : Nat} {x : V}, DpAll K H vs ds → vs[i]? = some x → ∃ d, ds[i]? = some d ∧ Dp K H x d
  | [], [], _, _, .nil, e => by simp at e
  | _ :: _, _ :: _, 0, _, .cons h _, e => by
    simp at e; subst e; exact ⟨_, rfl, h⟩
  | _ :: _, _ :: _, i + 1, _, .cons _ h, e => by
    obtain ⟨d, e1, e2⟩ := dpAll_get (i := i) h (by simpa using e)
    exact ⟨d, by simpa using e1, e2⟩
/-! ### errors of one's own -/
abbrev ihFields (part : Str) (i : Int) : List (Str × V) := [("index", .int i), ("part", .str part)]
def Raised (C : Addr) (E : XK) (H : Hp) (part : Str) (i : Int) : Prop := ∀ (H' : Hp) (d : Addr), Same H H' → H d = none → H' d = some (.xd (ihFields part i)) → E (.ref C) (some d) H'
theorem Raised.mono {C : Addr} {E : XK} {H H1 : Hp} {part : Str} {i : Int} (h : Raised C E H part i) (s : Same H H1) : Raised C E H1 part i := fun H' d s2 n e => h H' d (s.trans s2) (s.free n) e
abbrev sIHInit : Stmt := inClass (top 4) 0
structure TxtIH (K : PySem.W.Frag) (mg : Str → Option Value) (C fI : Addr) (fdI : FuncData) : Prop where
  gC : mg "InvalidHouse" = some (.ref C)
  O : OexC K C
  iC : PySem.W.findIn K (.ref C) "__init__" = some (some (.ref fI))
  tI : PySem.W.typeIn K (.ref fI) = some (.type "function")
  F : Fun K "__init__" "InvalidHouse.__init__" sIHInit fI fdI
  b : Binds K fdI ["self", "part", "index"] []
  nP : PySem.W.findIn K (.ref C) "part" = some none
  nI : PySem.W.findIn K (.ref C) "index" = some none
def spIHInit (C : Addr) : Sp := fun vs H Q _ => ∃ (a : Addr) (p i : V), vs = [.ref a, p, i] ∧ H a = some (exo a C none) ∧
  ∀ d, H d = none → d ≠ a → Q .non (upd (upd (upd H d (exd d [("part", p)])) a (exo a C (some d))) d (exd d [("index", i), ("part", p)]))
section
variable {P : Program} {w : World} {K : PySem.W.Frag} {mg : Str → Option Value} {base : Heap} {C fI : Addr} {fdI : FuncData}
theorem scIHInit : FnScope ["self", "part", "index"] ["self", "part", "index"] (defScope sIHInit) := ⟨rfl, rfl, rfl, by decide +kernel, rfl, by decide +kernel, by decide +kernel⟩
theorem ok_ihinit (TI : TxtIH K mg C fI fdI) : FnOk P w K mg base CX0 1 fI fdI ["self", "part", "index"] (spIHInit C) := by
  refine TI.F.ok scIHInit (fun vs H Q E h => ?_) (fun cdv A outer s H vs Q E hr h => ?_)
  · obtain ⟨a, p, i, rfl, _⟩ := h
    rfl
  · obtain ⟨a, p, i, rfl, ha, k⟩ := h
    refine ⟨_, pss_cons (ps_ost (pv 0) (pv 1)) (pss_one (ps_ost (pv 0) (pv 2))), ?_⟩
    refine ⟨_, rfl, _, rfl, a, C, rfl, TI.O, TI.nP, .inl ⟨ha, fun d hd nd => ?_⟩⟩
    refine ⟨_, rfl, _, rfl, a, C, rfl, TI.O, TI.nI, .inr ⟨d, [("part", p)], upd_same, ?_, by simp, ?_⟩⟩
    · rw [upd_ne nd]; exact upd_same
    · exact k d hd nd
/-- the reading of raise InvalidHouse(part, i), from what is wanted of it -/
theorem raise_ih {H : Hp} {E : XK} {part : Str} {i : Int} (k : Raised C E H part i) :
    ([V.str part, V.int i] : List V).length ≤ 1000 ∧ ∀ a, H a = none → spIHInit C (.ref a :: ([V.str part, V.int i] ++ [])) (upd H a (exo a C none))
      (fun v H2 => v = .non ∧ ∃ (d : Addr) (fs : List (Str × V)), H2 a = some (exo a C (some d)) ∧ H2 d = some (exd d fs) ∧ H d = none ∧ E (.ref C) (some d) (upd (del H2 a) d (.xd fs))) (fun _ _ _ => False) := by
  refine ⟨by simp, fun a hn => ⟨a, _, _, rfl, upd_same, fun d hd nd => ⟨rfl, d, _, ?_, upd_same, ?_, ?_⟩⟩⟩
  · rw [upd_ne nd.symm]; exact upd_same
  · rw [upd_ne nd] at hd; exact hd
  · rw [upd_ne nd] at hd
    refine k _ d (fun b o e => ?_) hd upd_same
    have nb : b ≠ a := ne_of_none e hn
    have nd' : b ≠ d := ne_of_none e hd
    rw [upd_ne nd', del_ne nb, upd_ne nd', upd_ne nb, upd_ne nd', upd_ne nb]
    exact e
end
/-! ### the first bad item -/
def bad1 (p : Nat → PyData → Bool) : Nat → List PyData → Option Nat
  | _, [] => none
  | i, d :: ds => if p i d then some i else bad1 p (i + 1) ds
theorem bad1_step {p : Nat → PyData → Bool} {ds : List PyData} {i : Nat} {d : PyData} (h : ds[i]? = some d) : bad1 p i (ds.drop i) = if p i d then some i else bad1 p (i + 1) (ds.drop (i + 1)) := by
  have hi : i < ds.length := (List.getElem?_eq_some_iff.mp h).1
  have e : ds.drop i = d :: ds.drop (i + 1) := by
    rw [List.drop_eq_getElem_cons hi]
    congr 1
    have := List.getElem?_eq_getElem hi
    rw [h] at this
    exact (Option.some.inj this).symm
  rw [e]; rfl
theorem bad1_end {p : Nat → PyData → Bool} {ds : List PyData} : bad1 p ds.length (ds.drop ds.length) = none := by
  rw [List.drop_length]; rfl
def chkTabs : PyData → Option Nat
  | .tuple [] => some 0
  | .tuple (d :: ds) => bad1 (fun i t => i == 6 || !isTabD t) 0 (d :: ds)
  | _ => some 0
def chkKeys (d : PyData) : Option Nat := if below d 10 then none else some 0
def intOf : PyData → Int
  | .int i => i
  | _ => 0
def prOf : PyData → Pr
  | .tuple [.int i, .int j] => (i, j)
  | _ => (0, 0)
/-- the item before, less -/
def ascI (ds : List PyData) (i : Nat) : Bool := match i with
  | 0 => true
  | j + 1 => decide (intOf (ds.getD j .none) < intOf (ds.getD (j + 1) .none))
def ascP (ds : List PyData) (i : Nat) : Bool := match i with
  | 0 => true
  | j + 1 => HT.lexLt [(prOf (ds.getD j .none)).1, (prOf (ds.getD j .none)).2] [(prOf (ds.getD (j + 1) .none)).1, (prOf (ds.getD (j + 1) .none)).2]
def chkCareful (d : PyData) (n : Int) : Option Nat := match d with
  | .tuple ds => bad1 (fun i x => !below x n || !ascI ds i) 0 ds
  | _ => some 0
def chkRem (d : PyData) (per n : Int) : Option Nat := match d with
  | .tuple ds => bad1 (fun i x => i == 10 || !isRemD x per n || !ascP ds i) 0 ds
  | _ => some 0
end Dk

set_option Elab.async false
set_option linter.all false
set_option maxRecDepth 100000
set_option maxHeartbeats 1000000
namespace Dk
open PySem PySem.Spec PyProof.Rows L2 TL
structure TxtI (K : PySem.W.Frag) (mg : Str → Option Value) (fIT fIR fAs : Addr) (fdIT fdIR fdAs : FuncData) : Prop where
  enumerate : mg "enumerate" = none
  most : ∃ t, mg "MOST_PERSONS" = some (.int 6 t)
  keys : ∃ t, mg "MOST_KEYS" = some (.int 9 t)
  rems : ∃ t, mg "MOST_REMINDERS" = some (.int 10 t)
  gIT : mg "is_table" = some (.ref fIT)
  FIT : Fun K "is_table" "is_table" sIsTable fIT fdIT
  bIT : Binds K fdIT ["table"] []
  gIR : mg "is_reminder" = some (.ref fIR)
  FIR : Fun K "is_reminder" "is_reminder" sIsRem fIR fdIR
  bIR : Binds K fdIR ["reminder", "period", "persons"] []
  gAs : mg "is_ascending_at" = some (.ref fAs)
  FAs : Fun K "is_ascending_at" "is_ascending_at" sAsc fAs fdAs
  bAs : Binds K fdAs ["items", "index"] []
def spChkKeys (K : PySem.W.Frag) (C : Addr) : Sp := fun vs H Q E => ∃ (v : V) (d : PyData), vs = [v] ∧ Dp K H v d ∧ (chkKeys d = none → Q .non H) ∧ (chkKeys d = some 0 → Raised C E H "keys" 0)
def SmallS (d : PyData) : Prop := match d with
  | .str t => t.length ≤ 100000
  | _ => True
def spChkTabs (K : PySem.W.Frag) (C : Addr) : Sp := fun vs H Q E => ∃ (v : V) (d : PyData), vs = [v] ∧ Dp K H v d ∧ (∀ ds, d = .tuple ds → ∀ x ∈ ds, SmallS x) ∧
  (chkTabs d = none → ∀ H', Same H H' → Q .non H') ∧ (∀ i, chkTabs d = some i → Raised C E H "tables" (i : Int))
section
variable {P : Program} {w : World} {K : PySem.W.Frag} {mg : Str → Option Value} {base : Heap} {C fI : Addr} {fdI : FuncData} {fII fIB fHO : Addr} {fdII fdIB fdHO : FuncData} {fIT fIR fAs : Addr} {fdIT fdIR fdAs : FuncData}
theorem scChkKeys : FnScope ["keys"] ["keys"] (defScope sChkKeys) := ⟨rfl, rfl, rfl, by decide +kernel, rfl, by decide +kernel, by decide +kernel⟩
theorem ok_chkkeys {f : Addr} {fd : FuncData} (F : Fun K "check_keys" "check_keys" sChkKeys f fd) (TF : TxtF K mg fII fIB fHO fdII fdIB fdHO) (TI : TxtI K mg fIT fIR fAs fdIT fdIR fdAs) (TH : TxtIH K mg C fI fdI) :
    FnOk P w K mg base (L2.CX P w) 3 f fd ["keys"] (spChkKeys K C) := by
  have GB : FnOk P w K mg base CX0 2 fIB fdIB ["value", "limit"] (spIsBelow K) := ok_isbelow TF
  have GI : FnOk P w K mg base CX0 1 fI fdI ["self", "part", "index"] (spIHInit C) := ok_ihinit TH
  obtain ⟨tk, ek⟩ := TI.keys
  refine F.okX scChkKeys (fun vs H Q E h => ?_) (fun cdv A outer s H vs Q E hr h => ?_)
  · obtain ⟨v, d, rfl, _⟩ := h
    rfl
  · obtain ⟨v, d, rfl, hd, k1, k2⟩ := h
    refine ⟨_, pss_one (ps_if (pt_not (pt_val (pe_call GB hr rfl TF.gIB TF.FIB.kp TF.bIB .nil pass0 (pa_cons (pv 0) (pa_cons (pe_op op_add (pe_glob (v := .int 9) rfl ek ⟨_, rfl⟩) pe_int) pa_nil)))))
      (pss_one (ps_raise rfl (takes_of rfl rfl rfl rfl) (pmk_oex TH.O TH.iC TH.tI GI hr TH.b .nil pass0 rfl TH.gC (pa_cons pe_str (pa_cons pe_int pa_nil))))) pss_nil), ?_⟩
    refine ⟨_, rfl, _, _, rfl, rfl, v, d, _, rfl, hd, _, rfl, ?_⟩
    have e : below d (9 + 1) = below d 10 := rfl
    rw [e]
    cases c : below d 10 with
    | true => exact iteF (k1 (by unfold chkKeys; rw [c]; rfl))
    | false => exact iteT (raise_ih (k2 (by unfold chkKeys; rw [c]; rfl)))
theorem scChkTabs : FnScope ["tables", "index", "table"] ["tables"] (defScope sChkTables) := ⟨rfl, rfl, rfl, by decide +kernel, rfl, by decide +kernel, by decide +kernel⟩
theorem ok_chktabs {f : Addr} {fd : FuncData} (F : Fun K "check_tables" "check_tables" sChkTables f fd) (T : TxtA mg) (TF : TxtF K mg fII fIB fHO fdII fdIB fdHO) (TI : TxtI K mg fIT fIR fAs fdIT fdIR fdAs) (TH : TxtIH K mg C fI fdI) :
    FnOk P w K mg base (L2.CX P w) 3 f fd ["tables"] (spChkTabs K C) := by
  have GT : FnOk P w K mg base CX0 2 fIT fdIT ["table"] (spIsTable K) := ok_istable TI.FIT T TF
  have GI : FnOk P w K mg base CX0 1 fI fdI ["self", "part", "index"] (spIHInit C) := ok_ihinit TH
  obtain ⟨tk, ek⟩ := TI.most
  refine F.okX scChkTabs (fun vs H Q E h => ?_) (fun cdv A outer s H vs Q E hr h => ?_)
  · obtain ⟨v, d, rfl, _⟩ := h
    rfl
  · obtain ⟨v, d, rfl, hd, hz, k1, k2⟩ := h
    refine ⟨_, pss_cons (ps_if (PW.pt (pw_or (pt_not (pt_val (pe_callB call_isi (by rfl) TF.isinstance (by decide +kernel) (pa_cons (pv 0) (pa_cons (pe_bltn (v := .ty "tuple") (by rfl) TF.tuple (by decide +kernel) rfl) pa_nil)))))
          (pw_or1 (pt_not (pt_truth (pv 0) (by intro _; rfl))))))
        (pss_one (ps_raise rfl (takes_of rfl rfl rfl rfl) (pmk_oex TH.O TH.iC TH.tI GI hr TH.b .nil pass0 rfl TH.gC (pa_cons pe_str (pa_cons pe_int pa_nil))))) pss_nil)
      (pss_one (ps_for (passes_of rfl) rfl (pi_enumT (by rfl) TI.enumerate (pa_cons (pv 0) pa_nil)) (pg_tup rfl (pgs_cons (pg_name (i := 1) scChkTabs.nd rfl (.inl rfl)) (pgs_cons (pg_name (i := 2) scChkTabs.nd rfl (.inl rfl)) pgs_nil)))
        (pss_one (ps_if (PW.pt (pw_or (pt_cmpR op_eq (pv 1) (pe_glob (v := .int 6) rfl ek ⟨_, rfl⟩) (nomark _)) (pw_or1 (pt_not (pt_val (pe_call GT hr rfl TI.gIT TI.FIT.kp TI.bIT .nil pass0 (pa_cons (pv 2) pa_nil)))))))
          (pss_one (ps_raise rfl (takes_of rfl rfl rfl rfl) (pmk_oex TH.O TH.iC TH.tI GI hr TH.b .nil pass0 rfl TH.gC (pa_cons pe_str (pa_cons (pv 1) pa_nil))))) pss_nil)))), ?_⟩
    refine ⟨_, rfl, _, _, _, _, _, rfl, .ty "tuple", tyx hd, kit_ty (kit_tup d), _, rfl, ?_⟩
    cases hd with
    | str x => exact iteT (iteT (raise_ih (k2 0 rfl)))
    | non => exact iteT (iteT (raise_ih (k2 0 rfl)))
    | bl b => exact iteT (iteT (raise_ih (k2 0 rfl)))
    | int i => exact iteT (iteT (raise_ih (k2 0 rfl)))
    | lst hs ha => exact iteT (iteT (raise_ih (k2 0 rfl)))
    | @tup a xs ds hs ha =>
      refine iteF ⟨_, rfl, !xs.isEmpty, .inr (.inl ⟨xs, hs, rfl⟩), ?_⟩
      have hl := dpAll_len ha
      have hds : ds = [] ∨ ∃ d0 r, ds = d0 :: r := by
        cases ds with
        | nil => exact .inl rfl
        | cons d0 r => exact .inr ⟨d0, r, rfl⟩
      rcases hds with rfl | ⟨d0, r, hds⟩
      · cases ha
        exact iteT (raise_ih (k2 0 rfl))
      · have hx : xs.isEmpty = false := by
          cases xs with
          | nil => rw [hds] at hl; cases hl
          | cons x xs => rfl
        rw [hx]
        have ec : chkTabs (.tuple ds) = bad1 (fun i t => i == 6 || !isTabD t) 0 ds := by rw [hds]; rfl
        rw [ec] at k1 k2
        have hz' := hz ds rfl
        refine iteF ⟨_, rfl, a, xs, rfl, hs, for_it walk_enumT
          (fun i σ H' => ∃ v1 v2 : Option V, σ = [some (.ref a), v1, v2] ∧ Same H H' ∧ bad1 (fun i t => i == 6 || !isTabD t) 0 ds = bad1 (fun i t => i == 6 || !isTabD t) i (ds.drop i))
          ⟨none, none, rfl, Same.refl H, rfl⟩ (fun i σ H' _ ⟨_, _, _, e, _⟩ => sSqT e hs) ?_ ?_⟩
        · rintro i y σ H1 H2 hi ⟨v1, v2, rfl, s1, eb⟩ ⟨Tp, y1, y2, rfl, hTp, rfl, e1, e2⟩
          cases e1
          obtain ⟨dx, edx, hdx⟩ := dpAll_get ha e2
          have s2 : Same H (upd H1 Tp (.tup [.int (i : Nat), y2])) := s1.trans (same_upd hTp)
          have hm : dx ∈ ds := List.mem_of_getElem? edx
          have st := bad1_step (p := fun i t => i == 6 || !isTabD t) edx
          refine ⟨Tp, _, rfl, SqT.of upd_same, rfl, _, _, rfl, _, _, rfl, rfl, ?_⟩
          refine ⟨_, rfl, rfl, _, rfl, ?_⟩
          by_cases c6 : i = 6
          · have c6' : decide (V.int ((i : Nat) : Int) = V.int 6) = true := decide_eq_true (by rw [c6]; rfl)
            rw [c6']
            refine iteT (iteT ⟨_, rfl, raise_ih (Raised.mono (k2 i ?_) s2)⟩)
            rw [eb, st, c6]; rfl
          · have c6' : decide (V.int ((i : Nat) : Int) = V.int 6) = false := decide_eq_false fun q => c6 (by have := V.int.inj q; omega)
            rw [c6']
            refine iteF ⟨_, rfl, y2, dx, rfl, dpSame s2 _ _ hdx, fun t et => ?_, fun H3 s3 => ⟨_, rfl, ?_⟩⟩
            · have := hz' dx hm
              rw [et] at this
              exact this
            · have c6b : (i == 6) = false := by simpa using c6
              rw [c6b, Bool.false_or] at st
              cases c : isTabD dx with
              | true =>
                rw [c] at st
                refine iteF ⟨_, _, rfl, s2.trans s3, ?_⟩
                rw [eb, st]; rfl
              | false =>
                rw [c] at st
                refine iteT ⟨_, rfl, raise_ih (Raised.mono (k2 i ?_) (s2.trans s3))⟩
                rw [eb, st]; rfl
        · rintro σ H1 ⟨v1, v2, rfl, s1, eb⟩
          refine k1 ?_ H1 s1
          rw [eb, hl]
          exact bad1_end
end
end Dk

set_option Elab.async false
set_option linter.all false
set_option maxRecDepth 100000
set_option maxHeartbeats 1000000
namespace Dk
open PySem PySem.Spec PyProof.Rows L2 TL
theorem below_int {d : PyData} {n : Int} (h : below d n = true) : ∃ i, d = .int i ∧ 0 ≤ i ∧ i < n := by
  cases d with
  | int i =>
    have h' : (decide ((0 : Int) ≤ i) && decide (i < n)) = true := h
    rw [Bool.and_eq_true] at h'
    exact ⟨i, rfl, of_decide_eq_true h'.1, of_decide_eq_true h'.2⟩
  | none => cases h
  | bool _ => cases h
  | str _ => cases h
  | list _ => cases h
  | tuple _ => cases h
  | dict _ => cases h
theorem isRem_pr {d : PyData} {per n : Int} (h : isRemD d per n = true) : ∃ i j, d = .tuple [.int i, .int j] ∧ 0 ≤ i ∧ i < per ∧ 0 ≤ j ∧ j < n := by
  unfold isRemD at h
  split at h
  · rename_i a b
    rw [Bool.and_eq_true] at h
    obtain ⟨i, rfl, h1, h2⟩ := below_int h.1
    obtain ⟨j, rfl, h3, h4⟩ := below_int h.2
    exact ⟨i, j, rfl, h1, h2, h3, h4⟩
  · cases h
def spChkCareful (K : PySem.W.Frag) (C : Addr) : Sp := fun vs H Q E => ∃ (v : V) (d : PyData) (n : Int), vs = [v, .int n] ∧ Dp K H v d ∧
  (chkCareful d n = none → ∀ H', Same H H' → Q .non H') ∧ (∀ i, chkCareful d n = some i → Raised C E H "careful" (i : Int))
def spChkRem (K : PySem.W.Frag) (C : Addr) : Sp := fun vs H Q E => ∃ (v : V) (d : PyData) (per n : Int), vs = [v, .int per, .int n] ∧ Dp K H v d ∧
  (chkRem d per n = none → ∀ H', Same H H' → Q .non H') ∧ (∀ i, chkRem d per n = some i → Raised C E H "reminders" (i : Int))
theorem getD_of {ds : List PyData} {i : Nat} {d : PyData} (h : ds[i]? = some d) : ds.getD i .none = d := by rw [List.getD_eq_getElem?_getD, h]; rfl
section
variable {P : Program} {w : World} {K : PySem.W.Frag} {mg : Str → Option Value} {base : Heap} {C fI : Addr} {fdI : FuncData} {fII fIB fHO : Addr} {fdII fdIB fdHO : FuncData} {fIT fIR fAs : Addr} {fdIT fdIR fdAs : FuncData}
theorem scChkCareful : FnScope ["careful", "persons", "index", "person"] ["careful", "persons"] (defScope sChkCareful) := ⟨rfl, rfl, rfl, by decide +kernel, rfl, by decide +kernel, by decide +kernel⟩
theorem ok_chkcareful {f : Addr} {fd : FuncData} (F : Fun K "check_careful" "check_careful" sChkCareful f fd) (T : TxtA mg) (TF : TxtF K mg fII fIB fHO fdII fdIB fdHO) (TI : TxtI K mg fIT fIR fAs fdIT fdIR fdAs) (TH : TxtIH K mg C fI fdI) :
    FnOk P w K mg base (L2.CX P w) 3 f fd ["careful", "persons"] (spChkCareful K C) := by
  have GB : FnOk P w K mg base CX0 2 fIB fdIB ["value", "limit"] (spIsBelow K) := ok_isbelow TF
  have GA : FnOk P w K mg base CX0 1 fAs fdAs ["items", "index"] (spAsc K) := ok_asc TI.FAs
  have GI : FnOk P w K mg base CX0 1 fI fdI ["self", "part", "index"] (spIHInit C) := ok_ihinit TH
  refine F.okX scChkCareful (fun vs H Q E h => ?_) (fun cdv A outer s H vs Q E hr h => ?_)
  · obtain ⟨v, d, n, rfl, _⟩ := h
    rfl
  · obtain ⟨v, d, n, rfl, hd, k1, k2⟩ := h
    have hr1 : Room 1 (A.deeper (envOfC (Str.ofString "check_careful") (defScope sChkCareful) s.heap.objs.size f cdv)) := hr.mono (by decide)
    refine ⟨_, pss_cons (ps_if (pt_not (pt_val (pe_callB call_isi (by rfl) TF.isinstance (by decide +kernel) (pa_cons (pv 0) (pa_cons (pe_bltn (v := .ty "tuple") (by rfl) TF.tuple (by decide +kernel) rfl) pa_nil)))))
        (pss_one (ps_raise rfl (takes_of rfl rfl rfl rfl) (pmk_oex TH.O TH.iC TH.tI GI hr TH.b .nil pass0 rfl TH.gC (pa_cons pe_str (pa_cons pe_int pa_nil))))) pss_nil)
      (pss_one (ps_for (passes_of rfl) rfl (pi_enumT (by rfl) TI.enumerate (pa_cons (pv 0) pa_nil)) (pg_tup rfl (pgs_cons (pg_name (i := 2) scChkCareful.nd rfl (.inl rfl)) (pgs_cons (pg_name (i := 3) scChkCareful.nd rfl (.inl rfl)) pgs_nil)))
        (pss_one (ps_if (PW.pt (pw_or (pt_not (pt_val (pe_call GB hr rfl TF.gIB TF.FIB.kp TF.bIB .nil pass0 (pa_cons (pv 3) (pa_cons (pv 1) pa_nil)))))
            (pw_or1 (pt_not (pt_val (pe_call GA hr1 rfl TI.gAs TI.FAs.kp TI.bAs .nil pass0 (pa_cons (pv 0) (pa_cons (pv 2) pa_nil))))))))
          (pss_one (ps_raise rfl (takes_of rfl rfl rfl rfl) (pmk_oex TH.O TH.iC TH.tI GI hr TH.b .nil pass0 rfl TH.gC (pa_cons pe_str (pa_cons (pv 2) pa_nil))))) pss_nil)))), ?_⟩
    refine ⟨_, rfl, _, _, _, _, _, rfl, .ty "tuple", tyx hd, kit_ty (kit_tup d), _, rfl, ?_⟩
    cases hd with
    | str x => exact iteT (raise_ih (k2 0 rfl))
    | non => exact iteT (raise_ih (k2 0 rfl))
    | bl b => exact iteT (raise_ih (k2 0 rfl))
    | int i => exact iteT (raise_ih (k2 0 rfl))
    | lst hs ha => exact iteT (raise_ih (k2 0 rfl))
    | @tup a xs ds hs ha =>
      have hl := dpAll_len ha
      have ec : chkCareful (.tuple ds) n = bad1 (fun i x => !below x n || !ascI ds i) 0 ds := rfl
      rw [ec] at k1 k2
      refine iteF ⟨_, rfl, a, xs, rfl, hs, for_it walk_enumT
        (fun i σ H' => ∃ v1 v2 : Option V, σ = [some (.ref a), some (.int n), v1, v2] ∧ Same H H' ∧ bad1 (fun i x => !below x n || !ascI ds i) 0 ds = bad1 (fun i x => !below x n || !ascI ds i) i (ds.drop i) ∧ ∀ j d, j < i → ds[j]? = some d → below d n = true)
        ⟨none, none, rfl, Same.refl H, rfl, fun j d hj => absurd hj (Nat.not_lt_zero _)⟩ (fun i σ H' _ ⟨_, _, _, e, _⟩ => sSqT e hs) ?_ ?_⟩
      · rintro i y σ H1 H2 hi ⟨v1, v2, rfl, s1, eb, hall⟩ ⟨Tp, y1, y2, rfl, hTp, rfl, e1, e2⟩
        cases e1
        obtain ⟨dx, edx, hdx⟩ := dpAll_get ha e2
        have s2 : Same H (upd H1 Tp (.tup [.int (i : Nat), y2])) := s1.trans (same_upd hTp)
        have st := bad1_step (p := fun i x => !below x n || !ascI ds i) edx
        refine ⟨Tp, _, rfl, SqT.of upd_same, rfl, _, _, rfl, _, _, rfl, rfl, ?_⟩
        refine ⟨_, rfl, _, rfl, y2, dx, n, rfl, dpSame s2 _ _ hdx, _, rfl, ?_⟩
        cases c : below dx n with
        | false =>
          rw [c] at st
          refine iteT (iteT ⟨_, rfl, raise_ih (Raised.mono (k2 i ?_) s2)⟩)
          rw [eb, st]; rfl
        | true =>
          rw [c] at st
          have st' : bad1 (fun i x => !below x n || !ascI ds i) i (ds.drop i) = if (!ascI ds i) = true then some i else bad1 (fun i x => !below x n || !ascI ds i) (i + 1) (ds.drop (i + 1)) := st
          refine iteF ⟨_, rfl, _, rfl, a, xs, i, ascI ds i, rfl, sSqT s2 hs, hi, fun e0 => by rw [e0]; rfl, fun j ej => ?_, _, rfl, ?_⟩
          · subst ej
            obtain ⟨x, ex⟩ : ∃ x, xs[j]? = some x := ⟨xs[j]'(by omega), List.getElem?_eq_getElem _⟩
            obtain ⟨dj, edj, hdj⟩ := dpAll_get ha ex
            obtain ⟨m1, rfl, _, _⟩ := below_int (hall j dj (Nat.lt_succ_self _) edj)
            obtain ⟨m2, rfl, _, _⟩ := below_int c
            cases hdj
            cases hdx
            refine ⟨_, _, ex, e2, .inl ⟨m1, m2, rfl, rfl, ?_⟩⟩
            show decide (intOf (ds.getD j .none) < intOf (ds.getD (j + 1) .none)) = decide (m1 < m2)
            rw [getD_of edj, getD_of edx]; rfl
          · cases c2 : ascI ds i with
            | true =>
              rw [c2] at st'
              refine iteF ⟨_, _, rfl, s2, ?_, fun j d hj ej => ?_⟩
              · rw [eb, st']; rfl
              · by_cases e : j = i
                · subst e; rw [edx] at ej; cases ej; exact c
                · exact hall j d (by omega) ej
            | false =>
              rw [c2] at st'
              refine iteT ⟨_, rfl, raise_ih (Raised.mono (k2 i ?_) s2)⟩
              rw [eb, st']; rfl
      · rintro σ H1 ⟨v1, v2, rfl, s1, eb, _⟩
        refine k1 ?_ H1 s1
        rw [eb, hl]
        exact bad1_end
theorem scChkRem : FnScope ["reminders", "period", "persons", "index", "reminder"] ["reminders", "period", "persons"] (defScope sChkRem) := ⟨rfl, rfl, rfl, by decide +kernel, rfl, by decide +kernel, by decide +kernel⟩
theorem ok_chkrem {f : Addr} {fd : FuncData} (F : Fun K "check_reminders" "check_reminders" sChkRem f fd) (T : TxtA mg) (TF : TxtF K mg fII fIB fHO fdII fdIB fdHO) (TI : TxtI K mg fIT fIR fAs fdIT fdIR fdAs) (TH : TxtIH K mg C fI fdI) :
    FnOk P w K mg base (L2.CX P w) 4 f fd ["reminders", "period", "persons"] (spChkRem K C) := by
  have GR : FnOk P w K mg base CX0 3 fIR fdIR ["reminder", "period", "persons"] (spIsRem K) := ok_isrem TI.FIR T TF
  have GA : FnOk P w K mg base CX0 1 fAs fdAs ["items", "index"] (spAsc K) := ok_asc TI.FAs
  have GI : FnOk P w K mg base CX0 1 fI fdI ["self", "part", "index"] (spIHInit C) := ok_ihinit TH
  obtain ⟨tk, ek⟩ := TI.rems
  refine F.okX scChkRem (fun vs H Q E h => ?_) (fun cdv A outer s H vs Q E hr h => ?_)
  · obtain ⟨v, d, per, n, rfl, _⟩ := h
    rfl
  · obtain ⟨v, d, per, n, rfl, hd, k1, k2⟩ := h
    have hr1 : Room 1 (A.deeper (envOfC (Str.ofString "check_reminders") (defScope sChkRem) s.heap.objs.size f cdv)) := hr.mono (by decide)
    have hr2 : Room 2 (A.deeper (envOfC (Str.ofString "check_reminders") (defScope sChkRem) s.heap.objs.size f cdv)) := hr.mono (by decide)
    refine ⟨_, pss_cons (ps_if (pt_not (pt_val (pe_callB call_isi (by rfl) TF.isinstance (by decide +kernel) (pa_cons (pv 0) (pa_cons (pe_bltn (v := .ty "tuple") (by rfl) TF.tuple (by decide +kernel) rfl) pa_nil)))))
        (pss_one (ps_raise rfl (takes_of rfl rfl rfl rfl) (pmk_oex TH.O TH.iC TH.tI GI hr2 TH.b .nil pass0 rfl TH.gC (pa_cons pe_str (pa_cons pe_int pa_nil))))) pss_nil)
      (pss_one (ps_for (passes_of rfl) rfl (pi_enumT (by rfl) TI.enumerate (pa_cons (pv 0) pa_nil)) (pg_tup rfl (pgs_cons (pg_name (i := 3) scChkRem.nd rfl (.inl rfl)) (pgs_cons (pg_name (i := 4) scChkRem.nd rfl (.inl rfl)) pgs_nil)))
        (pss_cons (ps_if (PW.pt (pw_or (pt_cmpR op_eq (pv 3) (pe_glob (v := .int 10) rfl ek ⟨_, rfl⟩) (nomark _)) (pw_or1 (pt_not (pt_val (pe_call GR hr rfl TI.gIR TI.FIR.kp TI.bIR .nil pass0 (pa_cons (pv 4) (pa_cons (pv 1) (pa_cons (pv 2) pa_nil)))))))))
          (pss_one (ps_raise rfl (takes_of rfl rfl rfl rfl) (pmk_oex TH.O TH.iC TH.tI GI hr2 TH.b .nil pass0 rfl TH.gC (pa_cons pe_str (pa_cons (pv 3) pa_nil))))) pss_nil)
        (pss_one (ps_if (pt_not (pt_val (pe_call GA hr1 rfl TI.gAs TI.FAs.kp TI.bAs .nil pass0 (pa_cons (pv 0) (pa_cons (pv 3) pa_nil)))))
          (pss_one (ps_raise rfl (takes_of rfl rfl rfl rfl) (pmk_oex TH.O TH.iC TH.tI GI hr2 TH.b .nil pass0 rfl TH.gC (pa_cons pe_str (pa_cons (pv 3) pa_nil))))) pss_nil))))), ?_⟩
    refine ⟨_, rfl, _, _, _, _, _, rfl, .ty "tuple", tyx hd, kit_ty (kit_tup d), _, rfl, ?_⟩
    cases hd with
    | str x => exact iteT (raise_ih (k2 0 rfl))
    | non => exact iteT (raise_ih (k2 0 rfl))
    | bl b => exact iteT (raise_ih (k2 0 rfl))
    | int i => exact iteT (raise_ih (k2 0 rfl))
    | lst hs ha => exact iteT (raise_ih (k2 0 rfl))
    | @tup a xs ds hs ha =>
      have hl := dpAll_len ha
      have ec : chkRem (.tuple ds) per n = bad1 (fun i x => i == 10 || !isRemD x per n || !ascP ds i) 0 ds := rfl
      rw [ec] at k1 k2
      refine iteF ⟨_, rfl, a, xs, rfl, hs, for_it walk_enumT
        (fun i σ H' => ∃ v1 v2 : Option V, σ = [some (.ref a), some (.int per), some (.int n), v1, v2] ∧ Same H H' ∧ bad1 (fun i x => i == 10 || !isRemD x per n || !ascP ds i) 0 ds = bad1 (fun i x => i == 10 || !isRemD x per n || !ascP ds i) i (ds.drop i) ∧ ∀ j d, j < i → ds[j]? = some d → isRemD d per n = true)
        ⟨none, none, rfl, Same.refl H, rfl, fun j d hj => absurd hj (Nat.not_lt_zero _)⟩ (fun i σ H' _ ⟨_, _, _, e, _⟩ => sSqT e hs) ?_ ?_⟩
      · rintro i y σ H1 H2 hi ⟨v1, v2, rfl, s1, eb, hall⟩ ⟨Tp, y1, y2, rfl, hTp, rfl, e1, e2⟩
        cases e1
        obtain ⟨dx, edx, hdx⟩ := dpAll_get ha e2
        have s2 : Same H (upd H1 Tp (.tup [.int (i : Nat), y2])) := s1.trans (same_upd hTp)
        have st := bad1_step (p := fun i x => i == 10 || !isRemD x per n || !ascP ds i) edx
        refine ⟨Tp, _, rfl, SqT.of upd_same, rfl, _, _, rfl, _, _, rfl, rfl, ?_⟩
        refine ⟨_, rfl, rfl, _, rfl, ?_⟩
        by_cases c6 : i = 10
        · have c6' : decide (V.int ((i : Nat) : Int) = V.int 10) = true := decide_eq_true (by rw [c6]; rfl)
          rw [c6']
          refine iteT (iteT ⟨_, rfl, raise_ih (Raised.mono (k2 i ?_) s2)⟩)
          rw [eb, st, c6]; rfl
        · have c6' : decide (V.int ((i : Nat) : Int) = V.int 10) = false := decide_eq_false fun q => c6 (by have := V.int.inj q; omega)
          rw [c6']
          have c6b : (i == 10) = false := by simpa using c6
          rw [c6b, Bool.false_or] at st
          refine iteF ⟨_, rfl, _, rfl, _, rfl, y2, dx, per, n, rfl, dpSame s2 _ _ hdx, _, rfl, ?_⟩
          cases c : isRemD dx per n with
          | false =>
            rw [c] at st
            refine iteT ⟨_, rfl, raise_ih (Raised.mono (k2 i ?_) s2)⟩
            rw [eb, st]; rfl
          | true =>
            rw [c] at st
            have st' : bad1 (fun i x => i == 10 || !isRemD x per n || !ascP ds i) i (ds.drop i) = if (!ascP ds i) = true then some i else bad1 (fun i x => i == 10 || !isRemD x per n || !ascP ds i) (i + 1) (ds.drop (i + 1)) := st
            refine iteF ⟨_, rfl, _, rfl, a, xs, i, ascP ds i, rfl, sSqT s2 hs, hi, fun e0 => by rw [e0]; rfl, fun j ej => ?_, _, rfl, ?_⟩
            · subst ej
              obtain ⟨x, ex⟩ : ∃ x, xs[j]? = some x := ⟨xs[j]'(by omega), List.getElem?_eq_getElem _⟩
              obtain ⟨dj, edj, hdj⟩ := dpAll_get ha ex
              obtain ⟨m1, m2, rfl, _⟩ := isRem_pr (hall j dj (Nat.lt_succ_self _) edj)
              obtain ⟨m3, m4, rfl, _⟩ := isRem_pr c
              cases hdj with
              | tup h1 h2 =>
                cases hdx with
                | tup h3 h4 =>
                  cases h2 with
                  | cons p1 p2 =>
                    cases p2 with
                    | cons p2 p3 =>
                      cases p3
                      cases p1
                      cases p2
                      cases h4 with
                      | cons q1 q2 =>
                        cases q2 with
                        | cons q2 q3 =>
                          cases q3
                          cases q1
                          cases q2
                          refine ⟨_, _, ex, e2, .inr ⟨_, _, [m1, m2], [m3, m4], rfl, rfl, sSqT s2 h1, sSqT s2 h3, ?_⟩⟩
                          show HT.lexLt [(prOf (ds.getD j .none)).1, (prOf (ds.getD j .none)).2] [(prOf (ds.getD (j + 1) .none)).1, (prOf (ds.getD (j + 1) .none)).2] = _
                          rw [getD_of edj, getD_of edx]; rfl
            · cases c2 : ascP ds i with
              | true =>
                rw [c2] at st'
                refine iteF ⟨_, _, rfl, s2, ?_, fun j d hj ej => ?_⟩
                · rw [eb, st']; rfl
                · by_cases e : j = i
                  · subst e; rw [edx] at ej; cases ej; exact c
                  · exact hall j d (by omega) ej
              | false =>
                rw [c2] at st'
                refine iteT ⟨_, rfl, raise_ih (Raised.mono (k2 i ?_) s2)⟩
                rw [eb, st']; rfl
      · rintro σ H1 ⟨v1, v2, rfl, s1, eb, _⟩
        refine k1 ?_ H1 s1
        rw [eb, hl]
        exact bad1_end
end
end Dk

set_option Elab.async false
set_option linter.all false
set_option maxRecDepth 100000
set_option maxHeartbeats 1000000
namespace Dk
open PySem PySem.Spec PyProof.Rows L2 TL
/-! ### the house -/
theorem isTab_of {d : PyData} (h : isTabD d = true) : ∃ t, d = .str t ∧ IsTab t := by
  cases d with
  | str t =>
    have h' : (decide ((t.length : Int) ∈ tabLens) && only t hoS) = true := h
    rw [Bool.and_eq_true] at h'
    refine ⟨t, rfl, ?_, fun c hc => ?_⟩
    · have h1 := of_decide_eq_true h'.1
      rw [len_tl t] at h1
      simp only [tabLens, List.mem_cons, List.not_mem_nil, or_false] at h1 ⊢
      omega
    · have h2 := List.all_eq_true.mp h'.2 c hc
      have h3 := of_decide_eq_true h2
      have e : tl hoS = [104, 111] := by decide +kernel
      rw [e] at h3
      simpa using h3
  | none => cases h
  | bool _ => cases h
  | int _ => cases h
  | list _ => cases h
  | tuple _ => cases h
  | dict _ => cases h
theorem isTab_is {t : Str} (h : IsTab t) : isTabD (.str t) = true := by
  show (decide ((t.length : Int) ∈ tabLens) && only t hoS) = true
  rw [Bool.and_eq_true]
  refine ⟨decide_eq_true ?_, List.all_eq_true.mpr fun c hc => decide_eq_true ?_⟩
  · have h1 := h.len
    rw [len_tl t]
    simp only [tabLens, List.mem_cons, List.not_mem_nil, or_false] at h1 ⊢
    omega
  · have e : tl hoS = [104, 111] := by decide +kernel
    rw [e]
    simpa using h.ho c hc
theorem bad1_none {p : Nat → PyData → Bool} : ∀ {ds : List PyData} {i : Nat}, bad1 p i ds = none ↔ ∀ j d, ds[j]? = some d → p (i + j) d = false
  | [], i => by simp [bad1]
  | d :: ds, i => by
    unfold bad1
    constructor
    · intro h j x hx
      split at h
      · cases h
      · rename_i c
        cases j with
        | zero => simp at hx; subst hx; simpa using c
        | succ j =>
          have := (bad1_none (ds := ds) (i := i + 1)).mp h j x (by simpa using hx)
          rw [show i + (j + 1) = i + 1 + j by omega]; exact this
    · intro h
      have h0 := h 0 d rfl
      rw [Nat.add_zero] at h0
      rw [h0]
      refine (bad1_none (ds := ds) (i := i + 1)).mpr fun j x hx => ?_
      have := h (j + 1) x (by simpa using hx)
      rw [show i + 1 + j = i + (j + 1) by omega]; exact this
theorem strs_of : ∀ {ds : List PyData}, (∀ d ∈ ds, isTabD d = true) → ∃ ts : List Str, ds = ts.map PyData.str ∧ Tabs ts
  | [], _ => ⟨[], rfl, fun t ht => by cases ht⟩
  | d :: ds, h => by
    obtain ⟨t, rfl, ht⟩ := isTab_of (h d (List.mem_cons_self ..))
    obtain ⟨ts, rfl, hts⟩ := strs_of (ds := ds) fun x hx => h x (List.mem_cons_of_mem _ hx)
    refine ⟨t :: ts, rfl, fun x hx => ?_⟩
    rcases List.mem_cons.mp hx with rfl | hx
    · exact ht
    · exact hts x hx
theorem tabs_of {d : PyData} (h : chkTabs d = none) : ∃ ts : List Str, d = .tuple (ts.map PyData.str) ∧ Tabs ts ∧ 1 ≤ ts.length ∧ ts.length ≤ 6 := by
  unfold chkTabs at h
  split at h
  · cases h
  · rename_i d0 ds
    have h' := bad1_none.mp h
    obtain ⟨ts, e, hT⟩ := strs_of (ds := d0 :: ds) fun x hx => by
      obtain ⟨j, hj⟩ := List.getElem?_of_mem hx
      have := h' j x hj
      simp only [Bool.or_eq_false_iff, Bool.not_eq_false'] at this
      exact this.2
    have hl : (d0 :: ds).length = ts.length := by rw [e, List.length_map]
    refine ⟨ts, by rw [e], hT, by rw [← hl]; simp, ?_⟩
    rw [← hl]
    rcases Nat.lt_or_ge 6 (d0 :: ds).length with c | c
    · have hx : (d0 :: ds)[6]? = some ((d0 :: ds)[6]'c) := List.getElem?_eq_getElem c
      have := h' 6 _ hx
      simp at this
    · exact c
  · cases h
theorem tabs_is {ts : List Str} (hT : Tabs ts) (h1 : 1 ≤ ts.length) (h6 : ts.length ≤ 6) : chkTabs (.tuple (ts.map PyData.str)) = none := by
  cases ts with
  | nil => simp at h1
  | cons t ts =>
    show bad1 _ 0 _ = none
    refine bad1_none.mpr fun j d hd => ?_
    have hd' : ((t :: ts).map PyData.str)[j]? = some d := hd
    rw [List.getElem?_map] at hd'
    cases e : (t :: ts)[j]? with
    | none => rw [e] at hd'; cases hd'
    | some x =>
      rw [e] at hd'
      have ed : PyData.str x = d := Option.some.inj hd'
      subst ed
      have hj : j < (t :: ts).length := (List.getElem?_eq_some_iff.mp e).1
      rw [isTab_is (hT x (List.mem_of_getElem? e))]
      have : (0 + j == 6) = false := by simp; omega
      rw [this]; rfl
def lenD : PyData → Nat
  | .tuple ds => ds.length
  | _ => 0
def strOf : PyData → Str
  | .str t => t
  | _ => Str.empty
def perD : PyData → Nat
  | .tuple ds => per (ds.map strOf)
  | _ => 1
/-- the first invalid part of a house -/
def chkHouse (dT dK dC dR : PyData) : Option (Str × Nat) :=
  match chkTabs dT with
  | some i => some ("tables", i)
  | none => match chkKeys dK with
    | some i => some ("keys", i)
    | none => match chkCareful dC (lenD dT : Int) with
      | some i => some ("careful", i)
      | none => match chkRem dR (perD dT : Int) (lenD dT : Int) with
        | some i => some ("reminders", i)
        | none => none
end Dk

set_option Elab.async false
set_option linter.all false
set_option maxRecDepth 100000
set_option maxHeartbeats 1000000
namespace Dk
open PySem PySem.Spec PyProof.Rows L2 TL
abbrev hFields (vT vK vC vR : V) : List (Str × V) := putF "reminders" vR (putF "careful" vC (putF "key_count" vK (putF "tables" vT [])))
theorem hf_len (vT vK vC vR : V) : (hFields vT vK vC vR).length = 4 := by rfl
structure TxtL (K : PySem.W.Frag) (mg : Str → Option Value) (C fP fT fK fC fR : Addr) (fdP fdT fdK fdC fdR : FuncData) : Prop where
  cl : Cls K C
  nT : NoAttr K C "tables"
  nK : NoAttr K C "key_count"
  nC : NoAttr K C "careful"
  nR : NoAttr K C "reminders"
  gP : mg "common_period" = some (.ref fP)
  FP : Fun K "common_period" "common_period" sPeriod fP fdP
  bP : Binds K fdP ["tables"] []
  gT : mg "check_tables" = some (.ref fT)
  FT : Fun K "check_tables" "check_tables" sChkTables fT fdT
  bT : Binds K fdT ["tables"] []
  gK : mg "check_keys" = some (.ref fK)
  FK : Fun K "check_keys" "check_keys" sChkKeys fK fdK
  bK : Binds K fdK ["keys"] []
  gCa : mg "check_careful" = some (.ref fC)
  FC : Fun K "check_careful" "check_careful" sChkCareful fC fdC
  bC : Binds K fdC ["careful", "persons"] []
  gR : mg "check_reminders" = some (.ref fR)
  FR : Fun K "check_reminders" "check_reminders" sChkRem fR fdR
  bR : Binds K fdR ["reminders", "period", "persons"] []
def spInit (K : PySem.W.Frag) (C CI : Addr) : Sp := fun vs H Q E => ∃ (p dx : Addr) (vT vK vC vR : V) (dT dK dC dR : PyData), vs = [.ref p, vT, vK, vC, vR] ∧ Dp K H vT dT ∧ Dp K H vK dK ∧ Dp K H vC dC ∧ Dp K H vR dR ∧
  (∀ ds, dT = .tuple ds → ∀ x ∈ ds, SmallS x) ∧ H p = some (.ins C dx []) ∧
  (chkHouse dT dK dC dR = none → ∀ H', Kp p H H' → H' p = some (.ins C dx (hFields vT vK vC vR)) → Q .non H') ∧
  (∀ part i, chkHouse dT dK dC dR = some (part, i) → Raised CI E H part (i : Int))
section
variable {P : Program} {w : World} {K : PySem.W.Frag} {mg : Str → Option Value} {base : Heap} {C fI : Addr} {fdI : FuncData} {fII fIB fHO : Addr} {fdII fdIB fdHO : FuncData} {fIT fIR fAs : Addr} {fdIT fdIR fdAs : FuncData}
  {CH fP fT fK fC fR : Addr} {fdP fdT fdK fdC fdR : FuncData}
theorem scInit : FnScope ["self", "tables", "keys", "careful", "reminders"] ["self", "tables", "keys", "careful", "reminders"] (defScope sInit) := ⟨rfl, rfl, rfl, by decide +kernel, rfl, by decide +kernel, by decide +kernel⟩
theorem strs_back {ts : List Str} : (ts.map PyData.str).map strOf = ts := by
  induction ts with
  | nil => rfl
  | cons t ts ih => rw [List.map_cons, List.map_cons, ih]; rfl
theorem dp_tabs {K : PySem.W.Frag} {H : Hp} {v : V} {ts : List Str} (h : Dp K H v (.tuple (ts.map PyData.str))) : ∃ a, v = .ref a ∧ SqT K H a (ts.map V.str) := by
  cases h with
  | @tup a xs ds hs ha =>
    refine ⟨a, rfl, ?_⟩
    have e : xs = ts.map V.str := by
      clear hs
      induction ts generalizing xs with
      | nil => cases ha; rfl
      | cons t ts ih =>
        cases ha with
        | cons h1 h2 =>
          cases h1
          rw [ih h2]; rfl
    rw [← e]; exact hs
theorem ok_init {f : Addr} {fd : FuncData} {dvs : List V} (F : FunD K "__init__" "House.__init__" (defArgs sInit) (defBody sInit) (defScope sInit) dvs [] f fd) (T : TxtA mg) (TC : TxtC mg) (TF : TxtF K mg fII fIB fHO fdII fdIB fdHO) (TI : TxtI K mg fIT fIR fAs fdIT fdIR fdAs) (TH : TxtIH K mg C fI fdI)
    (TL' : TxtL K mg CH fP fT fK fC fR fdP fdT fdK fdC fdR) :
    FnOk P w K mg base (L2.CX P w) 5 f fd ["self", "tables", "keys", "careful", "reminders"] (spInit K CH C) := by
  have GP : FnOk P w K mg base CX0 1 fP fdP ["tables"] (spPeriod K) := ok_period TL'.FP T TC
  have GT : FnOk P w K mg base (L2.CX P w) 3 fT fdT ["tables"] (spChkTabs K C) := ok_chktabs TL'.FT T TF TI TH
  have GK : FnOk P w K mg base (L2.CX P w) 3 fK fdK ["keys"] (spChkKeys K C) := ok_chkkeys TL'.FK TF TI TH
  have GC : FnOk P w K mg base (L2.CX P w) 3 fC fdC ["careful", "persons"] (spChkCareful K C) := ok_chkcareful TL'.FC T TF TI TH
  have GR : FnOk P w K mg base (L2.CX P w) 4 fR fdR ["reminders", "period", "persons"] (spChkRem K C) := ok_chkrem TL'.FR T TF TI TH
  refine F.ok scInit (fun vs H Q E h => ?_) (fun cdv A outer s H vs Q E hr h => ?_)
  · obtain ⟨p, dx, vT, vK, vC, vR, dT, dK, dC, dR, rfl, _⟩ := h
    rfl
  · obtain ⟨p, dx, vT, vK, vC, vR, dT, dK, dC, dR, rfl, hT, hK, hC, hR, hz, hp, k1, k2⟩ := h
    have hr3 : Room 3 (A.deeper (envOfC (Str.ofString "House.__init__") (defScope sInit) s.heap.objs.size f cdv)) := hr.mono (by decide)
    have hr1 : Room 1 (A.deeper (envOfC (Str.ofString "House.__init__") (defScope sInit) s.heap.objs.size f cdv)) := hr.mono (by decide)
    refine ⟨_, pss_cons (ps_expr (pe_call GT hr3 rfl TL'.gT TL'.FT.kp TL'.bT .nil (passes_call (takes_of rfl rfl rfl rfl) (fun _ _ _ _ h => h)) (pa_cons (pv 1) pa_nil)))
      (pss_cons (ps_expr (pe_call GK hr3 rfl TL'.gK TL'.FK.kp TL'.bK .nil (passes_call (takes_of rfl rfl rfl rfl) (fun _ _ _ _ h => h)) (pa_cons (pv 2) pa_nil)))
      (pss_cons (ps_expr (pe_call GC hr3 rfl TL'.gCa TL'.FC.kp TL'.bC .nil (passes_call (takes_of rfl rfl rfl rfl) (fun _ _ _ _ h => h)) (pa_cons (pv 3) (pa_cons (pe_callB call_len_seq (by rfl) T.len PySem.boot_len (pa_cons (pv 1) pa_nil)) pa_nil))))
      (pss_cons (ps_expr (pe_call GR hr rfl TL'.gR TL'.FR.kp TL'.bR .nil (passes_call (takes_of rfl rfl rfl rfl) (fun _ _ _ _ h => h)) (pa_cons (pv 4) (pa_cons (pe_call GP hr1 rfl TL'.gP TL'.FP.kp TL'.bP .nil pass0 (pa_cons (pv 1) pa_nil)) (pa_cons (pe_callB call_len_seq (by rfl) T.len PySem.boot_len (pa_cons (pv 1) pa_nil)) pa_nil)))))
      (pss_cons (ps_fld (pv 0) (pv 1) rfl) (pss_cons (ps_fld (pv 0) (pv 2) rfl) (pss_cons (ps_fld (pv 0) (pv 3) rfl) (pss_one (ps_fld (pv 0) (pv 4) rfl)))))))), ?_⟩
    refine ⟨_, rfl, vT, dT, rfl, hT, hz, fun cT H1 s1 => ?_, fun i c => k2 "tables" i (by unfold chkHouse; rw [c])⟩
    obtain ⟨ts, rfl, hTs, h1, h6⟩ := tabs_of cT
    obtain ⟨aT, rfl, hsT⟩ := dp_tabs hT
    refine ⟨_, rfl, vK, dK, rfl, dpSame s1 _ _ hK, fun cK => ?_, fun c => Raised.mono (k2 "keys" 0 (by unfold chkHouse; rw [cT]; dsimp only; rw [c])) s1⟩
    refine ⟨_, rfl, _, rfl, aT, _, rfl, .inr (sSqT s1 hsT), vC, dC, _, rfl, dpSame s1 _ _ hC, ?_⟩
    rw [show (((ts.map V.str).length : Nat) : Int) = (lenD (.tuple (ts.map PyData.str)) : Int) by show _ = (((ts.map PyData.str).length : Nat) : Int); rw [List.length_map, List.length_map]]
    refine ⟨fun cC H2 s2 => ?_, fun i c => Raised.mono (k2 "careful" i (by unfold chkHouse; rw [cT]; dsimp only; rw [cK]; dsimp only; rw [c])) s1⟩
    have s12 := s1.trans s2
    refine ⟨_, rfl, _, rfl, aT, ts, rfl, sSqT s12 hsT, hTs, _, rfl, aT, _, rfl, .inr (sSqT s12 hsT), vR, dR, _, _, rfl, dpSame s12 _ _ hR, ?_⟩
    rw [show (((ts.map V.str).length : Nat) : Int) = (lenD (.tuple (ts.map PyData.str)) : Int) by show _ = (((ts.map PyData.str).length : Nat) : Int); rw [List.length_map, List.length_map],
      show ((per ts : Nat) : Int) = (perD (.tuple (ts.map PyData.str)) : Int) by show _ = ((per ((ts.map PyData.str).map strOf) : Nat) : Int); rw [strs_back]]
    refine ⟨fun cR H3 s3 => ?_, fun i c => Raised.mono (k2 "reminders" i (by unfold chkHouse; rw [cT]; dsimp only; rw [cK]; dsimp only; rw [cC]; dsimp only; rw [c])) s12⟩
    have s123 := s12.trans s3
    have hp3 := s123 _ _ hp
    refine ⟨_, rfl, _, rfl, p, CH, dx, _, rfl, hp3, TL'.cl, TL'.nT, (by show 0 < 1000; decide), ?_⟩
    refine ⟨_, rfl, _, rfl, p, CH, dx, _, rfl, upd_same, TL'.cl, TL'.nK, (by show 1 < 1000; decide), ?_⟩
    refine ⟨_, rfl, _, rfl, p, CH, dx, _, rfl, upd_same, TL'.cl, TL'.nC, (by show 2 < 1000; decide), ?_⟩
    refine ⟨_, rfl, _, rfl, p, CH, dx, _, rfl, upd_same, TL'.cl, TL'.nR, (by show 3 < 1000; decide), ?_⟩
    refine k1 ?_ _ (fun b o nb eb => ?_) upd_same
    · unfold chkHouse; rw [cT]; dsimp only; rw [cK]; dsimp only; rw [cC]; dsimp only; rw [cR]
    · rw [upd_ne nb, upd_ne nb, upd_ne nb, upd_ne nb]; exact s123 _ _ eb
end
end Dk

set_option Elab.async false
set_option linter.all false
set_option maxRecDepth 100000
set_option maxHeartbeats 1000000
namespace Dk
open PySem PySem.Spec PyProof.Rows L2 TL
def dStrs (ts : List Str) : PyData := .tuple (ts.map PyData.str)
def dInts (ns : List Int) : PyData := .tuple (ns.map PyData.int)
def dPrs (rs : List Pr) : PyData := .tuple (rs.map prR)
structure HouseAt (K : PySem.W.Frag) (C : Addr) (H : Hp) (p : Addr) (ts : List Str) (k : Int) (cs : List Int) (rs : List Pr) : Prop where
  ex : ∃ dx aT aC aR xs, H p = some (.ins C dx (hFields (.ref aT) (.int k) (.ref aC) (.ref aR))) ∧ SqT K H aT (ts.map V.str) ∧ SqT K H aC (cs.map V.int) ∧ SqT K H aR xs ∧ Prs H xs rs
theorem hf_tables (a b c d : V) : (hFields a b c d).lookup ("tables" : Str) = some a := by
  unfold hFields
  rw [lookup_putF, if_neg (by decide +kernel), lookup_putF, if_neg (by decide +kernel), lookup_putF, if_neg (by decide +kernel), lookup_putF, if_pos rfl]
theorem hf_keys (a b c d : V) : (hFields a b c d).lookup ("key_count" : Str) = some b := by
  unfold hFields
  rw [lookup_putF, if_neg (by decide +kernel), lookup_putF, if_neg (by decide +kernel), lookup_putF, if_pos rfl]
theorem hf_careful (a b c d : V) : (hFields a b c d).lookup ("careful" : Str) = some c := by
  unfold hFields
  rw [lookup_putF, if_neg (by decide +kernel), lookup_putF, if_pos rfl]
theorem hf_rem (a b c d : V) : (hFields a b c d).lookup ("reminders" : Str) = some d := by
  unfold hFields
  rw [lookup_putF, if_pos rfl]
theorem dpAll_ints {K : PySem.W.Frag} {H : Hp} : ∀ ns : List Int, DpAll K H (ns.map V.int) (ns.map PyData.int)
  | [] => .nil
  | n :: ns => .cons (.int n) (dpAll_ints ns)
end Dk

set_option Elab.async false
set_option linter.all false
set_option maxRecDepth 100000
set_option maxHeartbeats 1000000
namespace Dk
open PySem PySem.Spec PyProof.Rows L2 TL
/-! ### valid parts are accepted -/
theorem getD_map {α : Type} (f : α → PyData) {l : List α} {i : Nat} {x : α} (h : l[i]? = some x) : (l.map f).getD i .none = f x := getD_of (by rw [List.getElem?_map, h]; rfl)
theorem pair_lt {α : Type} {R : α → α → Prop} : ∀ {l : List α} {j : Nat} {x y : α}, l.Pairwise R → l[j]? = some x → l[j + 1]? = some y → R x y
  | [], _, _, _, _, h, _ => by simp at h
  | a :: l, 0, x, y, hp, h1, h2 => by
    simp at h1; subst h1
    have h2' : l[0]? = some y := by simpa using h2
    exact (List.pairwise_cons.mp hp).1 y (List.mem_of_getElem? h2')
  | a :: l, j + 1, x, y, hp, h1, h2 => pair_lt (j := j) (List.pairwise_cons.mp hp).2 (by simpa using h1) (by simpa using h2)
theorem below_is {i n : Int} (h0 : 0 ≤ i) (h1 : i < n) : below (.int i) n = true := by
  show (decide ((0 : Int) ≤ i) && decide (i < n)) = true
  rw [decide_eq_true h0, decide_eq_true h1]; rfl
theorem careful_is {cs : List Int} {n : Int} (hp : cs.Pairwise (· < ·)) (hm : ∀ c ∈ cs, (0 : Int) ≤ c ∧ c < n) : chkCareful (dInts cs) n = none := by
  show bad1 _ 0 _ = none
  refine bad1_none.mpr fun j d hd => ?_
  rw [List.getElem?_map] at hd
  cases e : cs[j]? with
  | none => rw [e] at hd; cases hd
  | some c =>
    rw [e] at hd
    have ed : PyData.int c = d := Option.some.inj hd
    subst ed
    have hc := hm c (List.mem_of_getElem? e)
    rw [below_is hc.1 hc.2, Nat.zero_add]
    have : ascI (cs.map PyData.int) j = true := by
      cases j with
      | zero => rfl
      | succ i =>
        have hi : i < cs.length := by have := (List.getElem?_eq_some_iff.mp e).1; omega
        have e0 : cs[i]? = some cs[i] := List.getElem?_eq_getElem hi
        show decide (intOf _ < intOf _) = true
        rw [getD_map _ e0, getD_map _ e]
        exact decide_eq_true (pair_lt hp e0 e)
    rw [this]; rfl
theorem rem_is {rs : List Pr} {per n : Int} (hp : rs.Pairwise plt) (hm : ∀ r ∈ rs, (0 : Int) ≤ r.1 ∧ r.1 < per ∧ (0 : Int) ≤ r.2 ∧ r.2 < n) (h10 : rs.length ≤ 10) : chkRem (dPrs rs) per n = none := by
  show bad1 _ 0 _ = none
  refine bad1_none.mpr fun j d hd => ?_
  rw [List.getElem?_map] at hd
  cases e : rs[j]? with
  | none => rw [e] at hd; cases hd
  | some r =>
    rw [e] at hd
    have ed : prR r = d := Option.some.inj hd
    subst ed
    have hr := hm r (List.mem_of_getElem? e)
    have hj : j < rs.length := (List.getElem?_eq_some_iff.mp e).1
    have h1 : isRemD (prR r) per n = true := by
      show (below (.int r.1) per && below (.int r.2) n) = true
      rw [below_is hr.1 hr.2.1, below_is hr.2.2.1 hr.2.2.2]; rfl
    have h2 : (j == 10) = false := by simp; omega
    rw [h1, Nat.zero_add, h2]
    have : ascP (rs.map prR) j = true := by
      cases j with
      | zero => rfl
      | succ i =>
        have hi : i < rs.length := by omega
        have e0 : rs[i]? = some rs[i] := List.getElem?_eq_getElem hi
        have hlt := pair_lt hp e0 e
        show HT.lexLt _ _ = true
        rw [getD_map _ e0, getD_map _ e]
        generalize rs[i] = q at hlt
        obtain ⟨q1, q2⟩ := q
        obtain ⟨r1, r2⟩ := r
        show (if q1 = r1 then (if q2 = r2 then false else decide (q2 < r2)) else decide (q1 < r1)) = true
        rcases hlt with h | ⟨h, h'⟩
        · have h : q1 < r1 := h
          rw [if_neg (by omega)]; exact decide_eq_true h
        · have h : q1 = r1 := h
          have h' : q2 < r2 := h'
          rw [if_pos h, if_neg (by omega)]; exact decide_eq_true h'
    rw [this]; rfl
theorem parts_is {ts : List Str} {k : Int} {cs : List Int} {rs : List Pr} (h : Parts ts k cs rs) : chkHouse (dStrs ts) (.int k) (dInts cs) (dPrs rs) = none := by
  have h1 : chkTabs (dStrs ts) = none := tabs_is h.tabs h.n1 h.n6
  have h2 : chkKeys (.int k) = none := by unfold chkKeys; rw [if_pos (below_is h.k0 (by have := h.k9; omega))]
  have hl : (lenD (dStrs ts) : Int) = (ts.length : Int) := by show (((ts.map PyData.str).length : Nat) : Int) = _; rw [List.length_map]
  have hp : (perD (dStrs ts) : Int) = (per ts : Int) := by show (per ((ts.map PyData.str).map strOf) : Int) = _; rw [strs_back]
  have h3 : chkCareful (dInts cs) (lenD (dStrs ts) : Int) = none := by rw [hl]; exact careful_is h.cp h.cm
  have h4 : chkRem (dPrs rs) (perD (dStrs ts) : Int) (lenD (dStrs ts) : Int) = none := by rw [hl, hp]; exact rem_is h.rp h.rm h.r10
  unfold chkHouse
  rw [h1]; dsimp only
  rw [h2]; dsimp only
  rw [h3]; dsimp only
  rw [h4]
def spHouseF (K : PySem.W.Frag) (CH : Addr) : Sp := fun vs H Q _ => ∃ (a : Addr) (ts : List Str) (keys : Int) (cs : List Int) (rs : List Pr), vs = [.ref a] ∧ PartsAt H a ts keys cs rs ∧ Parts ts keys cs rs ∧
  ∀ (H' : Hp) (p : Addr), Same H H' → H p = none → HouseAt K CH H' p ts keys cs rs → Q (.ref p) H'
section
variable {P : Program} {w : World} {K : PySem.W.Frag} {mg : Str → Option Value} {base : Heap} {C fI : Addr} {fdI : FuncData} {fII fIB fHO : Addr} {fdII fdIB fdHO : FuncData} {fIT fIR fAs : Addr} {fdIT fdIR fdAs : FuncData}
  {CH fP fT fK fC fR : Addr} {fdP fdT fdK fdC fdR : FuncData} {fH : Addr} {fdH : FuncData} {dvs : List V}
theorem scHouseF : FnScope ["_law_parts_here"] ["_law_parts_here"] (defScope sHouseF) := ⟨rfl, rfl, rfl, by decide +kernel, rfl, by decide +kernel, by decide +kernel⟩
theorem ok_housef {f : Addr} {fd : FuncData} (F : Fun K "_law_house" "_law_house" sHouseF f fd) (T : TxtA mg) (TC : TxtC mg) (TF : TxtF K mg fII fIB fHO fdII fdIB fdHO) (TI : TxtI K mg fIT fIR fAs fdIT fdIR fdAs) (TH : TxtIH K mg C fI fdI)
    (TL' : TxtL K mg CH fP fT fK fC fR fdP fdT fdK fdC fdR)
    (FH : FunD K "__init__" "House.__init__" (defArgs sInit) (defBody sInit) (defScope sInit) dvs [] fH fdH) (bH : Binds K fdH ["self", "tables", "keys", "careful", "reminders"] []) (M : Mk K CH fH) (gH : mg "House" = some (.ref CH)) :
    FnOk P w K mg base CX0 7 f fd ["_law_parts_here"] (spHouseF K CH) := by
  have GH : FnOk P w K mg base (L2.CX P w) 5 fH fdH ["self", "tables", "keys", "careful", "reminders"] (spInit K CH C) := ok_init FH T TC TF TI TH TL'
  refine F.ok scHouseF (fun vs H Q E h => ?_) (fun cdv A outer s H vs Q E hr h => ?_)
  · obtain ⟨a, ts, kk, cs, rs, rfl, _⟩ := h
    rfl
  · obtain ⟨a, ts, kk, cs, rs, rfl, ⟨aT, aC, aR, xs, e1, e2, e3, e4, e5⟩, hp, k⟩ := h
    refine ⟨_, pss_one (ps_ret (pe_make M GH hr rfl gH bH .nil passL (pa_cons (pe_ix ix_tup (pv 0) pe_int (fun _ _ => rfl)) (pa_cons (pe_ix ix_tup (pv 0) pe_int (fun _ _ => rfl)) (pa_cons (pe_ix ix_tup (pv 0) pe_int (fun _ _ => rfl)) (pa_cons (pe_ix ix_tup (pv 0) pe_int (fun _ _ => rfl)) pa_nil)))))), ?_⟩
    refine ⟨_, rfl, a, _, 0, _, rfl, rfl, SqT.of e1, at0, _, rfl, a, _, 1, _, rfl, rfl, SqT.of e1, at1, _, rfl, a, _, 2, _, rfl, rfl, SqT.of e1, at2, _, rfl, a, _, 3, _, rfl, rfl, SqT.of e1, at3, ?_⟩
    intro p dx hpn hdx npd
    have sN : Same H (upd (upd H dx (.own p)) p (.ins CH dx [])) := fun b o e => by
      rw [upd_ne (ne_of_none e hpn), upd_ne (ne_of_none e hdx)]; exact e
    refine ⟨p, dx, .ref aT, .int kk, .ref aC, .ref aR, dStrs ts, .int kk, dInts cs, dPrs rs, rfl,
      dpSame sN _ _ (.tup (SqT.of e2) (dpAll_strs ts)), .int _, dpSame sN _ _ (.tup (SqT.of e3) (dpAll_ints _)), dpSame sN _ _ (.tup (SqT.of e4) (dpAll_prs e5)), ?_, upd_same, fun hc H7 k7 e7 => ⟨rfl, ?_⟩, fun part i hc => ?_⟩
    · intro ds hds y hy
      cases hds
      obtain ⟨t, ht, rfl⟩ := List.mem_map.mp hy
      show t.length ≤ 100000
      have := (hp.tabs t ht).pos.2
      rw [len_tl t]; omega
    · have s7 : Same H H7 := fun b o e => k7 b o (ne_of_none e hpn) (sN _ _ e)
      exact k H7 p s7 hpn ⟨⟨dx, aT, aC, aR, xs, e7, SqT.of (s7 _ _ e2), SqT.of (s7 _ _ e3), SqT.of (s7 _ _ e4), e5.mono fun t ys h => s7 _ _ h⟩⟩
    · rw [parts_is hp] at hc; cases hc
end
end Dk

set_option Elab.async false
set_option linter.all false
set_option maxRecDepth 100000
set_option maxHeartbeats 1000000
namespace Dk
open PySem PySem.Spec PyProof.Rows L2 TL
/-! ### equal data are found equal -/
def Flat : Nat → PyData → Prop
  | _, .none => True
  | _, .bool _ => True
  | _, .int _ => True
  | _, .str _ => True
  | 0, .list _ => False
  | 0, .tuple _ => False
  | n + 1, .list ds => ds.length ≤ 1000 ∧ ∀ d ∈ ds, Flat n d
  | n + 1, .tuple ds => ds.length ≤ 1000 ∧ ∀ d ∈ ds, Flat n d
  | _, .dict _ => False
def spE (K : PySem.W.Frag) : Nat → Sp
  | 0 => fun _ _ _ _ => False
  | n + 1 => fun vs H Q _ => ∃ (a b : V) (d : PyData), vs = [a, b] ∧ Dp K H a d ∧ Dp K H b d ∧ Flat n d ∧ ∀ H', Same H H' → Q (.bl true) H'
abbrev nEq : List Str := ["_law_actual", "_law_expected", "_law_k"]
theorem all_true {n : Nat} : ((List.replicate n true).map V.bl) = List.replicate n (V.bl true) := List.map_replicate ..
section
variable {P : Program} {w : World} {K : PySem.W.Frag} {mg : Str → Option Value} {base : Heap} {fII fIB fHO : Addr} {fdII fdIB fdHO : FuncData}
end
end Dk

set_option Elab.async false
set_option linter.all false
set_option maxRecDepth 100000
set_option maxHeartbeats 1000000
/-! a, *b = a list -/
namespace Dk
open PySem PySem.Spec PyProof.Rows L2
theorem star_items {prog : Program} {w : World} {A : Around} {E : Value → Shared → Prop} {s : Shared} {l : Addr} {u : Value} {us : List Value} {Q : List Value → Shared → Prop} (hl : s.heap.IsList l (u :: us).toArray) (hh : A.handled = none) (hz : us.length ≤ 16000)
    (h : ∀ (h2 : Heap) (tk : Tok), (∀ b o, s.heap.get? b = some o → h2.get? b = some o) → Q [u, .ref h2.objs.size] { s with heap := h2.push { cls := .type "list", data := .seq us.toArray }, toks := tk }) : wpAny (model prog w) A (unpackItems (.ref l) 2 (some 1)) Q E s := by
  have hlt : l ≠ s.heap.objs.size := by obtain ⟨o, ho, _⟩ := hl; exact Nat.ne_of_lt (Heap.lt_size ho)
  have hs : (u :: us).toArray.size = us.length + 1 := by simp
  unfold unpackItems
  refine wpAny_bind ?_
  unfold notIterableAtAll
  refine wpAny_bind (wpAny_specialOf hl.typeIs F.slot_list_iter.lookup ?_)
  refine wpAny_pure ?_
  simp only [Bool.false_eq_true, if_false]
  refine wpAny_bind (wpAny_holding (wpAny_pyIter_list hl ?_))
  refine wpAny_bind (wpAny_holding (PySem.W.kun_draw hlt 1 0 _ _ ⟨_, Heap.get?_push_size _ rfl, rfl, rfl⟩ (hl.push _) (by omega) fun h₁ hit₁ hs₁ => ?_))
  have hl₁ : h₁.IsList l (u :: us).toArray := (hl.push _).extBut hs₁.extBut hlt
  rw [Nat.zero_add] at hit₁
  have hit₁' := hit₁
  obtain ⟨oi, hoi, _⟩ := hit₁'
  have hl₁' := hl₁
  obtain ⟨ol, hol, _⟩ := hl₁'
  rw [List.drop_zero]
  have e1 : (u :: us).toArray.toList.take 1 = [u] := by simp
  rw [e1]
  rw [if_neg (show ¬ (([u] : List Value).length < 1) by simp)]
  refine wpAny_bind (wpAny_holding (PySem.W.kun_collect (s := { s with heap := h₁ }) (T := "list_iterator") (.inr (.inr (.inl rfl))) (Walks.list (A := A.in1) hh s.heap.objs.size l hlt (u :: us).toArray) (fun j u st => st.1.typeIs) (k := 1) (by omega) ⟨hit₁, hl₁⟩ (Heap.lt_size hoi) (Heap.lt_size hol) (fun h₂ tk hk => ?_) (by rw [hs]; exact Nat.le_trans (by omega : us.length + 1 ≤ 16001) (by decide))))
  have e2 : (u :: us).toArray.toList.drop 1 = us := by simp
  rw [e2]
  show wpAny _ _ (if us.length < 0 then _ else _) _ _ _
  rw [if_neg (by omega)]
  show wpAny _ _ (newList (us.take (us.length - 0)) >>= fun d => pure ([u] ++ [d] ++ us.drop (us.length - 0))) _ _ _
  rw [Nat.sub_zero, List.take_length, List.drop_length]
  refine wpAny_bind (wpAny_newObj_type ?_ (by show us.toArray.size ≤ sizeLine; rw [List.size_toArray]; exact Nat.le_trans hz (by decide)))
  exact wpAny_pure (h h₂ tk fun b o e => hk b o (Nat.ne_of_lt (Heap.lt_size e)) (hs₁.extBut b o (Nat.ne_of_lt (Heap.lt_size e)) (Heap.get?_push_of_some _ e)))
section
variable {X : Cx} {pos : Pos}
def gStar (K : PySem.W.Frag) (t : TGs) : TG := fun v σ H Q => ∃ a x xs, v = .ref a ∧ SqL K H a (x :: xs) ∧ xs.length ≤ 16000 ∧ ∀ D, H D = none → t [x, .ref D] σ (upd H D (.lst xs)) Q
theorem pg_star {e1 e2 : Expr} {p : Pos} {k : Nat} {t : TGs} (hc : X.calm = true) (h : PGs X [e1, e2] t)
    (he : (assignEach [e1, .Starred e2 p] X.env).map (·.2) = (assignEach [e1, e2] X.env).map (·.2) := by rfl)
    (hn : (assignEach [e1, .Starred e2 p] X.env).length = 2 := by rfl) (hst : (assignEach [e1, .Starred e2 p] X.env).findIdx? (·.1) = some 1 := by rfl) : PG X (.Tuple [e1, .Starred e2 p] k pos) (gStar X.K t) := by
  refine ⟨fun pins s σ H v u Q I r hw => ?_⟩
  obtain ⟨a, x, xs, e1, hq, hl, hw⟩ := hw
  subst e1
  cases r
  obtain ⟨its, rv, pl, hz⟩ := I.list hq
  cases rv with
  | @cons _ u0 _ us r0 rs =>
    have hl' : s.heap.IsList a (u0 :: us).toArray := by
      obtain ⟨o, m, e, c, d, q⟩ := pl
      exact ⟨o, e, c, m, q⟩
    rw [PyProof.Rows.assign_Tuple]
    refine wpAny_bind (wpAny_standAt ?_)
    unfold unpack
    rw [hn, hst, he]
    refine wpAny_bind (wpAny_holding (star_items hl' (I.ok.hd hc) (by rw [← Paired.length rs]; exact hl) fun h2 tk hx => ?_))
    have I1 : Inv X pins σ H { s with heap := h2, toks := tk } := I.kept (t' := tk) hx
    have hnew : H h2.objs.size = none := I1.hok.fresh (Nat.le_refl _)
    have I2 : Inv X pins σ (upd H h2.objs.size (.lst xs)) { s with heap := h2.push { cls := .type "list", data := .seq us.toArray }, toks := tk } :=
      I1.laid (t' := tk) (fun b o q => Heap.get?_push_of_some _ q) (Nat.le_refl _) ⟨Nat.le_trans hl (by decide), us, 0, rs, Heap.get?_push_size _ rfl⟩
    exact h.run pins _ σ _ [x, .ref h2.objs.size] _ Q I2 (.cons r0 (.cons rfl .nil)) (hw _ hnew)
end
end Dk

set_option Elab.async false
set_option linter.all false
set_option maxRecDepth 100000
set_option maxHeartbeats 1000000
namespace Dk
open PySem PySem.Spec PyProof.Rows L2 TL
/-! ### words -/
theorem spl_bound (S : List Nat) : ∀ (k : Nat) (acc L : List Nat), ∀ p ∈ spl S k acc L, p.length ≤ acc.length + L.length
  | k, acc, [], p, h => by
    rw [spl_nil] at h
    rw [List.mem_singleton.mp h]; omega
  | 0, acc, c :: r, p, h => by
    unfold spl at h
    split at h
    · rcases List.mem_cons.mp h with rfl | h
      · rw [List.length_cons]; omega
      · have := spl_bound S _ [] r p h
        rw [List.length_cons]; simp at this; omega
    · have := spl_bound S 0 (acc ++ [c]) r p h
      rw [List.length_append, List.length_singleton] at this
      rw [List.length_cons]; omega
  | k + 1, acc, c :: r, p, h => by
    have := spl_bound S k acc r p h
    rw [List.length_cons]; omega
theorem spl_ne (S : List Nat) : ∀ (k : Nat) (acc L : List Nat), spl S k acc L ≠ []
  | k, acc, [] => by rw [spl_nil]; simp
  | 0, acc, c :: r => by
    unfold spl
    split
    · simp
    · exact spl_ne S 0 _ r
  | k + 1, acc, c :: r => spl_ne S k acc r
def colS : Str := Str.ofString ":"
def spS : Str := Str.ofString " "
def nlS : Str := Str.ofString "\n"
theorem tl_col : tl colS = [58] := by decide +kernel
theorem tl_sp : tl spS = [32] := by decide +kernel
theorem tl_nl : tl nlS = [10] := by decide +kernel
structure Sep (y : Str) : Prop where
  ex : ∃ c, tl y = [c]
  k : y.cps.all (· < 256) = true
  z : (y.length == 0) = false
theorem sepCol : Sep colS := ⟨⟨_, tl_col⟩, by decide +kernel, by decide +kernel⟩
theorem sepSp : Sep spS := ⟨⟨_, tl_sp⟩, by decide +kernel, by decide +kernel⟩
theorem sepNl : Sep nlS := ⟨⟨_, tl_nl⟩, by decide +kernel, by decide +kernel⟩
theorem split_bound {x y : Str} (hy : Sep y) : ∀ p ∈ Txt.split x y, p.length ≤ x.length := fun p h => by
  obtain ⟨c, ec⟩ := hy.ex
  have e := split_spl x y (by rw [ec]; simp) (kind_ok hy.k)
  have hm : tl p ∈ (Txt.split x y).map tl := List.mem_map.mpr ⟨p, h, rfl⟩
  rw [e] at hm
  have := spl_bound _ _ _ _ _ hm
  rw [len_tl p, len_tl x]
  simp at this
  simpa using this
theorem split_ne {x y : Str} (hy : Sep y) : Txt.split x y ≠ [] := fun h => by
  obtain ⟨c, ec⟩ := hy.ex
  have e := split_spl x y (by rw [ec]; simp) (kind_ok hy.k)
  rw [h] at e
  exact spl_ne _ _ _ _ e.symm
def digS : Str := Str.ofString "0123456789"
theorem tl_dig : tl digS = [48, 49, 50, 51, 52, 53, 54, 55, 56, 57] := by decide +kernel
def dig (c : Nat) : Bool := decide (c ∈ tl digS)
def isNW (x : Str) : Bool := match tl x with
  | [a] => dig a
  | [a, b] => dig a && dig b && decide (a ≠ 48)
  | _ => false
def isTW (x : Str) : Bool := !(tl x).isEmpty && only x hoS
def isRW (x : Str) : Bool := (Txt.split x colS).length == 2 && (Txt.split x colS).all isNW
def wTab : Str := Str.ofString "tables"
def wKey : Str := Str.ofString "keys"
def wCar : Str := Str.ofString "careful"
def wRem : Str := Str.ofString "remind"
def areArgs (x : Str) (ws : List Str) : Bool :=
  if x = wTab then ws.all isTW else if x = wRem then ws.all isRW else if x = wKey ∧ ws.length ≠ 1 then false else ws.all isNW
def spWord (g : Str → Bool) : Sp := fun vs H Q _ => ∃ x : Str, vs = [.str x] ∧ x.length ≤ 100000 ∧ ∀ H', Same H H' → Q (.bl (g x)) H'
def spAreArgs (K : PySem.W.Frag) : Sp := fun vs H Q _ => ∃ (x : Str) (a : Addr) (ws : List Str), vs = [.str x, .ref a] ∧ SqL K H a (ws.map V.str) ∧ ws.length ≤ 100000 ∧ (∀ y ∈ ws, y.length ≤ 100000) ∧ ∀ H', Same H H' → Q (.bl (areArgs x ws)) H'
structure TxtM (K : PySem.W.Frag) (mg : Str → Option Value) (fTW fNW fRW : Addr) (fdTW fdNW fdRW : FuncData) : Prop where
  digits : ∃ t, mg "DIGITS" = some (.str digS t)
  gTW : mg "is_table_word" = some (.ref fTW)
  FTW : Fun K "is_table_word" "is_table_word" sIsTW fTW fdTW
  bTW : Binds K fdTW ["word"] []
  gNW : mg "is_number_word" = some (.ref fNW)
  FNW : Fun K "is_number_word" "is_number_word" sIsNW fNW fdNW
  bNW : Binds K fdNW ["word"] []
  gRW : mg "is_reminder_word" = some (.ref fRW)
  FRW : Fun K "is_reminder_word" "is_reminder_word" sIsRW fRW fdRW
  bRW : Binds K fdRW ["word"] []
theorem str_eq_iff {x y : Str} : x = y ↔ tl x = tl y := ⟨fun h => by rw [h], ext_tl⟩
section
variable {P : Program} {w : World} {K : PySem.W.Frag} {mg : Str → Option Value} {base : Heap} {fII fIB fHO : Addr} {fdII fdIB fdHO : FuncData} {fTW fNW fRW : Addr} {fdTW fdNW fdRW : FuncData}
theorem scIsTW : FnScope ["word"] ["word"] (defScope sIsTW) := ⟨rfl, rfl, rfl, by decide +kernel, rfl, by decide +kernel, by decide +kernel⟩
theorem ok_istw (TF : TxtF K mg fII fIB fHO fdII fdIB fdHO) (TM : TxtM K mg fTW fNW fRW fdTW fdNW fdRW) : FnOk P w K mg base CX0 2 fTW fdTW ["word"] (spWord isTW) := by
  have GH : FnOk P w K mg base CX0 1 fHO fdHO ["word", "characters"] spHasOnly := ok_hasonly TF
  obtain ⟨tL, eL⟩ := TF.letters
  refine TM.FTW.ok scIsTW (fun vs H Q E h => ?_) (fun cdv A outer s H vs Q E hr h => ?_)
  · obtain ⟨x, rfl, _⟩ := h
    rfl
  · obtain ⟨x, rfl, hz, k⟩ := h
    refine ⟨_, pss_one (ps_ret (pe_and (pe_cmpR op_ne (pv 0) pe_str (nomark _)) (pe_one (pe_call GH hr rfl TF.gHO TF.FHO.kp TF.bHO .nil pass0 (pa_cons (pv 0) (pa_cons (pe_glob (v := .str hoS) rfl eL ⟨_, rfl⟩) pa_nil)))))), ?_⟩
    refine ⟨_, rfl, rfl, _, rfl, ?_⟩
    have e0 : tl (Str.ofString "") = [] := by decide +kernel
    cases e : tl x with
    | nil =>
      have ex : x = Str.ofString "" := ext_tl (by rw [e, e0])
      have c : (!decide (V.str x = V.str (Str.ofString ""))) = false := by rw [decide_eq_true (by rw [ex])]; rfl
      rw [c]
      refine iteF ?_
      have := k H (Same.refl H)
      have e2 : isTW x = false := by unfold isTW; rw [e]; rfl
      rw [e2] at this; exact this
    | cons a r =>
      have c : (!decide (V.str x = V.str (Str.ofString ""))) = true := by
        rw [decide_eq_false fun q => ?_]; rfl
        have := V.str.inj q
        rw [this, e0] at e; cases e
      rw [c]
      refine iteT ⟨_, rfl, x, hoS, rfl, hz, fun H' s' => ?_⟩
      have e2 : isTW x = only x hoS := by unfold isTW; rw [e]; rfl
      have := k H' s'
      rw [e2] at this; exact this
theorem scIsNW : FnScope ["word"] ["word"] (defScope sIsNW) := ⟨rfl, rfl, rfl, by decide +kernel, rfl, by decide +kernel, by decide +kernel⟩
theorem ok_isnw (T : TxtA mg) (TF : TxtF K mg fII fIB fHO fdII fdIB fdHO) (TM : TxtM K mg fTW fNW fRW fdTW fdNW fdRW) : FnOk P w K mg base CX0 2 fNW fdNW ["word"] (spWord isNW) := by
  have GH : FnOk P w K mg base CX0 1 fHO fdHO ["word", "characters"] spHasOnly := ok_hasonly TF
  obtain ⟨tD, eD⟩ := TM.digits
  refine TM.FNW.ok scIsNW (fun vs H Q E h => ?_) (fun cdv A outer s H vs Q E hr h => ?_)
  · obtain ⟨x, rfl, _⟩ := h
    rfl
  · obtain ⟨x, rfl, hz, k⟩ := h
    have hz' : x.length ≤ sizeLine := Nat.le_trans hz (by decide)
    refine ⟨_, pss_cons (ps_if (PW.pt (pw_or (pt_cmpR op_notIn_seq (pe_callB call_len_str (by rfl) T.len PySem.boot_len (pa_cons (pv 0) pa_nil)) (pe_tup (pa_cons pe_int (pa_cons pe_int pa_nil))) (by rfl))
        (pw_or1 (pt_not (pt_val (pe_call GH hr rfl TF.gHO TF.FHO.kp TF.bHO .nil pass0 (pa_cons (pv 0) (pa_cons (pe_glob (v := .str digS) rfl eD ⟨_, rfl⟩) pa_nil)))))))) (pss_one (ps_ret pe_bl)) pss_nil)
      (pss_one (ps_ret (pe_or (pe_cmpR op_eq (pe_callB call_len_str (by rfl) T.len PySem.boot_len (pa_cons (pv 0) pa_nil)) pe_int (nomark _)) (pe_one (pe_cmpR op_ne (pe_item_str (pv 0) pe_int (fun _ _ => rfl)) pe_str (nomark _)))))), ?_⟩
    refine ⟨_, rfl, _, rfl, hz', by show 2 ≤ sizeLine; decide, fun p hp => ?_⟩
    refine ⟨p, _, rfl, .inr (SqT.of upd_same), rfl, rfl, _, rfl, ?_⟩
    have ei : inV (V.int (x.length : Int)) [V.int 1, V.int 2] = decide ((x.length : Int) ∈ ([1, 2] : List Int)) := any_eqI [1, 2] _
    show (if (!inV (V.int (x.length : Int)) [V.int 1, V.int 2]) = true then _ else _)
    rw [ei]
    have sp := same_upd (o := .tup [V.int 1, V.int 2]) hp
    have hl := len_tl x
    by_cases c : (x.length : Int) ∈ ([1, 2] : List Int)
    · rw [decide_eq_true c]
      refine iteF ⟨_, rfl, x, digS, rfl, hz, fun H1 s1 => ⟨_, rfl, ?_⟩⟩
      have s2 := sp.trans s1
      simp only [List.mem_cons, List.not_mem_nil, or_false] at c
      have cases2 : (∃ a, tl x = [a]) ∨ ∃ a b, tl x = [a, b] := by
        rcases c with c | c
        · left
          have : (tl x).length = 1 := by omega
          match h : tl x, this with
          | [a], _ => exact ⟨a, rfl⟩
        · right
          have : (tl x).length = 2 := by omega
          match h : tl x, this with
          | [a, b], _ => exact ⟨a, b, rfl⟩
      rcases cases2 with ⟨a, ea⟩ | ⟨a, b, ea⟩
      · have eo : only x digS = dig a := by unfold only dig; rw [ea]; simp
        have en : isNW x = dig a := by unfold isNW; rw [ea]
        rw [eo]
        have k2 := k H1 s2
        rw [en] at k2
        cases cd : dig a with
        | false => rw [cd] at k2; exact iteT k2
        | true =>
          rw [cd] at k2
          refine iteF ⟨_, rfl, _, rfl, hz', rfl, _, rfl, ?_⟩
          have c1 : decide (V.int (x.length : Int) = V.int 1) = true := decide_eq_true (by rw [hl, ea]; rfl)
          rw [c1]
          exact iteT k2
      · have eo : only x digS = (dig a && dig b) := by unfold only dig; rw [ea]; simp
        have en : isNW x = (dig a && dig b && decide (a ≠ 48)) := by unfold isNW; rw [ea]
        rw [eo]
        have k2 := k H1 s2
        rw [en] at k2
        cases cd : dig a && dig b with
        | false => rw [cd] at k2; exact iteT k2
        | true =>
          rw [cd] at k2
          refine iteF ⟨_, rfl, _, rfl, hz', rfl, _, rfl, ?_⟩
          have c1 : decide (V.int (x.length : Int) = V.int 1) = false := decide_eq_false fun q => by
            have := V.int.inj q
            rw [hl, ea] at this
            cases this
          rw [c1]
          have e0 : x.cps[(0 : Int).toNat]? = some a := by
            have h1 : (tl x)[0]? = some a := by rw [ea]; rfl
            rw [← h1]; exact Array.getElem?_toList.symm
          refine iteF ⟨_, rfl, x, 0, a, rfl, rfl, by decide, by decide, by rw [hl, ea]; simp, e0, rfl, ?_⟩
          have c2 : (!decide (V.str (⟨#[a]⟩ : Str) = V.str (Str.ofString "0"))) = (true && decide (a ≠ 48)) := by
            have e48 : tl (Str.ofString "0") = [48] := by decide +kernel
            by_cases h : a = 48
            · subst h
              rw [decide_eq_true (congrArg V.str (ext_tl (by rw [e48])))]
              simp
            · have hn : ¬ V.str (⟨#[a]⟩ : Str) = V.str (Str.ofString "0") := fun q => by
                have h1 : tl (⟨#[a]⟩ : Str) = tl (Str.ofString "0") := congrArg tl (V.str.inj q)
                rw [e48] at h1
                exact h (List.cons.inj h1).1
              rw [decide_eq_false hn]
              simp [h]
          rw [c2]
          exact k2
    · rw [decide_eq_false c]
      refine iteT ?_
      have en : isNW x = false := by
        unfold isNW
        split
        · rename_i a ea
          exact absurd (by rw [hl, ea]; simp) c
        · rename_i a b ea
          exact absurd (by rw [hl, ea]; simp) c
        · rfl
      have := k _ sp
      rw [en] at this; exact this
end
end Dk

set_option Elab.async false
set_option linter.all false
set_option maxRecDepth 100000
set_option maxHeartbeats 1000000
namespace Dk
open PySem PySem.Spec PyProof.Rows L2 TL
theorem sum_len {l : List Str} {n : Nat} (h : ∀ p ∈ l, p.length ≤ n) : (l.map (·.length)).sum ≤ l.length * n := by
  induction l with
  | nil => simp
  | cons x l ih =>
    have h1 := h x (List.mem_cons_self ..)
    have h2 := ih fun p hp => h p (List.mem_cons_of_mem _ hp)
    rw [List.map_cons, List.sum_cons, List.length_cons, Nat.succ_mul]
    omega
section
variable {P : Program} {w : World} {K : PySem.W.Frag} {mg : Str → Option Value} {base : Heap} {fII fIB fHO : Addr} {fdII fdIB fdHO : FuncData} {fTW fNW fRW : Addr} {fdTW fdNW fdRW : FuncData}
theorem scIsRW : FnScope ["word", "parts", "part"] ["word"] (defScope sIsRW) := ⟨rfl, rfl, rfl, by decide +kernel, rfl, by decide +kernel, by decide +kernel⟩
/-- the reading of [f(part) for part in l], f telling g of a text: the list of g's -/
theorem comp_all {l : Addr} {ws : List Str} {H1 : Hp} {D : Addr} {g : Str → Bool} {σ : L2.St} {i : Nat} {vs : List Nat} {te : TE} {Qd : Hp → Prop} (hD : H1 D = none) (hl : SqL K H1 l (ws.map V.str)) (hz : ws.length ≤ 200000)
    (hte : ∀ (x : Str) (H2 : Hp) (Q : VK), x ∈ ws → (∀ H3, Same H2 H3 → Q (.bl (g x)) H3) → te ((wipe σ vs).set i (some (.str x))) H2 Q) (hw : ∀ x : V, wipe ((wipe σ vs).set i (some x)) vs = wipe σ vs)
    (hd : ∀ H2, Same H1 H2 → H2 D = some (.lst ((ws.map g).map V.bl)) → Qd H2) :
    ∃ W : Nat → Nat → Hp → Prop, (∃ m, W 0 m (upd H1 D (.lst []))) ∧ ∀ i' m H, W i' m H →
      ((Itl K l).stop i' H ∧ Qd H) ∨ ((Itl K l).go i' H ∧ ∃ Nx : Hp → Prop, (∀ H', Nx H' → ∃ m', m' < m ∧ W (i' + 1) m' H') ∧ ∀ x H', (Itl K l).yld i' H x H' → gName i x (wipe σ vs) H' fun σ2 H2 => wipe σ2 vs = wipe σ vs ∧ tYes σ2 H2 fun b H3 =>
        if b = true then te σ2 H3 fun y H4 => ∃ acc, H4 D = some (.lst acc) ∧ acc.length < sizeLine ∧ Nx (upd H4 D (.lst (acc ++ [y]))) else Nx H3) := by
  refine lc_list (K := K) (a := l) (xs := ws.map V.str) (g := gName i) (tt := tYes) (te := te) (vs := vs) (σ := σ) (Qd := Qd)
    (fun i H3 => Same H1 H3 ∧ H3 D = some (.lst (((ws.take i).map g).map V.bl)))
    ⟨same_upd hD, upd_same⟩ (fun i H3 _ ⟨e, _⟩ => e.seq hl) ?_ ?_
  · rintro j y H3 hi ⟨s3, eD⟩
    obtain ⟨t, ht, rfl⟩ := map_at hi
    have hj : j < ws.length := (List.getElem?_eq_some_iff.mp ht).1
    refine ⟨hw _, hte t H3 _ (List.mem_of_getElem? ht) fun H4 s4 => ⟨_, s4 _ _ eD, ?_, fun b o eb => ?_, ?_⟩⟩
    · rw [List.length_map, List.length_map, List.length_take]
      exact Nat.lt_of_le_of_lt (Nat.le_trans (Nat.min_le_left _ _) (by omega : j ≤ 200000)) (by decide)
    · rw [upd_ne (ne_of_none eb hD)]; exact s4 _ _ (s3 _ _ eb)
    · rw [upd_same, take_more ht, List.map_append, List.map_append]; rfl
  · rintro H3 ⟨s3, eD⟩
    rw [List.length_map, List.take_length] at eD
    exact hd H3 s3 eD
theorem all_map (ws : List Str) (g : Str → Bool) : (ws.map g).all id = ws.all g := by rw [List.all_map]; rfl
theorem ok_isrw (T : TxtA mg) (TF : TxtF K mg fII fIB fHO fdII fdIB fdHO) (TM : TxtM K mg fTW fNW fRW fdTW fdNW fdRW) : FnOk P w K mg base CX0 3 fRW fdRW ["word"] (spWord isRW) := by
  have GN : FnOk P w K mg base CX0 2 fNW fdNW ["word"] (spWord isNW) := ok_isnw T TF TM
  refine TM.FRW.ok scIsRW (fun vs H Q E h => ?_) (fun cdv A outer s H vs Q E hr h => ?_)
  · obtain ⟨x, rfl, _⟩ := h
    rfl
  · obtain ⟨x, rfl, hz, k⟩ := h
    refine ⟨_, pss_cons (ps_set (i := 1) scIsRW.nd rfl (.inl rfl) (pe_split (pv 0) pe_str))
      (pss_one (ps_ret (pe_and (pe_cmpR op_eq (pe_callB call_len_seq (by rfl) T.len PySem.boot_len (pa_cons (pv 1) pa_nil)) pe_int (nomark _)) (pe_one
        (pe_callB (cr_all rfl) (by rfl) TF.all (by decide +kernel) (pa_cons (pe_lc (own := [("part", 2)]) (g := gName 2) (by rfl) scIsRW.nd (pi_list (pv 1)) (blkOk_by (N := ["word", "parts", "part"]) (sc := defScope sIsRW) (by decide +kernel))
          (fun _ _ _ _ _ => pg_name (i := 2) scIsRW.nd rfl (Or.inl rfl)) (fun _ _ _ _ _ => pts_nil)
          (fun _ _ _ _ _ => pe_call GN hr rfl TM.gNW TM.FNW.kp TM.bNW .nil pass0 (pa_cons (pv 2) pa_nil))) pa_nil)))))), ?_⟩
    refine ⟨_, rfl, ⟨_, rfl⟩, x, colS, rfl, rfl, sepCol.z, Nat.le_trans (by omega : x.length + 2 ≤ 100002) (by decide), fun l hl => ?_⟩
    have s1 := same_upd (o := .lst ((Txt.split x colS).map V.str)) hl
    have hb := split_bound (x := x) sepCol
    have hn := split_le x colS
    refine ⟨_, rfl, l, _, rfl, .inl (SqL.of upd_same), rfl, _, rfl, ?_⟩
    rw [List.length_map]
    have ed : decide (V.int (((Txt.split x colS).length : Nat) : Int) = V.int 2) = ((Txt.split x colS).length == 2) := by
      by_cases c : (Txt.split x colS).length = 2
      · rw [c]; rfl
      · rw [decide_eq_false fun q => c (by have := V.int.inj q; omega)]
        exact (by simpa using c : ((Txt.split x colS).length == 2) = false).symm
    rw [ed]
    have er : isRW x = ((Txt.split x colS).length == 2 && (Txt.split x colS).all isNW) := rfl
    cases c : (Txt.split x colS).length == 2 with
    | false =>
      rw [c] at er
      have := k _ s1
      rw [er] at this
      exact iteF this
    | true =>
      rw [c] at er
      refine iteT ⟨_, rfl, l, rfl, ⟨_, SqL.of upd_same⟩, fun D hD => ?_⟩
      refine comp_all (i := 2) (vs := [2]) (g := isNW) hD (SqL.of upd_same) (by omega) (fun y H2 Q2 hm hq => ?_) (fun _ => rfl) (fun H2 s2 eD => ?_)
      · exact ⟨_, rfl, y, rfl, Nat.le_trans (hb y hm) hz, hq⟩
      · refine ⟨D, _, rfl, SqL.of eD, ?_⟩
        rw [all_map]
        have := k _ (s1.trans s2)
        rw [er] at this
        exact this
theorem scAreArgs : FnScope ["word", "rest", "part"] ["word", "rest"] (defScope sAreArgs) := ⟨rfl, rfl, rfl, by decide +kernel, rfl, by decide +kernel, by decide +kernel⟩
theorem ok_areargs {f : Addr} {fd : FuncData} (F : Fun K "are_arguments" "are_arguments" sAreArgs f fd) (T : TxtA mg) (TF : TxtF K mg fII fIB fHO fdII fdIB fdHO) (TM : TxtM K mg fTW fNW fRW fdTW fdNW fdRW) : FnOk P w K mg base CX0 4 f fd ["word", "rest"] (spAreArgs K) := by
  have GN : FnOk P w K mg base CX0 2 fNW fdNW ["word"] (spWord isNW) := ok_isnw T TF TM
  have GT : FnOk P w K mg base CX0 2 fTW fdTW ["word"] (spWord isTW) := ok_istw TF TM
  have GR : FnOk P w K mg base CX0 3 fRW fdRW ["word"] (spWord isRW) := ok_isrw T TF TM
  refine F.ok scAreArgs (fun vs H Q E h => ?_) (fun cdv A outer s H vs Q E hr h => ?_)
  · obtain ⟨x, a, ws, rfl, _⟩ := h
    rfl
  · obtain ⟨x, a, ws, rfl, hS, hz, hw, k⟩ := h
    have hr2 : Room 2 (A.deeper (envOfC (Str.ofString "are_arguments") (defScope sAreArgs) s.heap.objs.size f cdv)) := hr.mono (by decide)
    refine ⟨_, pss_cons (ps_if (pt_cmpR op_eq (pv 0) pe_str (nomark _)) (pss_one (ps_ret
        (pe_callB (cr_all rfl) (by rfl) TF.all (by decide +kernel) (pa_cons (pe_lc (own := [("part", 2)]) (g := gName 2) (by rfl) scAreArgs.nd (pi_list (pv 1)) (blkOk_by (N := ["word", "rest", "part"]) (sc := defScope sAreArgs) (by decide +kernel))
          (fun _ _ _ _ _ => pg_name (i := 2) scAreArgs.nd rfl (Or.inl rfl)) (fun _ _ _ _ _ => pts_nil)
          (fun _ _ _ _ _ => pe_call GT hr2 rfl TM.gTW TM.FTW.kp TM.bTW .nil pass0 (pa_cons (pv 2) pa_nil))) pa_nil)))) pss_nil)
      (pss_cons (ps_if (pt_cmpR op_eq (pv 0) pe_str (nomark _)) (pss_one (ps_ret
        (pe_callB (cr_all rfl) (by rfl) TF.all (by decide +kernel) (pa_cons (pe_lc (own := [("part", 2)]) (g := gName 2) (by rfl) scAreArgs.nd (pi_list (pv 1)) (blkOk_by (N := ["word", "rest", "part"]) (sc := defScope sAreArgs) (by decide +kernel))
          (fun _ _ _ _ _ => pg_name (i := 2) scAreArgs.nd rfl (Or.inl rfl)) (fun _ _ _ _ _ => pts_nil)
          (fun _ _ _ _ _ => pe_call GR hr rfl TM.gRW TM.FRW.kp TM.bRW .nil pass0 (pa_cons (pv 2) pa_nil))) pa_nil)))) pss_nil)
      (pss_cons (ps_if (PW.pt (pw_and (pt_cmpR op_eq (pv 0) pe_str (nomark _)) (pw_and1 (pt_cmpR op_ne (pe_callB call_len_seq (by rfl) T.len PySem.boot_len (pa_cons (pv 1) pa_nil)) pe_int (nomark _))))) (pss_one (ps_ret pe_bl)) pss_nil)
      (pss_one (ps_ret
        (pe_callB (cr_all rfl) (by rfl) TF.all (by decide +kernel) (pa_cons (pe_lc (own := [("part", 2)]) (g := gName 2) (by rfl) scAreArgs.nd (pi_list (pv 1)) (blkOk_by (N := ["word", "rest", "part"]) (sc := defScope sAreArgs) (by decide +kernel))
          (fun _ _ _ _ _ => pg_name (i := 2) scAreArgs.nd rfl (Or.inl rfl)) (fun _ _ _ _ _ => pts_nil)
          (fun _ _ _ _ _ => pe_call GN hr2 rfl TM.gNW TM.FNW.kp TM.bNW .nil pass0 (pa_cons (pv 2) pa_nil))) pa_nil)))))), ?_⟩
    refine ⟨_, rfl, rfl, _, rfl, ?_⟩
    by_cases c1 : x = wTab
    · have e1 : decide (V.str x = V.str (Str.ofString "tables")) = true := decide_eq_true (by rw [c1]; rfl)
      rw [e1]
      have er : areArgs x ws = ws.all isTW := by unfold areArgs; rw [if_pos c1]
      rw [er] at k
      refine iteT ⟨_, rfl, a, rfl, ⟨_, hS⟩, fun D hD => ?_⟩
      refine comp_all (i := 2) (vs := [2]) (g := isTW) hD hS (Nat.le_trans hz (by decide)) (fun y H2 Q2 hm hq => ⟨_, rfl, y, rfl, hw y hm, hq⟩) (fun _ => rfl) (fun H2 s2 eD => ⟨D, _, rfl, SqL.of eD, ?_⟩)
      rw [all_map]; exact k _ s2
    · have e1 : decide (V.str x = V.str (Str.ofString "tables")) = false := decide_eq_false fun q => c1 (V.str.inj q)
      rw [e1]
      refine iteF ⟨_, rfl, rfl, _, rfl, ?_⟩
      by_cases c2 : x = wRem
      · have e2 : decide (V.str x = V.str (Str.ofString "remind")) = true := decide_eq_true (by rw [c2]; rfl)
        rw [e2]
        have er : areArgs x ws = ws.all isRW := by unfold areArgs; rw [if_neg c1, if_pos c2]
        rw [er] at k
        refine iteT ⟨_, rfl, a, rfl, ⟨_, hS⟩, fun D hD => ?_⟩
        refine comp_all (i := 2) (vs := [2]) (g := isRW) hD hS (Nat.le_trans hz (by decide)) (fun y H2 Q2 hm hq => ⟨_, rfl, y, rfl, hw y hm, hq⟩) (fun _ => rfl) (fun H2 s2 eD => ⟨D, _, rfl, SqL.of eD, ?_⟩)
        rw [all_map]; exact k _ s2
      · have e2 : decide (V.str x = V.str (Str.ofString "remind")) = false := decide_eq_false fun q => c2 (V.str.inj q)
        rw [e2]
        refine iteF ⟨_, rfl, rfl, _, rfl, ?_⟩
        have fin : (¬ (x = wKey ∧ ws.length ≠ 1)) → ∀ H', Same H H' → Q (.bl (ws.all isNW)) H' := fun c => by
          have er : areArgs x ws = ws.all isNW := by unfold areArgs; rw [if_neg c1, if_neg c2, if_neg c]
          rw [er] at k; exact k
        by_cases c3 : x = wKey
        · have e3 : decide (V.str x = V.str (Str.ofString "keys")) = true := decide_eq_true (by rw [c3]; rfl)
          rw [e3]
          refine iteT ⟨_, rfl, a, _, rfl, .inl hS, rfl, _, rfl, ?_⟩
          rw [List.length_map]
          by_cases c4 : ws.length = 1
          · have e4 : (!decide (V.int ((ws.length : Nat) : Int) = V.int 1)) = false := by rw [decide_eq_true (by rw [c4]; rfl)]; rfl
            rw [e4]
            refine iteF ⟨_, rfl, a, rfl, ⟨_, hS⟩, fun D hD => ?_⟩
            refine comp_all (i := 2) (vs := [2]) (g := isNW) hD hS (Nat.le_trans hz (by decide)) (fun y H2 Q2 hm hq => ⟨_, rfl, y, rfl, hw y hm, hq⟩) (fun _ => rfl) (fun H2 s2 eD => ⟨D, _, rfl, SqL.of eD, ?_⟩)
            rw [all_map]; exact fin (fun q => q.2 c4) _ s2
          · have e4 : (!decide (V.int ((ws.length : Nat) : Int) = V.int 1)) = true := by rw [decide_eq_false fun q => c4 (by have := V.int.inj q; omega)]; rfl
            rw [e4]
            refine iteT ?_
            have er : areArgs x ws = false := by unfold areArgs; rw [if_neg c1, if_neg c2, if_pos ⟨c3, c4⟩]
            have := k H (Same.refl H)
            rw [er] at this; exact this
        · have e3 : decide (V.str x = V.str (Str.ofString "keys")) = false := decide_eq_false fun q => c3 (V.str.inj q)
          rw [e3]
          refine iteF (iteF ⟨_, rfl, a, rfl, ⟨_, hS⟩, fun D hD => ?_⟩)
          refine comp_all (i := 2) (vs := [2]) (g := isNW) hD hS (Nat.le_trans hz (by decide)) (fun y H2 Q2 hm hq => ⟨_, rfl, y, rfl, hw y hm, hq⟩) (fun _ => rfl) (fun H2 s2 eD => ⟨D, _, rfl, SqL.of eD, ?_⟩)
          rw [all_map]; exact fin (fun q => c3 q.1) _ s2
end
end Dk

set_option Elab.async false
set_option linter.all false
set_option maxRecDepth 100000
set_option maxHeartbeats 1000000
namespace Dk
open PySem PySem.Spec PyProof.Rows L2 TL
def lineWords : List Str := [wTab, wKey, wCar, wRem]
/-- the first invalid line -/
def faultL : Nat → List Str → List Str → Option Nat
  | _, [], [] => none
  | k, [], _ :: _ => some k
  | k, _ :: _, [] => some k
  | k, w :: ws, l :: ls => match Txt.split l spS with
    | [] => some k
    | f :: r => if f = w ∧ areArgs w r = true then faultL (k + 1) ws ls else some k
def linesOf (x : Str) : List Str := Txt.split x nlS
def fault (x : Str) : Option Nat := faultL 0 lineWords (linesOf x)
def rowOf (l : Str) : List Str := (Txt.split l spS).tail
def TFRaised (C : Addr) (E : XK) (H : Hp) (i : Int) : Prop := ∀ (H' : Hp) (d : Addr), Same H H' → H d = none → H' d = some (.xd [("line", .int i)]) → E (.ref C) (some d) H'
theorem TFRaised.mono {C : Addr} {E : XK} {H H1 : Hp} {i : Int} (h : TFRaised C E H i) (s : Same H H1) : TFRaised C E H1 i := fun H' d s2 n e => h H' d (s.trans s2) (s.free n) e
structure TxtTF (K : PySem.W.Frag) (mg : Str → Option Value) (C fI : Addr) (fdI : FuncData) : Prop where
  gC : mg "TextFault" = some (.ref C)
  O : OexC K C
  iC : PySem.W.findIn K (.ref C) "__init__" = some (some (.ref fI))
  tI : PySem.W.typeIn K (.ref fI) = some (.type "function")
  F : Fun K "__init__" "TextFault.__init__" sTFInit fI fdI
  b : Binds K fdI ["self", "line"] []
  nL : PySem.W.findIn K (.ref C) "line" = some none
def spTFInit (C : Addr) : Sp := fun vs H Q _ => ∃ (a : Addr) (i : V), vs = [.ref a, i] ∧ H a = some (exo a C none) ∧
  ∀ d, H d = none → d ≠ a → Q .non (upd (upd H d (exd d [("line", i)])) a (exo a C (some d)))
/-- rows at as -/
def RowsTx (H : Hp) (as : List Addr) (rows : List (List Str)) : Prop := Paired (fun a ws => H a = some (.lst (ws.map V.str))) as rows
theorem RowsTx.mono {H H' : Hp} : ∀ {as : List Addr} {rows : List (List Str)}, Same H H' → RowsTx H as rows → RowsTx H' as rows
  | [], [], _, .nil => .nil
  | _ :: _, _ :: _, s, .cons h t => .cons (s _ _ h) (RowsTx.mono s t)
theorem RowsTx.app {H : Hp} : ∀ {as : List Addr} {rows : List (List Str)} {a : Addr} {ws : List Str}, RowsTx H as rows → H a = some (.lst (ws.map V.str)) → RowsTx H (as ++ [a]) (rows ++ [ws])
  | [], [], _, _, .nil, h => .cons h .nil
  | _ :: _, _ :: _, _, _, .cons h t, q => .cons h (RowsTx.app t q)
theorem RowsTx.len {H : Hp} {as : List Addr} {rows : List (List Str)} (h : RowsTx H as rows) : as.length = rows.length := Paired.length h
theorem RowsTx.keep {H H' : Hp} {r : Addr} : ∀ {as : List Addr} {rows : List (List Str)}, RowsTx H as rows → (∀ b o, b ≠ r → H b = some o → H' b = some o) → r ∉ as → RowsTx H' as rows
  | [], [], .nil, _, _ => .nil
  | a :: _, _ :: _, .cons h t, k, n => .cons (k a _ (fun e => n (by rw [← e]; exact List.mem_cons_self ..)) h) (RowsTx.keep t k fun m => n (List.mem_cons_of_mem _ m))
/-- a text that is not larger than this -/
def spSplitText (C : Addr) : Sp := fun vs H Q E => ∃ x : Str, vs = [.str x] ∧ x.length ≤ 10000 ∧
  (fault x = none → ∀ (H' : Hp) (a : Addr) (as : List Addr), Same H H' → H a = none → H' a = some (.lst (as.map V.ref)) → RowsTx H' as ((linesOf x).map rowOf) → Q (.ref a) H') ∧
  (∀ k, fault x = some k → TFRaised C E H (k : Int))
structure TxtO (K : PySem.W.Frag) (mg : Str → Option Value) (fAA : Addr) (fdAA : FuncData) : Prop where
  gAA : mg "are_arguments" = some (.ref fAA)
  FAA : Fun K "are_arguments" "are_arguments" sAreArgs fAA fdAA
  bAA : Binds K fdAA ["word", "rest"] []
  words : ∃ a, mg "LINE_WORDS" = some (.ref a) ∧ SqT K (fun _ => none) a (lineWords.map V.str)
theorem fault_step {x : Str} {i : Nat} {w l f : Str} {r : List Str} {n : Nat} (hw : lineWords[i]? = some w) (hl : (linesOf x)[i]? = some l) (hs : Txt.split l spS = f :: r) :
    faultL n (lineWords.drop i) ((linesOf x).drop i) = if f = w ∧ areArgs w r = true then faultL (n + 1) (lineWords.drop (i + 1)) ((linesOf x).drop (i + 1)) else some n := by
  have e1 : lineWords.drop i = w :: lineWords.drop (i + 1) := by
    obtain ⟨h1, h2⟩ := List.getElem?_eq_some_iff.mp hw
    rw [List.drop_eq_getElem_cons h1, h2]
  have e2 : (linesOf x).drop i = l :: (linesOf x).drop (i + 1) := by
    obtain ⟨h1, h2⟩ := List.getElem?_eq_some_iff.mp hl
    rw [List.drop_eq_getElem_cons h1, h2]
  rw [e1, e2]
  show (match Txt.split l spS with | [] => some n | f :: r => if f = w ∧ areArgs w r = true then faultL (n + 1) (lineWords.drop (i + 1)) ((linesOf x).drop (i + 1)) else some n) = _
  rw [hs]
section
variable {P : Program} {w : World} {K : PySem.W.Frag} {mg : Str → Option Value} {base : Heap} {fII fIB fHO : Addr} {fdII fdIB fdHO : FuncData} {fTW fNW fRW : Addr} {fdTW fdNW fdRW : FuncData} {fIT fIR fAs : Addr} {fdIT fdIR fdAs : FuncData} {C fI fAA : Addr} {fdI fdAA : FuncData}
theorem scTFInit : FnScope ["self", "line"] ["self", "line"] (defScope sTFInit) := ⟨rfl, rfl, rfl, by decide +kernel, rfl, by decide +kernel, by decide +kernel⟩
theorem ok_tfinit (TT : TxtTF K mg C fI fdI) : FnOk P w K mg base CX0 1 fI fdI ["self", "line"] (spTFInit C) := by
  refine TT.F.ok scTFInit (fun vs H Q E h => ?_) (fun cdv A outer s H vs Q E hr h => ?_)
  · obtain ⟨a, i, rfl, _⟩ := h
    rfl
  · obtain ⟨a, i, rfl, ha, k⟩ := h
    refine ⟨_, pss_one (ps_ost (pv 0) (pv 1)), ?_⟩
    exact ⟨_, rfl, _, rfl, a, C, rfl, TT.O, TT.nL, .inl ⟨ha, fun d hd nd => k d hd nd⟩⟩
theorem raise_tf {H : Hp} {E : XK} {i : Int} (k : TFRaised C E H i) :
    ([V.int i] : List V).length ≤ 1000 ∧ ∀ a, H a = none → spTFInit C (.ref a :: ([V.int i] ++ [])) (upd H a (exo a C none))
      (fun v H2 => v = .non ∧ ∃ (d : Addr) (fs : List (Str × V)), H2 a = some (exo a C (some d)) ∧ H2 d = some (exd d fs) ∧ H d = none ∧ E (.ref C) (some d) (upd (del H2 a) d (.xd fs))) (fun _ _ _ => False) := by
  refine ⟨by simp, fun a hn => ⟨a, V.int i, rfl, upd_same, fun d hd nd => ⟨rfl, d, [("line", V.int i)], upd_same, ?_, ?_, ?_⟩⟩⟩
  · rw [upd_ne nd]; exact upd_same
  · rw [upd_ne nd] at hd; exact hd
  · rw [upd_ne nd] at hd
    refine k _ d (fun b o e => ?_) hd upd_same
    have nb : b ≠ a := ne_of_none e hn
    have nd' : b ≠ d := ne_of_none e hd
    rw [upd_ne nd', del_ne nb, upd_ne nb, upd_ne nd', upd_ne nb]
    exact e
abbrev nSplitT : List Str := ["text", "lines", "rows", "number", "word", "first", "rest"]
theorem scSplitT : FnScope nSplitT ["text"] (defScope sSplitT) := ⟨rfl, rfl, rfl, by decide +kernel, rfl, by decide +kernel, by decide +kernel⟩
theorem ok_splitT {f : Addr} {fd : FuncData} (F : Fun K "split_text" "split_text" sSplitT f fd) (T : TxtA mg) (TF : TxtF K mg fII fIB fHO fdII fdIB fdHO) (TM : TxtM K mg fTW fNW fRW fdTW fdNW fdRW) (TI : TxtI K mg fIT fIR fAs fdIT fdIR fdAs)
    (TT : TxtTF K mg C fI fdI) (TO : TxtO K mg fAA fdAA) : FnOk P w K mg base (L2.CX P w) 5 f fd ["text"] (spSplitText C) := by
  have GA : FnOk P w K mg base CX0 4 fAA fdAA ["word", "rest"] (spAreArgs K) := ok_areargs TO.FAA T TF TM
  have GI : FnOk P w K mg base CX0 1 fI fdI ["self", "line"] (spTFInit C) := ok_tfinit TT
  obtain ⟨aW, eW, hW⟩ := TO.words
  refine F.okX scSplitT (fun vs H Q E h => ?_) (fun cdv A outer s H vs Q E hr h => ?_)
  · obtain ⟨x, rfl, _⟩ := h
    rfl
  · obtain ⟨x, rfl, hz, k1, k2⟩ := h
    have hr2 : Room 2 (A.deeper (envOfC (Str.ofString "split_text") (defScope sSplitT) s.heap.objs.size f cdv)) := hr.mono (by decide)
    refine ⟨_, pss_cons (ps_if (pt_not (pt_val (pe_callB call_isi (by rfl) TF.isinstance (by decide +kernel) (pa_cons (pv 0) (pa_cons (pe_bltn (v := .ty "str") (by rfl) TF.str (by decide +kernel) rfl) pa_nil)))))
        (pss_one (ps_raise rfl (takes_of rfl rfl rfl rfl) (pmk_oex TT.O TT.iC TT.tI GI hr2 TT.b .nil pass0 rfl TT.gC (pa_cons pe_int pa_nil)))) pss_nil)
      (pss_cons (ps_set (i := 1) scSplitT.nd rfl (.inl rfl) (pe_split (pv 0) pe_str))
      (pss_cons (ps_set (i := 2) scSplitT.nd rfl (.inl rfl) (pe_lst pa_nil))
      (pss_cons (ps_for (passes_of rfl) rfl (pi_enumT (by rfl) TI.enumerate (pa_cons (pe_glob (v := .ref aW) rfl eW rfl) pa_nil)) (pg_tup rfl (pgs_cons (pg_name (i := 3) scSplitT.nd rfl (.inl rfl)) (pgs_cons (pg_name (i := 4) scSplitT.nd rfl (.inl rfl)) pgs_nil)))
        (pss_cons (ps_if (pt_cmpR op_eq (pv 3) (pe_callB call_len_seq (by rfl) T.len PySem.boot_len (pa_cons (pv 1) pa_nil)) (nomark _))
          (pss_one (ps_raise rfl (takes_of rfl rfl rfl rfl) (pmk_oex TT.O TT.iC TT.tI GI hr2 TT.b .nil pass0 rfl TT.gC (pa_cons (pv 3) pa_nil)))) pss_nil)
        (pss_cons (ps_asg (pe_split (pe_ix ix_list (pv 1) (pv 3) (fun _ _ => rfl)) pe_str) (pg_star rfl (pgs_cons (pg_name (i := 5) scSplitT.nd rfl (.inl rfl)) (pgs_cons (pg_name (i := 6) scSplitT.nd rfl (.inl rfl)) pgs_nil))))
        (pss_cons (ps_if (PW.pt (pw_or (pt_cmpR op_ne (pv 5) (pv 4) (nomark _)) (pw_or1 (pt_not (pt_val (pe_call GA hr rfl TO.gAA TO.FAA.kp TO.bAA .nil pass0 (pa_cons (pv 4) (pa_cons (pv 6) pa_nil))))))))
          (pss_one (ps_raise rfl (takes_of rfl rfl rfl rfl) (pmk_oex TT.O TT.iC TT.tI GI hr2 TT.b .nil pass0 rfl TT.gC (pa_cons (pv 3) pa_nil)))) pss_nil)
        (pss_one (ps_expr (pe_bm PySem.F.plainAttrs_list PySem.F.slot_list_append PySem.F.type_list_append mt_append (pv 2) (pa_cons (pv 6) pa_nil))))))))
      (pss_cons (ps_if (pt_cmpR op_gt (pe_callB call_len_seq (by rfl) T.len PySem.boot_len (pa_cons (pv 1) pa_nil)) (pe_callB call_len_seq (by rfl) T.len PySem.boot_len (pa_cons (pe_glob (v := .ref aW) rfl eW rfl) pa_nil)) (nomark _))
        (pss_one (ps_raise rfl (takes_of rfl rfl rfl rfl) (pmk_oex TT.O TT.iC TT.tI GI hr2 TT.b .nil pass0 rfl TT.gC (pa_cons (pe_callB call_len_seq (by rfl) T.len PySem.boot_len (pa_cons (pe_glob (v := .ref aW) rfl eW rfl) pa_nil)) pa_nil)))) pss_nil)
      (pss_one (ps_ret (pv 2))))))), ?_⟩
    refine ⟨_, rfl, _, _, _, _, _, rfl, .ty "str", tyx (.str x), kit_ty (kit_str (.str x)), _, rfl, iteF ?_⟩
    refine ⟨_, rfl, ⟨_, rfl⟩, x, nlS, rfl, rfl, sepNl.z, Nat.le_trans (by omega : x.length + 2 ≤ 10002) (by decide), fun l hl => ?_⟩
    refine ⟨Nat.zero_le _, fun r hrr => ?_⟩
    have sA : Same H (upd (upd H l (.lst ((Txt.split x nlS).map V.str))) r (.lst [])) := (same_upd hl).trans (same_upd hrr)
    have eL : (upd (upd H l (.lst ((Txt.split x nlS).map V.str))) r (.lst [])) l = some (.lst ((linesOf x).map V.str)) := same_upd hrr _ _ upd_same
    have eR : (upd (upd H l (.lst ((Txt.split x nlS).map V.str))) r (.lst [])) r = some (.lst (([] : List Addr).map V.ref)) := upd_same
    have nlr : l ≠ r := ne_of_none upd_same hrr
    have nHr : H r = none := (same_upd hl).free hrr
    have hbx := split_bound (x := x) sepNl
    have hbn : (linesOf x).length ≤ 10002 := Nat.le_trans (split_le x nlS) (by omega)
    have eF : fault x = faultL 0 (lineWords.drop 0) ((linesOf x).drop 0) := rfl
    generalize hHA : upd (upd H l (.lst ((Txt.split x nlS).map V.str))) r (.lst []) = HA at sA eL eR
    refine ⟨aW, _, rfl, sqtK hW, for_it walk_enumT
      (fun i σ H' => ∃ (v3 v4 v5 v6 : Option V) (as : List Addr), σ = [some (.str x), some (.ref l), some (.ref r), v3, v4, v5, v6] ∧ Same H H' ∧ H' l = some (.lst ((linesOf x).map V.str)) ∧ H' r = some (.lst (as.map V.ref)) ∧
        RowsTx H' as (((linesOf x).take i).map rowOf) ∧ r ∉ as ∧ i ≤ (linesOf x).length ∧ fault x = faultL i (lineWords.drop i) ((linesOf x).drop i))
      ⟨none, none, none, none, [], rfl, sA, eL, eR, .nil, by simp, Nat.zero_le _, eF⟩ (fun i σ H' _ _ => sqtK hW) ?_ ?_⟩
    · rintro i y σ H1 H2 hi ⟨v3, v4, v5, v6, as, rfl, s1, eL1, eR1, hR1, hra, hil, eF1⟩ ⟨Tp, y1, y2, rfl, hTp, rfl, e1, e2⟩
      cases e1
      obtain ⟨wd, ewd, rfl⟩ := map_at e2
      have sT := same_upd (o := .tup [.int (i : Nat), .str wd]) hTp
      refine ⟨Tp, _, rfl, SqT.of upd_same, rfl, _, _, rfl, _, _, rfl, rfl, ?_⟩
      have s2 := s1.trans sT
      have eL2 := sT _ _ eL1
      have eR2 := sT _ _ eR1
      have hR2 := hR1.mono sT
      generalize upd H1 Tp (.tup [.int (i : Nat), .str wd]) = H2 at s2 eL2 eR2 hR2
      refine ⟨_, rfl, _, rfl, l, _, rfl, .inl (SqL.of eL2), rfl, _, rfl, ?_⟩
      rw [List.length_map]
      by_cases c : i = (linesOf x).length
      · rw [decide_eq_true (congrArg V.int (by rw [c]) : V.int ((i : Nat) : Int) = V.int (((linesOf x).length : Nat) : Int))]
        refine iteT ⟨_, rfl, raise_tf (TFRaised.mono (k2 i ?_) s2)⟩
        rw [eF1, c, List.drop_length]
        have e4 : lineWords.drop i = wd :: lineWords.drop (i + 1) := by
          obtain ⟨h1, h2⟩ := List.getElem?_eq_some_iff.mp ewd
          rw [List.drop_eq_getElem_cons h1, h2]
        rw [← c, e4]; rfl
      · rw [decide_eq_false (fun q => c (by have := V.int.inj q; omega) : ¬ V.int ((i : Nat) : Int) = V.int (((linesOf x).length : Nat) : Int))]
        have hi2 : i < (linesOf x).length := by omega
        have elin : (linesOf x)[i]? = some (linesOf x)[i] := List.getElem?_eq_getElem hi2
        generalize (linesOf x)[i] = li at elin
        have hbi : li.length ≤ 10000 := Nat.le_trans (hbx li (List.mem_of_getElem? elin)) hz
        refine iteF ⟨_, rfl, _, rfl, l, _, _, .str li, rfl, rfl, SqL.of eL2, atI_nat (by rw [List.getElem?_map, elin]; rfl), ⟨_, rfl⟩, li, spS, rfl, rfl, sepSp.z, Nat.le_trans (by omega : li.length + 2 ≤ 10002) (by decide), fun q hq => ?_⟩
        obtain ⟨f0, r0, ef⟩ : ∃ f0 r0, Txt.split li spS = f0 :: r0 := by
          cases h : Txt.split li spS with
          | nil => exact absurd h (split_ne sepSp)
          | cons f0 r0 => exact ⟨f0, r0, rfl⟩
        have hbq := split_bound (x := li) sepSp
        have hbq2 := split_le li spS
        have sQ := same_upd (o := .lst ((Txt.split li spS).map V.str)) hq
        have eQ : (upd H2 q (.lst ((Txt.split li spS).map V.str))) q = some (.lst (V.str f0 :: r0.map V.str)) := by rw [upd_same, ef]; rfl
        have s3 := s2.trans sQ
        have eL3 := sQ _ _ eL2
        have eR3 := sQ _ _ eR2
        have hR3 := hR2.mono sQ
        rw [ef] at hbq hbq2
        have hr0 : r0.length ≤ 10002 := by rw [List.length_cons] at hbq2; omega
        generalize upd H2 q (.lst ((Txt.split li spS).map V.str)) = H3 at s3 eL3 eR3 hR3 eQ
        refine ⟨q, V.str f0, r0.map V.str, rfl, SqL.of eQ, by rw [List.length_map]; omega, fun D hD => ?_⟩
        have sD := same_upd (o := .lst (r0.map V.str)) hD
        have s4 := s3.trans sD
        have eL4 := sD _ _ eL3
        have eR4 := sD _ _ eR3
        have hR4 := hR3.mono sD
        have eD4 : (upd H3 D (.lst (r0.map V.str))) D = some (.lst (r0.map V.str)) := upd_same
        have nDr : D ≠ r := fun e => by rw [e, eR3] at hD; cases hD
        generalize upd H3 D (.lst (r0.map V.str)) = H4 at s4 eL4 eR4 hR4 eD4
        have st := fault_step (n := i) ewd elin ef
        refine ⟨_, _, rfl, _, _, rfl, rfl, ?_⟩
        refine ⟨_, rfl, _, rfl, rfl, _, rfl, ?_⟩
        by_cases cf : f0 = wd
        · have ecf : (!decide (V.str f0 = V.str wd)) = false := by rw [decide_eq_true (by rw [cf])]; rfl
          rw [ecf]
          refine iteF ⟨_, rfl, _, rfl, wd, D, r0, rfl, SqL.of eD4, by omega, fun y hy => Nat.le_trans (hbq y (List.mem_cons_of_mem _ hy)) (by omega), fun H5 s5 => ⟨_, rfl, ?_⟩⟩
          cases ca : areArgs wd r0 with
          | true =>
            rw [if_pos ⟨cf, ca⟩] at st
            have eR5 := s5 _ _ eR4
            refine iteF ⟨_, rfl, .inl ⟨rfl, _, SqL.of eR5⟩, _, rfl, r, _, _, rfl, rfl, eR5, ?_, ?_⟩
            · have : as.length = _ := hR4.len
              rw [List.length_map, List.length_take] at this
              rw [List.length_map]
              exact Nat.lt_of_le_of_lt (by omega : as.length ≤ 10002) (by decide)
            · have tK : ∀ b o, b ≠ r → H4 b = some o → (upd H5 r (.lst (as.map V.ref ++ [V.ref D]))) b = some o := fun b o nb h => by rw [upd_ne nb]; exact s5 _ _ h
              refine ⟨_, _, _, _, as ++ [D], rfl, fun b o eb => tK b o (fun e => by rw [e, nHr] at eb; cases eb) (s4 _ _ eb), tK _ _ nlr eL4, by rw [upd_same]; simp, ?_, ?_, by omega, ?_⟩
              · have e5 : ((linesOf x).take (i + 1)).map rowOf = ((linesOf x).take i).map rowOf ++ [r0] := by
                  rw [take_more elin, List.map_append]
                  show _ ++ [rowOf li] = _
                  unfold rowOf
                  rw [ef]; rfl
                rw [e5]
                refine RowsTx.app ?_ (tK _ _ nDr eD4)
                exact hR4.keep tK hra
              · intro hm
                rcases List.mem_append.mp hm with hm | hm
                · exact hra hm
                · exact nDr (List.mem_singleton.mp hm).symm
              · rw [eF1, st]
          | false =>
            rw [if_neg (fun q => by rw [ca] at q; cases q.2)] at st
            refine iteT ⟨_, rfl, raise_tf (TFRaised.mono (k2 i (by rw [eF1, st])) (s4.trans s5))⟩
        · have ecf : (!decide (V.str f0 = V.str wd)) = true := by rw [decide_eq_false fun q => cf (V.str.inj q)]; rfl
          rw [ecf]
          rw [if_neg (fun q => cf q.1)] at st
          exact iteT (iteT ⟨_, rfl, raise_tf (TFRaised.mono (k2 i (by rw [eF1, st])) s4)⟩)
    · rintro σ H1 ⟨v3, v4, v5, v6, as, rfl, s1, eL1, eR1, hR1, hra, hil, eF1⟩
      have h4 : (lineWords.map V.str).length = 4 := rfl
      rw [h4] at hR1 hil eF1
      have e4 : lineWords.drop 4 = [] := rfl
      rw [e4] at eF1
      have ell : ((linesOf x).map V.str).length = (linesOf x).length := List.length_map _
      refine ⟨_, rfl, l, _, rfl, .inl (SqL.of eL1), aW, _, rfl, .inr (sqtK hW), _, _, rfl, rfl, _, rfl, ?_⟩
      rw [ell, h4]
      by_cases c : 4 < (linesOf x).length
      · rw [decide_eq_true (by omega : ((4 : Nat) : Int) < (((linesOf x).length : Nat) : Int))]
        refine iteT ⟨aW, _, rfl, .inr (sqtK hW), ?_⟩
        rw [h4]
        refine raise_tf (TFRaised.mono (k2 4 ?_) s1)
        rw [eF1]
        cases hd : (linesOf x).drop 4 with
        | nil => exact absurd (List.drop_eq_nil_iff.mp hd) (by omega)
        | cons a b => rfl
      · rw [decide_eq_false (by omega : ¬ ((4 : Nat) : Int) < (((linesOf x).length : Nat) : Int))]
        have hl4 : (linesOf x).length = 4 := by omega
        refine iteF ⟨_, rfl, k1 ?_ H1 r as s1 nHr eR1 ?_⟩
        · rw [eF1, List.drop_eq_nil_of_le (by omega)]; rfl
        · rw [List.take_of_length_le (by omega)] at hR1; exact hR1
end
end Dk

set_option Elab.async false
set_option linter.all false
set_option maxRecDepth 100000
set_option maxHeartbeats 1000000
namespace Dk
open PySem PySem.Spec PyProof.Rows L2 TL
def numD : List Nat → Int
  | [a] => (a : Int) - 48
  | [a, b] => ((a : Int) - 48) * 10 + ((b : Int) - 48)
  | _ => 0
def numOf (x : Str) : Int := numD (tl x)
def nw2 : List (List Nat) := (List.range 10).map (fun a => [48 + a]) ++ ((List.range 9).flatMap fun a => (List.range 10).map fun b => [49 + a, 48 + b])
theorem nw_all : ∀ l ∈ nw2, PySem.intText? (⟨l.toArray⟩ : Str) = some (numD l) ∧ tl (Str.ofString (toString (numD l))) = l ∧ 0 ≤ numD l ∧ numD l ≤ 99 := by decide +kernel
theorem nw_mem {x : Str} (h : isNW x = true) : tl x ∈ nw2 := by
  unfold isNW at h
  have key : ∀ c, dig c = true → 48 ≤ c ∧ c ≤ 57 := fun c hc => by
    have := of_decide_eq_true hc
    rw [tl_dig] at this
    simp at this
    omega
  split at h
  · rename_i a ea
    have := key a h
    rw [ea]
    refine List.mem_append_left _ (List.mem_map.mpr ⟨a - 48, List.mem_range.mpr (by omega), by rw [show 48 + (a - 48) = a by omega]⟩)
  · rename_i a b ea
    simp only [Bool.and_eq_true, decide_eq_true_eq] at h
    have h1 := key a h.1.1
    have h2 := key b h.1.2
    have h3 := h.2
    rw [ea]
    refine List.mem_append_right _ (List.mem_flatMap.mpr ⟨a - 49, List.mem_range.mpr (by omega), List.mem_map.mpr ⟨b - 48, List.mem_range.mpr (by omega), ?_⟩⟩)
    rw [show 49 + (a - 49) = a by omega, show 48 + (b - 48) = b by omega]
  · cases h
theorem nw_num {x : Str} (h : isNW x = true) : PySem.intText? x = some (numOf x) ∧ Str.ofString (toString (numOf x)) = x ∧ 0 ≤ numOf x ∧ numOf x ≤ 99 := by
  have := nw_all _ (nw_mem h)
  rw [mk_tl] at this
  exact ⟨this.1, ext_tl this.2.1, this.2.2⟩
theorem nw_len {x : Str} (h : isNW x = true) : x.length ≤ 2 := by
  rw [len_tl x]
  unfold isNW at h
  split at h
  · rename_i a ea; rw [ea]; simp
  · rename_i a b ea; rw [ea]; simp
  · cases h
/-- a number from 0 to 99 is written as a number word -/
theorem num_nw_all : ∀ n ∈ List.range 100, isNW (Str.ofString (toString ((n : Nat) : Int))) = true ∧ numOf (Str.ofString (toString ((n : Nat) : Int))) = ((n : Nat) : Int) := by decide +kernel
theorem num_nw {i : Int} (h0 : 0 ≤ i) (h1 : i ≤ 99) : isNW (Str.ofString (toString i)) = true ∧ numOf (Str.ofString (toString i)) = i := by
  obtain ⟨n, rfl⟩ := Int.eq_ofNat_of_zero_le h0
  exact num_nw_all n (List.mem_range.mpr (by omega))
end Dk

set_option Elab.async false
set_option linter.all false
set_option maxRecDepth 100000
set_option maxHeartbeats 1000000
namespace Dk
open PySem PySem.Spec PyProof.Rows L2 TL
/-! ### the text of a house -/
def numS (i : Int) : Str := Str.ofString (toString i)
def remS (r : Pr) : Str := ((Str.empty ++ numS r.1) ++ colS) ++ numS r.2
def rowsT (ts : List Str) (k : Int) (cs : List Int) (rs : List Pr) : List (List Str) := [wTab :: ts, [wKey, numS k], wCar :: cs.map numS, wRem :: rs.map remS]
def textOf (ts : List Str) (k : Int) (cs : List Int) (rs : List Pr) : Str := Txt.join nlS ((rowsT ts k cs rs).map (Txt.join spS))
/-- numbers from 0 to 99, not too many of anything -/
structure Sizes (ts : List Str) (k : Int) (cs : List Int) (rs : List Pr) : Prop where
  tl : ts.length ≤ 6
  tb : ∀ t ∈ ts, t.length ≤ 1000
  k0 : 0 ≤ k
  k9 : k ≤ 99
  cl : cs.length ≤ 6
  cb : ∀ c ∈ cs, (0 : Int) ≤ c ∧ c ≤ 99
  rl : rs.length ≤ 10
  rb : ∀ r ∈ rs, (0 : Int) ≤ r.1 ∧ r.1 ≤ 99 ∧ (0 : Int) ≤ r.2 ∧ r.2 ≤ 99
def spText (K : PySem.W.Frag) (C : Addr) : Sp := fun vs H Q _ => ∃ (p : Addr) (ts : List Str) (k : Int) (cs : List Int) (rs : List Pr), vs = [.ref p] ∧ HouseAt K C H p ts k cs rs ∧ Sizes ts k cs rs ∧ ∀ H', Same H H' → Q (.str (textOf ts k cs rs)) H'
theorem numS_len {i : Int} (h0 : 0 ≤ i) (h1 : i ≤ 99) : (numS i).length ≤ 2 := nw_len (num_nw h0 h1).1
theorem log_small {i : Int} (h0 : 0 ≤ i) (h1 : i ≤ 99) : i.natAbs.log2 < 1920 := by
  have := Nat.log2_le_self i.natAbs
  omega
theorem len_app (x y : Str) : (x ++ y).length = x.length + y.length := by
  rw [len_tl, len_tl x, len_tl y, tl_append, List.length_append]
theorem col_len : colS.length = 1 := by decide +kernel
theorem remS_len {r : Pr} (h : (0 : Int) ≤ r.1 ∧ r.1 ≤ 99 ∧ (0 : Int) ≤ r.2 ∧ r.2 ≤ 99) : (remS r).length ≤ 5 := by
  unfold remS
  rw [len_app, len_app, len_app, col_len]
  have h1 := numS_len h.1 h.2.1
  have h2 := numS_len h.2.2.1 h.2.2.2
  have h3 : Str.empty.length = 0 := rfl
  omega
theorem rowsAt_get {H : Hp} : ∀ {as : List Addr} {rows : List (List Str)} {i : Nat} {a : Addr}, RowsTx H as rows → as[i]? = some a → ∃ ws, rows[i]? = some ws ∧ H a = some (.lst (ws.map V.str))
  | [], [], _, _, .nil, e => by simp at e
  | _ :: _, _ :: _, 0, _, .cons h _, e => by simp at e; subst e; exact ⟨_, rfl, h⟩
  | _ :: _, _ :: _, i + 1, _, .cons _ t, e => by
    obtain ⟨ws, e1, e2⟩ := rowsAt_get (i := i) t (by simpa using e)
    exact ⟨ws, by simpa using e1, e2⟩
theorem joinL_len (S : List Nat) : ∀ ps : List (List Nat), (joinL S ps).length ≤ (ps.map List.length).sum + ps.length * S.length
  | [] => by simp [joinL]
  | [p] => by simp [joinL]
  | p :: q :: r => by
    have ih := joinL_len S (q :: r)
    show (p ++ (S ++ joinL S (q :: r))).length ≤ _
    rw [List.length_append, List.length_append, List.map_cons, List.sum_cons, List.length_cons (as := q :: r), Nat.succ_mul]
    omega
theorem join_len (y : Str) (ps : List Str) : (Txt.join y ps).length ≤ (ps.map (·.length)).sum + ps.length * y.length := by
  have h := joinL_len (tl y) (ps.map tl)
  rw [len_tl, join_eq, tl_join]
  rw [List.length_map, List.map_map, show List.length ∘ tl = fun p : Str => p.length from funext fun p => (len_tl p).symm, ← len_tl y] at h
  exact h
theorem row_size {ws : List Str} {n m : Nat} (h1 : ws.length ≤ n) (h2 : ∀ x ∈ ws, x.length ≤ m) (h3 : n * m + n ≤ 16000) : (ws.map (·.length)).sum + ws.length * spS.length ≤ 16000 := by
  have h4 := sum_len h2
  have h5 : spS.length = 1 := by decide +kernel
  rw [h5, Nat.mul_one]
  have h6 : ws.length * m ≤ n * m := Nat.mul_le_mul_right _ h1
  omega
theorem rows_small {ts : List Str} {k : Int} {cs : List Int} {rs : List Pr} (S : Sizes ts k cs rs) : ∀ ws ∈ rowsT ts k cs rs, ws.length ≤ 11 ∧ (ws.map (·.length)).sum + ws.length * spS.length ≤ 16000 := by
  have l1 : wTab.length = 6 := by decide +kernel
  have l2 : wKey.length = 4 := by decide +kernel
  have l3 : wCar.length = 7 := by decide +kernel
  have l4 : wRem.length = 6 := by decide +kernel
  intro ws h
  simp only [rowsT, List.mem_cons, List.not_mem_nil, or_false] at h
  rcases h with rfl | rfl | rfl | rfl
  · refine ⟨by rw [List.length_cons]; have := S.tl; omega, row_size (n := 7) (m := 1000) (by rw [List.length_cons]; have := S.tl; omega) (fun x hx => ?_) (by decide)⟩
    rcases List.mem_cons.mp hx with rfl | hx
    · omega
    · exact S.tb x hx
  · refine ⟨by simp, row_size (n := 7) (m := 1000) (by simp) (fun x hx => ?_) (by decide)⟩
    simp only [List.mem_cons, List.not_mem_nil, or_false] at hx
    rcases hx with rfl | rfl
    · omega
    · have := numS_len S.k0 S.k9; omega
  · refine ⟨by rw [List.length_cons, List.length_map]; have := S.cl; omega, row_size (n := 7) (m := 1000) (by rw [List.length_cons, List.length_map]; have := S.cl; omega) (fun x hx => ?_) (by decide)⟩
    rcases List.mem_cons.mp hx with rfl | hx
    · omega
    · obtain ⟨c, hc, rfl⟩ := List.mem_map.mp hx
      have := numS_len (S.cb c hc).1 (S.cb c hc).2; omega
  · refine ⟨by rw [List.length_cons, List.length_map]; have := S.rl; omega, row_size (n := 11) (m := 1000) (by rw [List.length_cons, List.length_map]; have := S.rl; omega) (fun x hx => ?_) (by decide)⟩
    rcases List.mem_cons.mp hx with rfl | hx
    · omega
    · obtain ⟨r, hr, rfl⟩ := List.mem_map.mp hx
      have := remS_len (S.rb r hr); omega
theorem text_size {ts : List Str} {k : Int} {cs : List Int} {rs : List Pr} (S : Sizes ts k cs rs) : (((rowsT ts k cs rs).map (Txt.join spS)).map (·.length)).sum + ((rowsT ts k cs rs).map (Txt.join spS)).length * nlS.length ≤ 16777216 := by
  have h1 : ∀ x ∈ (rowsT ts k cs rs).map (Txt.join spS), x.length ≤ 16000 := fun x hx => by
    obtain ⟨ws, hw, rfl⟩ := List.mem_map.mp hx
    exact Nat.le_trans (join_len _ _) (rows_small S ws hw).2
  have h2 := sum_len h1
  have h3 : nlS.length = 1 := by decide +kernel
  have h4 : ((rowsT ts k cs rs).map (Txt.join spS)).length = 4 := rfl
  rw [h4] at h2 ⊢
  omega
/-- the reading of [sep.join(row) for row in rows] -/
theorem comp_join {K : PySem.W.Frag} {l : Addr} {as : List Addr} {rows : List (List Str)} {H1 : Hp} {D : Addr} {σ : L2.St} {i : Nat} {vs : List Nat} {te : TE} {Qd : Hp → Prop} (hD : H1 D = none) (hl : SqL K H1 l (as.map V.ref)) (hR : RowsTx H1 as rows) (hz : rows.length ≤ 1000)
    (hte : ∀ (a : Addr) (ws : List Str) (H2 : Hp) (Q : VK), ws ∈ rows → H2 a = some (.lst (ws.map V.str)) → Q (.str (Txt.join spS ws)) H2 → te ((wipe σ vs).set i (some (.ref a))) H2 Q) (hw : ∀ x : V, wipe ((wipe σ vs).set i (some x)) vs = wipe σ vs)
    (hd : ∀ H2, Same H1 H2 → H2 D = some (.lst ((rows.map (Txt.join spS)).map V.str)) → Qd H2) :
    ∃ W : Nat → Nat → Hp → Prop, (∃ m, W 0 m (upd H1 D (.lst []))) ∧ ∀ i' m H, W i' m H →
      ((Itl K l).stop i' H ∧ Qd H) ∨ ((Itl K l).go i' H ∧ ∃ Nx : Hp → Prop, (∀ H', Nx H' → ∃ m', m' < m ∧ W (i' + 1) m' H') ∧ ∀ x H', (Itl K l).yld i' H x H' → gName i x (wipe σ vs) H' fun σ2 H2 => wipe σ2 vs = wipe σ vs ∧ tYes σ2 H2 fun b H3 =>
        if b = true then te σ2 H3 fun y H4 => ∃ acc, H4 D = some (.lst acc) ∧ acc.length < sizeLine ∧ Nx (upd H4 D (.lst (acc ++ [y]))) else Nx H3) := by
  have hlen := hR.len
  refine lc_list (K := K) (a := l) (xs := as.map V.ref) (g := gName i) (tt := tYes) (te := te) (vs := vs) (σ := σ) (Qd := Qd)
    (fun i H3 => Same H1 H3 ∧ H3 D = some (.lst (((rows.take i).map (Txt.join spS)).map V.str)))
    ⟨same_upd hD, upd_same⟩ (fun i H3 _ ⟨e, _⟩ => e.seq hl) ?_ ?_
  · rintro j y H3 hi ⟨s3, eD⟩
    obtain ⟨a, ha, rfl⟩ := map_at hi
    obtain ⟨ws, hws, ea⟩ := rowsAt_get hR ha
    have hj : j < rows.length := (List.getElem?_eq_some_iff.mp hws).1
    refine ⟨hw _, hte a ws H3 _ (List.mem_of_getElem? hws) (s3 _ _ ea) ⟨_, eD, ?_, fun b o eb => ?_, ?_⟩⟩
    · rw [List.length_map, List.length_map, List.length_take]
      exact Nat.lt_of_le_of_lt (Nat.le_trans (Nat.min_le_left _ _) (by omega : j ≤ 1000)) (by decide)
    · rw [upd_ne (ne_of_none eb hD)]; exact s3 _ _ eb
    · rw [upd_same, take_more hws, List.map_append, List.map_append]; rfl
  · rintro H3 ⟨s3, eD⟩
    rw [List.length_map, hlen, List.take_length] at eD
    exact hd H3 s3 eD
end Dk

set_option Elab.async false
set_option linter.all false
set_option maxRecDepth 100000
set_option maxHeartbeats 4000000
namespace Dk
open PySem PySem.Spec PyProof.Rows L2 TL
/-! ### the bytes of a house -/
def hBit (c : Nat) : Int := if c = 104 then 1 else 0
def tabB (t : Str) : List Int := ((tl t).length : Int) :: (tl t).map hBit
def prB (r : Pr) : List Int := [r.1, r.2]
def encT (ts : List Str) : List Int := [75, (ts.length : Int)] ++ ts.flatMap tabB
def encC (ts : List Str) (kk : Int) (cs : List Int) : List Int := (encT ts ++ [kk]) ++ ((cs.length : Int) :: cs)
def encB (ts : List Str) (kk : Int) (cs : List Int) (rs : List Pr) : List Int := (encC ts kk cs ++ [(rs.length : Int)]) ++ rs.flatMap prB
def enc (ts : List Str) (kk : Int) (cs : List Int) (rs : List Pr) : List Int := encB ts kk cs rs ++ [(encB ts kk cs rs).sum % 256]
def ohS : Str := Str.ofString "oh"
theorem tl_oh : tl ohS = [111, 104] := by decide +kernel
theorem occ_oh {c : Nat} (h : c = 104 ∨ c = 111) : ∃ i rest, Builtin.Str.occurrences ohS ⟨#[c]⟩ 0 ohS.length 1 = i :: rest ∧ ((i : Nat) : Int) = hBit c := by
  rcases h with rfl | rfl
  · exact ⟨1, [], by decide +kernel, rfl⟩
  · exact ⟨0, [], by decide +kernel, rfl⟩
theorem take_flat {α β : Type} {f : α → List β} {l : List α} {i : Nat} {x : α} (h : l[i]? = some x) : (l.take (i + 1)).flatMap f = (l.take i).flatMap f ++ f x := by
  rw [take_more h, List.flatMap_append]
  simp
theorem flat_len {α β : Type} {f : α → List β} {m : Nat} : ∀ {l : List α}, (∀ x ∈ l, (f x).length ≤ m) → (l.flatMap f).length ≤ l.length * m
  | [], _ => by simp
  | x :: l, h => by
    rw [List.flatMap_cons, List.length_append, List.length_cons, Nat.succ_mul]
    have := flat_len (f := f) (m := m) (l := l) fun y hy => h y (List.mem_cons_of_mem _ hy)
    have := h x (List.mem_cons_self ..)
    omega
theorem tabB_len {ts : List Str} (h : Tabs ts) : ∀ t ∈ ts, (tabB t).length ≤ 25 := fun t ht => by
  unfold tabB
  rw [List.length_cons, List.length_map]
  have := (h t ht).pos.2
  omega
theorem encT_len {ts : List Str} (h : Tabs ts) (h6 : ts.length ≤ 6) : (encT ts).length ≤ 152 := by
  unfold encT
  rw [List.length_append]
  have := flat_len (f := tabB) (tabB_len h)
  show 2 + _ ≤ _
  have : ts.length * 25 ≤ 150 := by omega
  omega
theorem up_le6 {n : Nat} {cs : List Int} (hp : cs.Pairwise (· < ·)) (hm : ∀ c ∈ cs, (0 : Int) ≤ c ∧ c < (n : Int)) (h6 : n ≤ 6) : cs.length ≤ 6 := by
  have key : ∀ (l : List Int) (a : Int), l.Pairwise (· < ·) → (∀ c ∈ l, a ≤ c ∧ c < (n : Int)) → a ≤ (n : Int) → (l.length : Int) ≤ (n : Int) - a := by
    intro l
    induction l with
    | nil => intro a _ _ h; simp; omega
    | cons x l ih =>
      intro a hp hm ha
      have hx := hm x (List.mem_cons_self ..)
      have := ih (x + 1) (List.pairwise_cons.mp hp).2 (fun c hc => ⟨by have := (List.pairwise_cons.mp hp).1 c hc; omega, (hm c (List.mem_cons_of_mem _ hc)).2⟩) (by omega)
      rw [List.length_cons]
      omega
  have := key cs 0 hp hm (by omega)
  omega
theorem encB_len {ts : List Str} {kk : Int} {cs : List Int} {rs : List Pr} (h : Parts ts kk cs rs) : (encC ts kk cs).length ≤ 160 ∧ (encB ts kk cs rs).length ≤ 200 := by
  have h1 := encT_len h.tabs h.n6
  have h2 := up_le6 h.cp h.cm h.n6
  have h3 : (rs.flatMap prB).length ≤ rs.length * 2 := flat_len fun r _ => Nat.le_refl 2
  have h4 := h.r10
  have h5 : (encC ts kk cs).length = (encT ts).length + 1 + (cs.length + 1) := by
    unfold encC
    rw [List.length_append, List.length_append, List.length_cons]; rfl
  have h6 : (encB ts kk cs rs).length = (encC ts kk cs).length + 1 + (rs.flatMap prB).length := by
    unfold encB
    rw [List.length_append, List.length_append]; rfl
  omega
/-! ### persons, checksum -/
abbrev rSIdx : V → List V → Hp → VK → Prop := fun x xs H Q => ∃ a b i rest, x = .str a ∧ xs = [.str b] ∧ Builtin.Str.occurrences a b 0 a.length 1 = i :: rest ∧ Q (.int (i : Nat)) H
def spPers (K : PySem.W.Frag) (CH : Addr) : Sp := fun vs H Q _ => ∃ (p : Addr) (ts : List Str) (k : Int) (cs : List Int) (rs : List Pr), vs = [.ref p] ∧ HouseAt K CH H p ts k cs rs ∧ Q (.int (ts.length : Int)) H
def spSum (K : PySem.W.Frag) : Sp := fun vs H Q _ => ∃ (a : Addr) (ns : List Int), vs = [.ref a] ∧ SqL K H a (ns.map V.int) ∧ Q (.int (ns.sum % 256)) H
def spEnc (K : PySem.W.Frag) (CH : Addr) : Sp := fun vs H Q _ => ∃ (p : Addr) (ts : List Str) (k : Int) (cs : List Int) (rs : List Pr), vs = [.ref p] ∧ HouseAt K CH H p ts k cs rs ∧ Parts ts k cs rs ∧ ∀ (H' : Hp) (a : Addr), Same H H' → H a = none → H' a = some (.lst ((enc ts k cs rs).map V.int)) → Q (.ref a) H'
structure TxtEn (K : PySem.W.Frag) (mg : Str → Option Value) (CH pPs gPs fSm : Addr) (fdPs fdSm : FuncData) : Prop where
  poPs : PropOf K CH "persons" pPs gPs
  FPs : Fun K "persons" "House.persons" sPersonsP gPs fdPs
  bPs : Binds K fdPs ["self"] []
  gSm : mg "checksum" = some (.ref fSm)
  FSm : Fun K "checksum" "checksum" sChksum fSm fdSm
  bSm : Binds K fdSm ["code"] []
  header : ∃ t, mg "HEADER" = some (.int 75 t)
  coded : ∃ t, mg "CODED_LETTERS" = some (.str ohS t)
  sum : mg "sum" = none
section
variable {P : Program} {w : World} {K : PySem.W.Frag} {mg : Str → Option Value} {base : Heap} {CH fP fT fK fC fR : Addr} {fdP fdT fdK fdC fdR : FuncData} {pPs gPs fSm : Addr} {fdPs fdSm : FuncData}
theorem scPers : FnScope ["self"] ["self"] (defScope sPersonsP) := ⟨rfl, rfl, rfl, by decide +kernel, rfl, by decide +kernel, by decide +kernel⟩
theorem ok_pers (N : TxtEn K mg CH pPs gPs fSm fdPs fdSm) (TL' : TxtL K mg CH fP fT fK fC fR fdP fdT fdK fdC fdR) (T : TxtA mg) : FnOk P w K mg base CX0 1 gPs fdPs ["self"] (spPers K CH) := by
  refine N.FPs.ok scPers (fun vs H Q E h => ?_) (fun cdv A outer s H vs Q E hr h => ?_)
  · obtain ⟨p, ts, k, cs, rs, rfl, _⟩ := h
    rfl
  · obtain ⟨p, ts, kk, cs, rs, rfl, ⟨dx, aT, aC, aR, xs, e1, e2, e3, e4, e5⟩, k⟩ := h
    refine ⟨_, pss_one (ps_ret (pe_callB call_len_seq (by rfl) T.len PySem.boot_len (pa_cons (pe_fld (pv 0) rfl) pa_nil))), ?_⟩
    refine ⟨_, rfl, p, CH, dx, _, _, rfl, e1, TL'.cl, TL'.nT, hf_tables _ _ _ _, aT, _, rfl, .inr e2, ?_⟩
    rw [List.length_map]
    exact k
theorem scSum : FnScope ["code"] ["code"] (defScope sChksum) := ⟨rfl, rfl, rfl, by decide +kernel, rfl, by decide +kernel, by decide +kernel⟩
theorem ok_sum (N : TxtEn K mg CH pPs gPs fSm fdPs fdSm) : FnOk P w K mg base CX0 1 fSm fdSm ["code"] (spSum K) := by
  refine N.FSm.ok scSum (fun vs H Q E h => ?_) (fun cdv A outer s H vs Q E hr h => ?_)
  · obtain ⟨a, ns, rfl, _⟩ := h
    rfl
  · obtain ⟨a, ns, rfl, hS, k⟩ := h
    refine ⟨_, pss_one (ps_ret (pe_op op_mod (pe_callB (cr_sum rfl) (by rfl) N.sum (by decide +kernel) (pa_cons (pv 0) pa_nil)) pe_int)), ?_⟩
    exact ⟨_, rfl, a, ns, rfl, hS, _, _, rfl, rfl, by show (0 : Int) < 256; decide, k⟩
abbrev nEnc : List Str := ["house", "code", "table", "tick", "person", "letter"]
theorem scEnc : FnScope nEnc ["house"] (defScope sEncode) := ⟨rfl, rfl, rfl, by decide +kernel, rfl, by decide +kernel, by decide +kernel⟩
theorem ok_encode {f : Addr} {fd : FuncData} (F : Fun K "encode" "encode" sEncode f fd) (N : TxtEn K mg CH pPs gPs fSm fdPs fdSm) (TL' : TxtL K mg CH fP fT fK fC fR fdP fdT fdK fdC fdR) (T : TxtA mg) : FnOk P w K mg base CX0 3 f fd ["house"] (spEnc K CH) := by
  have GP : FnOk P w K mg base CX0 1 gPs fdPs ["self"] (spPers K CH) := ok_pers N TL' T
  have GS : FnOk P w K mg base CX0 1 fSm fdSm ["code"] (spSum K) := ok_sum N
  obtain ⟨t1, eH⟩ := N.header
  obtain ⟨t2, eO⟩ := N.coded
  refine F.ok scEnc (fun vs H Q E h => ?_) (fun cdv A outer s H vs Q E hr h => ?_)
  · obtain ⟨p, ts, k, cs, rs, rfl, _⟩ := h
    rfl
  · obtain ⟨p, ts, kk, cs, rs, rfl, hA, hP, k⟩ := h
    obtain ⟨dx, aT, aC, aR, xs, e1, e2, e3, e4, e5⟩ := id hA.ex
    have hr1 : Room 1 (A.deeper (envOfC (Str.ofString "encode") (defScope sEncode) s.heap.objs.size f cdv)) := hr.mono (by decide)
    have hr2 : Room 2 (A.deeper (envOfC (Str.ofString "encode") (defScope sEncode) s.heap.objs.size f cdv)) := hr.mono (by decide)
    refine ⟨_, pss_cons (ps_set (i := 1) scEnc.nd rfl (.inl rfl) (pe_lst (pa_cons (pe_glob (v := .int 75) rfl eH ⟨_, rfl⟩) (pa_cons (pe_prop (pv 0) TL'.cl N.poPs GP hr2 N.bPs .nil pass0 rfl) pa_nil))))
      (pss_cons (ps_for PassesOwn.never rfl (pi_tup (pe_fld (pv 0) rfl)) (pg_name (i := 2) scEnc.nd rfl (.inl rfl))
        (pss_cons (ps_expr (pe_bm PySem.F.plainAttrs_list PySem.F.slot_list_append PySem.F.type_list_append mt_append (pv 1) (pa_cons (pe_callB call_len_str (by rfl) T.len PySem.boot_len (pa_cons (pv 2) pa_nil)) pa_nil)))
        (pss_one (ps_expr (pe_bm PySem.F.plainAttrs_list PySem.F.slot_list_extend PySem.F.type_list_extend mt_extend (pv 1) (pa_cons
          (pe_lc (own := [("letter", 5)]) (g := gName 5) (te := tBM K "str" rSIdx (tC (.str ohS)) (tCons (tVar 5) tNil)) (by rfl) scEnc.nd (pi_str (pv 2)) (blkOk_by (N := nEnc) (sc := defScope sEncode) (by decide +kernel)) (fun _ _ _ _ _ => pg_name (i := 5) scEnc.nd rfl (Or.inl rfl)) (fun _ _ _ _ _ => pts_nil)
            (fun _ _ _ _ _ => by exact pe_bm PySem.F.plainAttrs_str PySem.F.slot_str_index PySem.F.type_str_index mt_sindex (pe_glob (v := .str ohS) rfl eO ⟨_, rfl⟩) (pa_cons (pv 5) pa_nil))) pa_nil))))))
      (pss_cons (ps_expr (pe_bm PySem.F.plainAttrs_list PySem.F.slot_list_append PySem.F.type_list_append mt_append (pv 1) (pa_cons (pe_fld (pv 0) rfl) pa_nil)))
      (pss_cons (ps_expr (pe_bm PySem.F.plainAttrs_list PySem.F.slot_list_extend PySem.F.type_list_extend mt_extend (pv 1) (pa_cons (pe_lst (pa_cons (pe_callB call_len_seq (by rfl) T.len PySem.boot_len (pa_cons (pe_fld (pv 0) rfl) pa_nil)) (StX.pa_star (pe_fld (pv 0) rfl) pa_nil))) pa_nil)))
      (pss_cons (ps_expr (pe_bm PySem.F.plainAttrs_list PySem.F.slot_list_append PySem.F.type_list_append mt_append (pv 1) (pa_cons (pe_callB call_len_seq (by rfl) T.len PySem.boot_len (pa_cons (pe_fld (pv 0) rfl) pa_nil)) pa_nil)))
      (pss_cons (ps_for PassesOwn.never rfl (pi_tup (pe_fld (pv 0) rfl)) (pg_tup rfl (pgs_cons (pg_name (i := 3) scEnc.nd rfl (.inl rfl)) (pgs_cons (pg_name (i := 4) scEnc.nd rfl (.inl rfl)) pgs_nil)))
        (pss_one (ps_expr (pe_bm PySem.F.plainAttrs_list PySem.F.slot_list_extend PySem.F.type_list_extend mt_extend (pv 1) (pa_cons (pe_lst (pa_cons (pv 3) (pa_cons (pv 4) pa_nil))) pa_nil)))))
      (pss_one (ps_ret (pe_lst (StX.pa_star (pv 1) (pa_cons (pe_call GS hr1 rfl N.gSm N.FSm.kp N.bSm .nil pass0 (pa_cons (pv 1) pa_nil)) pa_nil))))))))))
      , ?_⟩
    have n6 := hP.n6
    have lc6 := up_le6 hP.cp hP.cm n6
    obtain ⟨lC, lB⟩ := encB_len hP
    refine ⟨_, rfl, p, dx, _, rfl, e1, p, ts, kk, cs, rs, rfl, hA, by show 2 ≤ sizeLine; decide, fun q hq => ?_⟩
    have s1 := same_upd (o := .lst [.int 75, .int (ts.length : Int)]) hq
    have eq1 : (upd H q (.lst [.int 75, .int (ts.length : Int)])) q = some (.lst (([75, (ts.length : Int)] : List Int).map V.int)) := upd_same
    generalize upd H q (.lst [.int 75, .int (ts.length : Int)]) = H1 at s1 eq1
    have npq : p ≠ q := ne_of_none e1 hq
    have keep : ∀ {H' : Hp}, Kp q H1 H' → Same H H' := fun k b o e => k _ _ (ne_of_none e hq) (s1 _ _ e)
    -- the timetables
    refine ⟨_, rfl, p, CH, dx, _, _, rfl, s1 _ _ e1, TL'.cl, TL'.nT, hf_tables _ _ _ _, aT, rfl, ⟨_, sSqT s1 e2⟩, for_tup (K := K) (a := aT) (xs := ts.map V.str)
      (fun i σ H' => ∃ v2 v3 v4 v5 : Option V, σ = [some (.ref p), some (.ref q), v2, v3, v4, v5] ∧ Kp q H1 H' ∧ H' q = some (.lst (([75, (ts.length : Int)] ++ (ts.take i).flatMap tabB).map V.int)))
      ⟨_, _, _, _, rfl, Kp.refl, by rw [eq1]; rfl⟩ (fun i σ H' _ ⟨_, _, _, _, _, kk', _⟩ => sSqT (keep kk') e2) ?_ ?_⟩
    · rintro i y σ H2 hi ⟨v2, v3, v4, v5, rfl, k2, eq2⟩
      obtain ⟨t, ht, rfl⟩ := map_at hi
      have hit := hP.tabs t (List.mem_of_getElem? ht)
      have hil : i < ts.length := (List.getElem?_eq_some_iff.mp ht).1
      have hl2 : ([75, (ts.length : Int)] ++ (ts.take i).flatMap tabB).length ≤ 152 := by
        have := flat_len (f := tabB) (l := ts.take i) (m := 25) fun x hx => tabB_len hP.tabs x (List.mem_of_mem_take hx)
        rw [List.length_append]
        have h3 : (ts.take i).length ≤ 6 := by rw [List.length_take]; omega
        have h4 : (ts.take i).length * 25 ≤ 150 := by omega
        show 2 + _ ≤ _
        omega
      generalize hcode : [75, (ts.length : Int)] ++ (ts.take i).flatMap tabB = code at eq2 hl2
      refine ⟨_, rfl, .inl ⟨rfl, _, SqL.of eq2⟩, _, rfl, _, rfl, hit.size, q, _, _, rfl, rfl, eq2, ?_, ?_⟩
      · rw [List.length_map]; exact Nat.lt_of_le_of_lt hl2 (by decide)
      have eq3 : (upd H2 q (.lst (code.map V.int ++ [.int (t.length : Int)]))) q = some (.lst ((code ++ [(t.length : Int)]).map V.int)) := by rw [upd_same, List.map_append]; rfl
      have k3 : Kp q H1 (upd H2 q (.lst (code.map V.int ++ [.int (t.length : Int)]))) := k2.trans kp_upd
      generalize upd H2 q (.lst (code.map V.int ++ [.int (t.length : Int)])) = H3 at eq3 k3
      refine ⟨_, rfl, .inl ⟨rfl, _, SqL.of eq3⟩, _, rfl, t, rfl, fun D hD => lc_it walk_str
        (fun j H4 => Same H3 H4 ∧ H4 D = some (.lst ((((tl t).take j).map hBit).map V.int)))
        ⟨same_upd hD, upd_same⟩ (fun _ _ _ _ => True.intro) ?_ ?_⟩
      · rintro j y H4 H5 hj ⟨s4, eD⟩ ⟨rfl, c, hc, rfl⟩
        have hc' : (tl t)[j]? = some c := by rw [← hc]; exact Array.getElem?_toList
        obtain ⟨m, rest, ho, hb⟩ := occ_oh (hit.ho c (List.mem_of_getElem? hc'))
        have hz := hit.size
        refine ⟨rfl, rfl, _, rfl, ohS, ⟨#[c]⟩, m, rest, rfl, rfl, ho, _, eD, ?_, fun b o eb => ?_, ?_⟩
        · rw [List.length_map, List.length_map, List.length_take]
          exact Nat.lt_of_le_of_lt (Nat.le_trans (Nat.min_le_right _ _) (by have := hit.pos.2; omega : _ ≤ 1000)) (by decide)
        · rw [upd_ne (ne_of_none eb hD)]; exact s4 _ _ eb
        · rw [upd_same, take_more hc', List.map_append, List.map_append, hb]; rfl
      · rintro H4 ⟨s4, eD⟩
        have e : (tl t).take t.cps.size = tl t := List.take_of_length_le (by simp)
        rw [e] at eD
        have eq4 := s4 _ _ eq3
        refine ⟨q, D, _, _, rfl, rfl, eq4, eD, ?_, ?_⟩
        · rw [List.length_map, List.length_map, List.length_map, List.length_append]
          exact Nat.le_trans (by have := hit.pos.2; show code.length + 1 + _ ≤ 1000; omega) (by decide)
        refine ⟨_, _, _, _, rfl, (k3.trans (sKp s4)).trans kp_upd, ?_⟩
        rw [upd_same, take_flat ht, ← List.append_assoc, hcode, ← List.map_append]
        unfold tabB
        rw [len_tl t, List.append_assoc]
        rfl
    · rintro σ H2 ⟨v2, v3, v4, v5, rfl, k2, eq2⟩
      rw [List.length_map, List.take_length] at eq2
      have eq2 : H2 q = some (.lst ((encT ts).map V.int)) := eq2
      have s2 := keep k2
      have hl2 := encT_len hP.tabs n6
      -- the keys
      refine ⟨_, rfl, .inl ⟨rfl, _, SqL.of eq2⟩, _, rfl, p, CH, dx, _, _, rfl, s2 _ _ e1, TL'.cl, TL'.nK, hf_keys _ _ _ _, q, _, _, rfl, rfl, eq2, ?_, ?_⟩
      · rw [List.length_map]; exact Nat.lt_of_le_of_lt hl2 (by decide)
      have eq3 : (upd H2 q (.lst ((encT ts).map V.int ++ [.int kk]))) q = some (.lst ((encT ts ++ [kk]).map V.int)) := by rw [upd_same, List.map_append]; rfl
      have k3 : Kp q H1 (upd H2 q (.lst ((encT ts).map V.int ++ [.int kk]))) := k2.trans kp_upd
      generalize upd H2 q (.lst ((encT ts).map V.int ++ [.int kk])) = H3 at eq3 k3
      have s3 := keep k3
      -- the careful persons
      refine ⟨_, rfl, .inl ⟨rfl, _, SqL.of eq3⟩, _, rfl, p, CH, dx, _, _, rfl, s3 _ _ e1, TL'.cl, TL'.nC, hf_careful _ _ _ _, aC, _, rfl, .inr (sSqT s3 e3), _, rfl, p, CH, dx, _, _, rfl, s3 _ _ e1, TL'.cl, TL'.nC, hf_careful _ _ _ _, aC, _, rfl, .inl (sSqT s3 e3), ?_⟩
      refine ⟨?_, fun l hl => ?_⟩
      · show (V.int _ :: (cs.map V.int ++ [])).length ≤ sizeLine
        rw [List.append_nil, List.length_cons, List.length_map]
        exact Nat.le_trans (by omega : _ ≤ 1000) (by decide)
      rw [List.append_nil, List.length_map]
      have s4 := same_upd (o := .lst (V.int (cs.length : Int) :: cs.map V.int)) hl
      have el : (upd H3 l (.lst (V.int (cs.length : Int) :: cs.map V.int))) l = some (.lst (((cs.length : Int) :: cs).map V.int)) := upd_same
      have eq4 := s4 _ _ eq3
      have k4 := k3.trans (sKp (l := q) s4)
      generalize upd H3 l (.lst (V.int (cs.length : Int) :: cs.map V.int)) = H4 at el eq4 k4
      refine ⟨q, l, _, _, rfl, rfl, eq4, el, ?_, ?_⟩
      · simp only [List.length_map, List.length_append, List.length_cons, List.length_nil]
        exact Nat.le_trans (by omega : _ ≤ 1000) (by decide)
      have eq5 : (upd H4 q (.lst ((encT ts ++ [kk]).map V.int ++ ((cs.length : Int) :: cs).map V.int))) q = some (.lst ((encC ts kk cs).map V.int)) := by rw [upd_same, ← List.map_append]; rfl
      have k5 : Kp q H1 (upd H4 q (.lst ((encT ts ++ [kk]).map V.int ++ ((cs.length : Int) :: cs).map V.int))) := k4.trans kp_upd
      generalize upd H4 q (.lst ((encT ts ++ [kk]).map V.int ++ ((cs.length : Int) :: cs).map V.int)) = H5 at eq5 k5
      have s5 := keep k5
      -- how many reminders
      refine ⟨_, rfl, .inl ⟨rfl, _, SqL.of eq5⟩, _, rfl, p, CH, dx, _, _, rfl, s5 _ _ e1, TL'.cl, TL'.nR, hf_rem _ _ _ _, aR, _, rfl, .inr (sSqT s5 e4), q, _, _, rfl, rfl, eq5, ?_, ?_⟩
      · rw [List.length_map]; exact Nat.lt_of_le_of_lt lC (by decide)
      rw [e5.len]
      have eq6 : (upd H5 q (.lst ((encC ts kk cs).map V.int ++ [.int (rs.length : Int)]))) q = some (.lst ((encC ts kk cs ++ [(rs.length : Int)]).map V.int)) := by rw [upd_same, List.map_append]; rfl
      have k6 : Kp q H1 (upd H5 q (.lst ((encC ts kk cs).map V.int ++ [.int (rs.length : Int)]))) := k5.trans kp_upd
      generalize upd H5 q (.lst ((encC ts kk cs).map V.int ++ [.int (rs.length : Int)])) = H6 at eq6 k6
      have s6 := keep k6
      refine ⟨_, rfl, p, CH, dx, _, _, rfl, s6 _ _ e1, TL'.cl, TL'.nR, hf_rem _ _ _ _, aR, rfl, ⟨_, sSqT s6 e4⟩, for_tup (K := K) (a := aR) (xs := xs)
        (fun i σ H' => ∃ v2 v3 v4 v5 : Option V, σ = [some (.ref p), some (.ref q), v2, v3, v4, v5] ∧ Kp q H1 H' ∧ H' q = some (.lst (((encC ts kk cs ++ [(rs.length : Int)]) ++ (rs.take i).flatMap prB).map V.int)))
        ⟨_, _, _, _, rfl, k6, by rw [eq6]; simp⟩ (fun i σ H' _ ⟨_, _, _, _, _, kk', _⟩ => sSqT (keep kk') e4) ?_ ?_⟩
      · rintro i y σ H7 hi ⟨v2, v3, v4, v5, rfl, k7, eq7⟩
        have s7 := keep k7
        have hj : i < xs.length := (List.getElem?_eq_some_iff.mp hi).1
        have hlen := e5.len
        have hrj : rs[i]? = some (rs[i]'(by omega)) := List.getElem?_eq_getElem _
        generalize rs[i]'(by omega) = r at hrj
        have hPr : PrAt H y r := by
          have hk : (xs.map (kf H))[i]? = some (kf H y) := by rw [List.getElem?_map, hi]; rfl
          rw [e5.kf, hrj] at hk
          have e := Option.some.inj hk
          rw [e]; exact e5.mem y (List.mem_of_getElem? hi)
        obtain ⟨t, rfl, ht⟩ := hPr
        refine ⟨t, _, rfl, SqT.of (s7 _ _ ht), rfl, _, _, rfl, _, _, rfl, rfl, ?_⟩
        refine ⟨_, rfl, .inl ⟨rfl, _, SqL.of eq7⟩, _, rfl, _, rfl, by show 2 ≤ sizeLine; decide, fun l hl => ?_⟩
        have s8 := same_upd (o := .lst [.int r.1, .int r.2]) hl
        have el : (upd H7 l (.lst [.int r.1, .int r.2])) l = some (.lst ((prB r).map V.int)) := upd_same
        have eq8 := s8 _ _ eq7
        have k8 := k7.trans (sKp (l := q) s8)
        generalize upd H7 l (.lst [.int r.1, .int r.2]) = H8 at el eq8 k8
        have hlf : ((rs.take i).flatMap prB).length ≤ (rs.take i).length * 2 := flat_len fun r _ => Nat.le_refl 2
        have hli : (rs.take i).length ≤ 10 := by rw [List.length_take]; have := hP.r10; omega
        refine ⟨q, l, _, _, rfl, rfl, eq8, el, ?_, _, _, _, _, rfl, k8.trans kp_upd, ?_⟩
        · rw [List.length_map, List.length_map, List.length_append, List.length_append]
          exact Nat.le_trans (by show _ + 1 + _ + 2 ≤ 1000; omega) (by decide)
        · rw [upd_same, take_flat hrj, ← List.append_assoc, ← List.map_append]
      · rintro σ H7 ⟨v2, v3, v4, v5, rfl, k7, eq7⟩
        rw [e5.len, List.take_length] at eq7
        have eq7 : H7 q = some (.lst ((encB ts kk cs rs).map V.int)) := eq7
        have s7 := keep k7
        refine ⟨_, rfl, q, _, rfl, .inr (SqL.of eq7), _, rfl, q, encB ts kk cs rs, rfl, SqL.of eq7, ?_, fun l hl => ?_⟩
        · rw [List.length_append, List.length_map]
          exact Nat.le_trans (by show _ + 1 ≤ 1000; omega) (by decide)
        refine k _ l (s7.trans (same_upd hl)) (s7.free hl) ?_
        rw [upd_same]
        unfold enc
        rw [List.map_append]
        rfl
end
end Dk

set_option Elab.async false
set_option linter.all false
set_option maxRecDepth 100000
set_option maxHeartbeats 1000000
/-! dicts whose keys are tuples of ints, truth values and tuples of ints -/
namespace Dn
open PySem PyProof.Rows L2
abbrev NXs := List (NestedKey × Addr × Value)
def DnO (P : Program) (w : World) (a : Addr) (xs : NXs) : HO := .ext fun h => (a == sysModules) = false ∧ xs.length ≤ sizeLine ∧ ∃ o es ep, h.get? a = some o ∧ o.ExactDict ∧ o.data = .dict es ep ∧ es.toList = xs.map (entryOfKey (nestedKind P w)) ∧ (xs.map (·.1)).Nodup
/-- a part of a key -/
inductive KAt0 (H : Hp) : NestedKey → V → Prop
  | int (i : Int) : KAt0 H (.num i) (.int i)
  | bl (b : Bool) : KAt0 H (.num (if b = true then 1 else 0)) (.bl b)
  | tup {a : Addr} {ns : List Int} : H a = some (.tup (ns.map V.int)) → KAt0 H (.tup (ns.map .num)) (.ref a)
def KAt (H : Hp) (k : NestedKey) (a : Addr) : Prop := ∃ ks vs, k = .tup ks ∧ H a = some (.tup vs) ∧ Paired (KAt0 H) ks vs
theorem KAt0.mono {H H' : Hp} {k : NestedKey} {v : V} (h : KAt0 H k v) (s : ∀ t ys, H t = some (.tup ys) → H' t = some (.tup ys)) : KAt0 H' k v := by
  cases h with
  | int i => exact .int i
  | bl b => exact .bl b
  | tup e => exact .tup (s _ _ e)
theorem KAt.mono {H H' : Hp} {k : NestedKey} {a : Addr} (h : KAt H k a) (s : ∀ t ys, H t = some (.tup ys) → H' t = some (.tup ys)) : KAt H' k a := by
  obtain ⟨ks, vs, e1, e2, e3⟩ := h
  exact ⟨ks, vs, e1, s _ _ e2, Paired.mapP e3 fun _ _ z => z.mono s⟩
section
variable {P : Program} {w : World} {H : Hp} {h : Heap}
theorem nums_is : ∀ {ns : List Int} {its : List Value}, Vals (ns.map V.int) its → NestedAll h (ns.map .num) its
  | [], [], .nil => .nil
  | n :: ns, _ :: _, .cons r t => by
    obtain ⟨tk, e⟩ := (show ∃ t, _ = Value.int n t from r)
    subst e
    exact .cons (.int n tk) (nums_is t)
theorem nums_depth : ∀ ns : List Int, NestedKey.depthAll (ns.map .num) = 0
  | [] => rfl
  | n :: ns => by show max 0 (NestedKey.depthAll (ns.map .num)) = 0; rw [nums_depth ns]; rfl
theorem kat0_is (ok : HOk P w H h) {k : NestedKey} {v : V} {u : Value} (r : KAt0 H k v) (rv : RelV v u) : NestedIs h k u ∧ k.depth ≤ 1 := by
  cases r with
  | int i =>
    obtain ⟨t, e⟩ := (show ∃ t, u = Value.int i t from rv)
    subst e
    exact ⟨.int i t, by show 0 ≤ 1; decide⟩
  | bl b =>
    obtain rfl : u = Value.bool b := rv
    exact ⟨.bool rfl, by show 0 ≤ 1; decide⟩
  | @tup a ns e =>
    obtain rfl : u = Value.ref a := rv
    obtain ⟨_, its, r, o, h1, h2, n, h3⟩ := (show ObjOk P w H h a (.tup (ns.map V.int)) from ok a _ e)
    exact ⟨.tup h1 h2 h3 (by simpa using nums_is r), by show NestedKey.depthAll _ + 1 ≤ 1; rw [nums_depth]; decide⟩
theorem kats_is (ok : HOk P w H h) : ∀ {ks : List NestedKey} {vs : List V} {us : List Value}, Paired (KAt0 H) ks vs → Vals vs us → NestedAll h ks us ∧ NestedKey.depthAll ks ≤ 1
  | [], [], [], .nil, .nil => ⟨.nil, by show 0 ≤ 1; decide⟩
  | k :: ks, _ :: _, _ :: _, .cons r t, .cons rv tv => by
    obtain ⟨i1, i2⟩ := kats_is ok t tv
    obtain ⟨j1, j2⟩ := kat0_is ok r rv
    exact ⟨.cons j1 i1, by show max k.depth (NestedKey.depthAll ks) ≤ 1; omega⟩
theorem kat_is (ok : HOk P w H h) {k : NestedKey} {a : Addr} (r : KAt H k a) : (nestedKind P w).is h k a := by
  obtain ⟨ks, vs, rfl, e, hp⟩ := r
  obtain ⟨_, its, rv, o, h1, h2, n, h3⟩ := (show ObjOk P w H h a (.tup vs) from ok a _ e)
  obtain ⟨i1, i2⟩ := kats_is ok hp rv
  exact ⟨.tup h1 h2 h3 (by simpa using i1), by show NestedKey.depthAll ks + 1 ≤ 8; omega⟩
end
theorem dn_empty {P : Program} {w : World} {H : Hp} (h : Heap) (hb : sysModules < h.objs.size) : ObjOk P w H (h.push { cls := .type "dict", data := .dict #[] }) h.objs.size (DnO P w h.objs.size []) := by
  refine ⟨⟨beq_eq_false_iff_ne.mpr (Ne.symm (Nat.ne_of_lt hb)), Nat.zero_le _, _, #[], 0, Heap.get?_push_size _ rfl, ⟨rfl, rfl, rfl⟩, rfl, rfl, List.nodup_nil⟩, ⟨_, Heap.get?_push_size _ rfl⟩, ?_⟩
  rintro h1 h2 ⟨e1, e2, o, es, ep, g1, g2⟩ k
  exact ⟨e1, e2, o, es, ep, k _ g1, g2⟩
section
variable {X : Cx} {pins : List (Addr × Obj)} {σ : L2.St} {H : Hp} {s : Shared} {a b : Addr} {xs : NXs} {k : NestedKey} {r : Value} {A : Around} {E : Value → Shared → Prop}
theorem dn_of (I : Inv X pins σ H s) (e : H a = some (DnO X.prog X.w a xs)) (hx : ∀ p ∈ xs, KAt H p.1 p.2.1) : (a == sysModules) = false ∧ xs.length ≤ sizeLine ∧ s.heap.DictOfH (nestedKind X.prog X.w) a xs := by
  obtain ⟨⟨e1, e2, o, es, ep, g1, g2, g3, g4, g5⟩, _⟩ := (show ObjOk X.prog X.w H s.heap a (DnO X.prog X.w a xs) from I.hok a _ e)
  exact ⟨e1, e2, o, es, ep, g1, g2, g3, g4, fun x hxm => kat_is I.hok (hx x hxm), g5⟩
theorem dn_room (hu : A.units + 16 < cLine) : (nestedKind X.prog X.w).room A.in1 := by
  show A.in1.units + 8 < cLine
  rw [Around.in1_units]; omega
theorem dn_notIn {Q : Value → Shared → Prop} (hu : A.units + 16 < cLine) (I : Inv X pins σ H s) (e : H a = some (DnO X.prog X.w a xs)) (hx : ∀ p ∈ xs, KAt H p.1 p.2.1) (hk : KAt H k b)
    (h : ∀ s', Inv X pins σ H s' → Q (.bool (!(atKey xs k).isSome)) s') : wpAny (model X.prog X.w) A (compareOp .NotIn (.ref b) (.ref a)) Q E s := by
  obtain ⟨e1, e2, dd⟩ := dn_of I e hx
  exact wpAny_notIn_heap (dn_room hu) (kat_is I.hok hk) e1 dd (h _ (I.tok _))
theorem dn_set {Q : Unit → Shared → Prop} (hu : A.units + 16 < cLine) (I : Inv X pins σ H s) (e : H a = some (DnO X.prog X.w a xs)) (hx : ∀ p ∈ xs, KAt H p.1 p.2.1) (hk : KAt H k b) (hn : atKey xs k = none) (hl : xs.length < sizeLine)
    (h : ∀ s', Inv X pins σ (upd H a (DnO X.prog X.w a (xs ++ [(k, b, r)]))) s' → Q () s') : wpAny (model X.prog X.w) A (setItem (.ref a) (.ref b) r) Q E s := by
  obtain ⟨e1, e2, dd⟩ := dn_of I e hx
  refine wpAny_setItem_heap (hsz := e2) (dn_room hu) (kat_is I.hok hk) dd fun h' dd' hs => h _ ?_
  rw [storedH_new hn] at dd'
  obtain ⟨q, es, ep, hq, h2, h3, h4, _, h5⟩ := dd'
  refine d_write I (by rw [e]; exact True.intro) hs ⟨q, hq⟩ ⟨⟨e1, ?_, q, es, ep, hq, h2, h3, h4, h5⟩, ⟨q, hq⟩, ?_⟩
  · rw [List.length_append]; exact hl
  · rintro h1 h2 ⟨e1, e2, o, es, ep, g1, g2⟩ k
    exact ⟨e1, e2, o, es, ep, k _ g1, g2⟩
end
/-- {} for such keys -/
def tNew (P : Program) (w : World) : TE := fun _ H Q => ∀ p, H p = none → Q (.ref p) (upd H p (DnO P w p []))
/-- y not in d -/
def tNotIn (P : Program) (w : World) (ty td : TE) : TE := fun σ H Q => ty σ H fun y H1 => td σ H1 fun x H2 => ∃ a b xs k, x = .ref a ∧ y = .ref b ∧ H2 a = some (DnO P w a xs) ∧ (∀ p ∈ xs, KAt H2 p.1 p.2.1) ∧ KAt H2 k b ∧ Q (.bl (!(atKey xs k).isSome)) H2
/-- d[y] = True, not there before -/
def sPut (P : Program) (w : World) (td ty : TE) : TS := fun D σ H => td σ H fun x H2 => ty σ H2 fun y H3 => ∃ a b xs k, x = .ref a ∧ y = .ref b ∧ H3 a = some (DnO P w a xs) ∧ (∀ p ∈ xs, KAt H3 p.1 p.2.1) ∧ KAt H3 k b ∧ atKey xs k = none ∧ xs.length < sizeLine ∧ D.nx σ (upd H3 a (DnO P w a (xs ++ [(k, b, .bool true)])))
section
variable {X : Cx} {o i e value : Expr} {pos pos' p2 : Pos} {td ty tv : TE} {j : Nat}
theorem pe_new : PE X (.Dict [] [] pos) (tNew X.prog X.w) := ⟨fun pins s σ H Q I h =>
  wpAny_Dict_empty ⟨.ref s.heap.objs.size, _, I.laid (a := s.heap.objs.size) (o := DnO X.prog X.w s.heap.objs.size []) (t' := s.toks) (fun _ _ q => Heap.get?_push_of_some _ q) (Nat.le_refl _) (dn_empty s.heap I.big), rfl, h _ (I.hok.fresh (Nat.le_refl _))⟩⟩
theorem pc_notIn (hu : X.A.units + 16 < cLine) (hi : PE X i ty) (ho : PE X o td) : PC X .NotIn i o (tNotIn X.prog X.w ty td) := by
  refine ⟨fun pins s σ H Q I h => ?_⟩
  refine thn (hi.run pins s σ H _ I h) fun iv s1 ⟨y, H1, I1, ry, q1⟩ => thn (ho.run pins s1 σ H1 _ I1 q1) fun u s2 ⟨x, H2, I2, rx, a, b, xs, k, ex, ey, g, hx, hk, q2⟩ => ?_
  subst ex ey
  obtain rfl : u = Value.ref a := rx
  obtain rfl : iv = Value.ref b := ry
  exact dn_notIn hu I2 g hx hk fun s3 I3 => ⟨.bl (!(atKey xs k).isSome), H2, I3, rfl, q2⟩
theorem ps_put (hu : X.A.units + 16 < cLine) (ho : PE X o td) (hi : PE X i ty) (hs : swapsWith (.Constant (.bool true) j p2) (some (.Subscript o i pos')) pos.line X.env = pure false := by rfl) :
    PS X (.Assign [.Subscript o i pos'] (.Constant (.bool true) j p2) pos) (sPut X.prog X.w td ty) := by
  refine ⟨fun pins s σ H D I h => ?_⟩
  refine wpAny_Assign_Subscript (thn ((pe_bl (b := true) (X := X) (pos := p2) (j := j)).run pins s σ H (fun v H1 => v = .bl true ∧ H1 = H) I ⟨rfl, rfl⟩) fun r s1 ⟨v, H1, I1, rv, ev, eH⟩ => ?_) hs
  subst ev eH
  obtain rfl : r = Value.bool true := rv
  refine thn (ho.run pins s1 σ H1 _ I1 h) fun u s2 ⟨x, H2, I2, rx, q2⟩ => thn (hi.run pins s2 σ H2 _ I2 q2) fun iv s3 ⟨y, H3, I3, ry, a, b, xs, k, ex, ey, g, hx, hk, hn, hl, q3⟩ => ?_
  subst ex ey
  obtain rfl : u = Value.ref a := rx
  obtain rfl : iv = Value.ref b := ry
  exact dn_set hu I3 g hx hk hn hl fun s4 I4 => ⟨σ, _, I4, q3⟩
end
end Dn

set_option Elab.async false
set_option linter.all false
set_option maxRecDepth 100000
set_option maxHeartbeats 1000000
namespace Dk
open PySem PySem.Spec PyProof.Rows L2 TL
/-! ### numbers in order -/
def rg (n : Nat) : List Int := (List.range n).map fun k : Nat => (k : Int)
theorem rg_succ (n : Nat) : rg (n + 1) = rg n ++ [(n : Int)] := by unfold rg; rw [List.range_succ, List.map_append]; rfl
theorem rg_len (n : Nat) : (rg n).length = n := by unfold rg; rw [List.length_map, List.length_range]
theorem rg_mem {n : Nat} {p : Int} : p ∈ rg n ↔ 0 ≤ p ∧ p < (n : Int) := by
  unfold rg
  rw [List.mem_map]
  constructor
  · rintro ⟨k, hk, rfl⟩
    have := List.mem_range.mp hk
    omega
  · rintro ⟨h0, h1⟩
    obtain ⟨k, rfl⟩ := Int.eq_ofNat_of_zero_le h0
    exact ⟨k, List.mem_range.mpr (by omega), rfl⟩
def insI (a : Int) : List Int → List Int
  | [] => [a]
  | b :: l => if a ≤ b then a :: b :: l else b :: insI a l
def srt : List Int → List Int
  | [] => []
  | a :: l => insI a (srt l)
theorem insI_perm (a : Int) : ∀ l : List Int, (insI a l).Perm (a :: l)
  | [] => List.Perm.refl _
  | b :: l => by
    unfold insI
    split
    · exact List.Perm.refl _
    · exact ((insI_perm a l).cons b).trans (List.Perm.swap a b l)
theorem srt_perm : ∀ l : List Int, (srt l).Perm l
  | [] => List.Perm.refl _
  | a :: l => (insI_perm a (srt l)).trans ((srt_perm l).cons a)
theorem insI_sorted (a : Int) : ∀ l : List Int, l.Pairwise (· ≤ ·) → (insI a l).Pairwise (· ≤ ·)
  | [], _ => List.pairwise_singleton _ _
  | b :: l, h => by
    unfold insI
    split
    · rename_i hab
      refine List.pairwise_cons.mpr ⟨fun x hx => ?_, h⟩
      rcases List.mem_cons.mp hx with rfl | hx
      · exact hab
      · exact Int.le_trans hab ((List.pairwise_cons.mp h).1 x hx)
    · rename_i hab
      refine List.pairwise_cons.mpr ⟨fun x hx => ?_, insI_sorted a l (List.pairwise_cons.mp h).2⟩
      rcases List.mem_cons.mp ((insI_perm a l).mem_iff.mp hx) with rfl | hx
      · omega
      · exact (List.pairwise_cons.mp h).1 x hx
theorem srt_sorted : ∀ l : List Int, (srt l).Pairwise (· ≤ ·)
  | [] => .nil
  | a :: l => insI_sorted a _ (srt_sorted l)
theorem srt_uniq {l ys : List Int} (p : ys.Perm l) (s : ys.Pairwise (· ≤ ·)) : ys = srt l :=
  List.Perm.eq_of_pairwise (fun a b _ _ h1 h2 => Int.le_antisymm h1 h2) s (srt_sorted l) (p.trans (srt_perm l).symm)
theorem srt_len (l : List Int) : (srt l).length = l.length := (srt_perm l).length_eq
/-! ### what happens in a tick -/
structure Cs where
  home : List Int
  wait : List Int
  carr : List Int
  opn : Bool
abbrev Ev := Str × V
structure Hd where
  ts : List Str
  ks : Int
  cs : List Int
  rs : List Pr
def homeL (x : Str) (t : Int) : Bool := decide ((tl x)[(t % ((tl x).length : Int)).toNat]? = some 104)
def wishes (ts : List Str) (t : Int) : List Bool := ts.map fun x => homeL x t
def wants (ws : List Bool) (p : Int) : Bool := ws.getD p.toNat false
def comersOf (ws : List Bool) (home : List Int) : List Int := (rg ws.length).filter fun p => wants ws p && !decide (p ∈ home)
def canEnter (c : Cs) (cm : List Int) : Bool := if (!c.home.isEmpty || c.opn) = true then true else cm.any fun p => decide (p ∈ c.carr)
def wEnter : Str := Str.ofString "enter"
def wWait : Str := Str.ofString "wait"
def wLeave : Str := Str.ofString "leave"
def wTake : Str := Str.ofString "take"
def wOpen : Str := Str.ofString "open"
def arrive (ws : List Bool) (c : Cs) : Cs × List Ev :=
  let cm := comersOf ws c.home
  if cm.isEmpty = true then ({ c with wait := [] }, [])
  else if canEnter c cm = true then (⟨srt (c.home ++ cm), [], c.carr.filter fun p => !decide (p ∈ cm), false⟩, cm.map fun p => (wEnter, .int p))
  else ({ c with wait := cm }, cm.map fun p => (wWait, .int p))
def takeKey (ks : Int) (c : Cs) (p : Int) : Cs × Bool := if (c.carr.length : Int) = ks then (c, false) else ({ c with carr := srt (c.carr ++ [p]) }, true)
def thinks (h : Hd) (t p : Int) : Bool := decide (p ∈ h.cs) || decide ((t % ((per h.ts : Nat) : Int), p) ∈ h.rs)
def leaveStep (h : Hd) (t : Int) (a : Cs × Bool × List Ev) (p : Int) : Cs × Bool × List Ev :=
  if thinks h t p = true then
    (if (takeKey h.ks a.1 p).2 = true then ((takeKey h.ks a.1 p).1, true, a.2.2 ++ [(wLeave, .int p)] ++ [(wTake, .int p)]) else ((takeKey h.ks a.1 p).1, a.2.1, a.2.2 ++ [(wLeave, .int p)]))
  else (a.1, a.2.1, a.2.2 ++ [(wLeave, .int p)])
def closeC (ks : Int) (c : Cs) (p : Int) : Cs × Ev := if (takeKey ks c p).2 = true then ((takeKey ks c p).1, (wTake, .int p)) else ({ c with opn := true }, (wOpen, .non))
def leaversOf (ws : List Bool) (c : Cs) : List Int := c.home.filter fun p => !wants ws p
def stay (ws : List Bool) (c : Cs) : Cs := { c with home := c.home.filter fun p => wants ws p }
def leaveAll (h : Hd) (t : Int) (ws : List Bool) (c : Cs) : Cs × Bool × List Ev := (leaversOf ws c).foldl (leaveStep h t) (stay ws c, false, [])
def depart (h : Hd) (t : Int) (ws : List Bool) (c : Cs) : Cs × List Ev :=
  match (leaversOf ws c).getLast? with
  | some q => if ((stay ws c).home.isEmpty && !(leaveAll h t ws c).2.1) = true then ((closeC h.ks (leaveAll h t ws c).1 q).1, (leaveAll h t ws c).2.2 ++ [(closeC h.ks (leaveAll h t ws c).1 q).2]) else ((leaveAll h t ws c).1, (leaveAll h t ws c).2.2)
  | none => ((leaveAll h t ws c).1, (leaveAll h t ws c).2.2)
def adv (h : Hd) (t : Int) (c : Cs) : Cs × List Ev :=
  ((depart h t (wishes h.ts t) (arrive (wishes h.ts t) c).1).1, (arrive (wishes h.ts t) c).2 ++ (depart h t (wishes h.ts t) (arrive (wishes h.ts t) c).1).2)
/-! ### in the heap -/
def cFields (vh vs vt vm vw vc vu : V) : List (Str × V) := [("house", vh), ("span", vs), ("tick", vt), ("home", vm), ("waiters", vw), ("carriers", vc), ("unlocked", vu)]
/-- the course at p -/
structure CoAt (CC : Addr) (H : Hp) (p hp : Addr) (sp t : Int) (c : Cs) : Prop where
  ex : ∃ dx aH aW aC, H p = some (.ins CC dx (cFields (.ref hp) (.int sp) (.int t) (.ref aH) (.ref aW) (.ref aC) (.bl c.opn))) ∧ H aH = some (.lst (c.home.map V.int)) ∧ H aW = some (.lst (c.wait.map V.int)) ∧ H aC = some (.lst (c.carr.map V.int))
theorem CoAt.mono {CC : Addr} {H H' : Hp} {p hp : Addr} {sp t : Int} {c : Cs} (h : CoAt CC H p hp sp t c) (s : Same H H') : CoAt CC H' p hp sp t c := by
  obtain ⟨dx, aH, aW, aC, e1, e2, e3, e4⟩ := h
  exact ⟨dx, aH, aW, aC, s _ _ e1, s _ _ e2, s _ _ e3, s _ _ e4⟩
/-- where the list of those at home stands -/
def HomeAt (H : Hp) (p a : Addr) : Prop := ∃ C dx fs, H p = some (.ins C dx fs) ∧ fs.lookup ("home" : Str) = some (.ref a)
theorem HomeAt.mono {H H' : Hp} {p a : Addr} (h : HomeAt H p a) (s : Same H H') : HomeAt H' p a := by
  obtain ⟨C, dx, fs, e1, e2⟩ := h
  exact ⟨C, dx, fs, s _ _ e1, e2⟩
theorem HomeAt.kpl {H H' : Hp} {p a ev : Addr} {xs : List V} (h : HomeAt H p a) (k : Kp ev H H') (e : H ev = some (.lst xs)) : HomeAt H' p a := by
  obtain ⟨C, dx, fs, e1, e2⟩ := h
  exact ⟨C, dx, fs, k _ _ (fun z => by rw [z, e] at e1; cases e1) e1, e2⟩
theorem HomeAt.put {H G : Hp} {p a C dx : Addr} {fs gs : List (Str × V)} {C' dx' : Addr} (h : HomeAt H p a) (e : H p = some (.ins C dx fs)) (g : G p = some (.ins C' dx' gs)) (q : gs.lookup ("home" : Str) = fs.lookup ("home" : Str)) : HomeAt G p a := by
  obtain ⟨C2, dx2, fs2, e1, e2⟩ := h
  have := Option.some.inj (e.symm.trans e1)
  injection this with _ _ e3
  subst e3
  exact ⟨C', dx', gs, g, q.trans e2⟩
/-- a list of events of the tick t -/
def Evs (H : Hp) (t : Int) (xs : List V) (evs : List Ev) : Prop := Paired (fun v (e : Ev) => ∃ a, v = .ref a ∧ H a = some (.tup [.int t, .str e.1, e.2])) xs evs
theorem Evs.mono {H H' : Hp} {t : Int} : ∀ {xs : List V} {evs : List Ev}, Evs H t xs evs → (∀ a ys, H a = some (.tup ys) → H' a = some (.tup ys)) → Evs H' t xs evs
  | [], [], .nil, _ => .nil
  | _ :: _, _ :: _, .cons ⟨a, e, h⟩ q, s => .cons ⟨a, e, s _ _ h⟩ (Evs.mono q s)
theorem Evs.app {H : Hp} {t : Int} : ∀ {xs : List V} {evs : List Ev} {ys : List V} {fs : List Ev}, Evs H t xs evs → Evs H t ys fs → Evs H t (xs ++ ys) (evs ++ fs)
  | [], [], _, _, .nil, h => h
  | _ :: _, _ :: _, _, _, .cons a q, h => .cons a (Evs.app q h)
theorem Evs.len {H : Hp} {t : Int} {xs : List V} {evs : List Ev} (h : Evs H t xs evs) : xs.length = evs.length := Paired.length h
def EvAt (H : Hp) (a : Addr) (t : Int) (evs : List Ev) : Prop := ∃ xs, H a = some (.lst xs) ∧ Evs H t xs evs
/-- the house at hp, seen by the course -/
structure HoAt (K : PySem.W.Frag) (CH : Addr) (H : Hp) (hp : Addr) (h : Hd) : Prop where
  ex : HouseAt K CH H hp h.ts h.ks h.cs h.rs
theorem kp_tup2 {p : Addr} {H H' : Hp} {C dx : Addr} {fs : List (Str × V)} (k : Kp p H H') (e : H p = some (.ins C dx fs)) : ∀ a ys, H a = some (.tup ys) → H' a = some (.tup ys) := fun a ys h => k _ _ (fun q => by rw [q, e] at h; cases h) h
theorem kp_sqt {K : PySem.W.Frag} {p : Addr} {H H' : Hp} {C dx : Addr} {fs : List (Str × V)} {a : Addr} {xs : List V} (k : Kp p H H') (e : H p = some (.ins C dx fs)) (h : SqT K H a xs) : SqT K H' a xs := by
  rcases h with (h | ⟨o, h⟩) | h
  · exact .inl (.inl (k _ _ (fun q => by rw [q, e] at h; cases h) h))
  · exact .inl (.inr ⟨o, k _ _ (fun q => by rw [q, e] at h; cases h) h⟩)
  · exact .inr h
theorem HoAt.kp {K : PySem.W.Frag} {CH CC : Addr} {p hp dx : Addr} {H H' : Hp} {fs : List (Str × V)} {h : Hd} (x : HoAt K CH H hp h) (k : Kp p H H') (e : H p = some (.ins CC dx fs)) (n : hp ≠ p) : HoAt K CH H' hp h := by
  obtain ⟨⟨d, aT, aC, aR, xs, e1, e2, e3, e4, e5⟩⟩ := x
  exact ⟨⟨d, aT, aC, aR, xs, k _ _ n e1, kp_sqt k e e2, kp_sqt k e e3, kp_sqt k e e4, e5.mono fun t ys h => kp_tup2 k e _ _ h⟩⟩
theorem HoAt.mono {K : PySem.W.Frag} {CH : Addr} {hp : Addr} {H H' : Hp} {h : Hd} (x : HoAt K CH H hp h) (s : Same H H') : HoAt K CH H' hp h := by
  obtain ⟨⟨d, aT, aC, aR, xs, e1, e2, e3, e4, e5⟩⟩ := x
  exact ⟨⟨d, aT, aC, aR, xs, s _ _ e1, sSqT s e2, sSqT s e3, sSqT s e4, e5.mono fun t ys h => s _ _ h⟩⟩
theorem any_mem (p : Int) (l : List Int) : inV (V.int p) (l.map V.int) = decide (p ∈ l) := any_eqI l p
end Dk

set_option Elab.async false
set_option linter.all false
set_option maxRecDepth 100000
set_option maxHeartbeats 1000000
namespace Dk
open PySem PySem.Spec PyProof.Rows L2 TL
def rInDT (K : PySem.W.Frag) : R2 := fun x y H Q => ∃ d ds, Dp K H x d ∧ Dp K H y (.tuple ds) ∧ SeqAt.shaped d = true ∧ SeqAt.shaped (.list ds) = true ∧ Q (.bl (ds.any fun z => PyData.eqv z d)) H
theorem op_inDT {X : Cx} (hu : X.A.units + 65 < cLine) : OpR X (compareOp .In) (rInDT X.K) := by
  intro pins s σ H x y v u Q I rx ry h
  obtain ⟨d, ds, hd, he, sd, se, q⟩ := h
  obtain ⟨as, r1⟩ := Dp.reads I d x v hd rx
  obtain ⟨bs, r2⟩ := Dp.reads I (.tuple ds) y u he ry
  exact SeqAt.in_tuple_reads r2 r1 (SeqAt.canLay_of_shaped se) (SeqAt.canLay_of_shaped sd) (room_in_shaped sd hu) ⟨.bl _, H, I, rfl, q⟩
structure TxtCo (K : PySem.W.Frag) (mg : Str → Option Value) (CC CH fHL : Addr) (fdHL : FuncData) : Prop where
  cl : Cls K CC
  nHo : NoAttr K CC "house"
  nSp : NoAttr K CC "span"
  nTk : NoAttr K CC "tick"
  nHm : NoAttr K CC "home"
  nWt : NoAttr K CC "waiters"
  nCr : NoAttr K CC "carriers"
  nUn : NoAttr K CC "unlocked"
  clH : Cls K CH
  nT : NoAttr K CH "tables"
  nK : NoAttr K CH "key_count"
  nC : NoAttr K CH "careful"
  nR : NoAttr K CH "reminders"
  any : mg "any" = none
  sorted : mg "sorted" = none
  enumerate : mg "enumerate" = none
  list : mg "list" = none
  tuple : mg "tuple" = none
def spHome : Sp := fun vs H Q _ => ∃ (x : Str) (t : Int), vs = [.str x, .int t] ∧ IsTab x ∧ ∀ H', Same H H' → Q (.bl (homeL x t)) H'
theorem homeL_eq {x : Str} {t : Int} {c : Nat} (h : x.cps[(t % (x.length : Int)).toNat]? = some c) : decide (V.str (⟨#[c]⟩ : Str) = V.str (Str.ofString "h")) = homeL x t := by
  have e1 : (tl x)[(t % ((tl x).length : Int)).toNat]? = some c := by rw [← len_tl, ← h]; exact Array.getElem?_toList
  have e2 : tl (Str.ofString "h") = [104] := by decide +kernel
  unfold homeL
  rw [e1]
  by_cases q : c = 104
  · subst q
    rw [decide_eq_true (congrArg V.str (ext_tl (by rw [e2])))]
    simp
  · rw [decide_eq_false fun e => q ?_, decide_eq_false fun e => q (Option.some.inj e)]
    have h1 : tl (⟨#[c]⟩ : Str) = tl (Str.ofString "h") := congrArg tl (V.str.inj e)
    rw [e2] at h1
    exact (List.cons.inj h1).1
section
variable {P : Program} {w : World} {K : PySem.W.Frag} {mg : Str → Option Value} {base : Heap} {CC CH fHL : Addr} {fdHL : FuncData}
/-- [f(p) for p in l], l a list of numbers -/
theorem comp_ints {l : Addr} {ns : List Int} {H1 : Hp} {D : Addr} {g : Int → V} {σ : L2.St} {i : Nat} {vs : List Nat} {te : TE} {Qd : Hp → Prop} (hD : H1 D = none) (hl : SqL K H1 l (ns.map V.int)) (hz : ns.length ≤ 1000)
    (hte : ∀ (p : Int) (H2 : Hp) (Q : VK), p ∈ ns → Same H1 H2 → (∀ H3, Same H2 H3 → Q (g p) H3) → te ((wipe σ vs).set i (some (.int p))) H2 Q) (hw : ∀ x : V, wipe ((wipe σ vs).set i (some x)) vs = wipe σ vs)
    (hd : ∀ H2, Same H1 H2 → H2 D = some (.lst (ns.map g)) → Qd H2) :
    ∃ W : Nat → Nat → Hp → Prop, (∃ m, W 0 m (upd H1 D (.lst []))) ∧ ∀ i' m H, W i' m H →
      ((Itl K l).stop i' H ∧ Qd H) ∨ ((Itl K l).go i' H ∧ ∃ Nx : Hp → Prop, (∀ H', Nx H' → ∃ m', m' < m ∧ W (i' + 1) m' H') ∧ ∀ x H', (Itl K l).yld i' H x H' → gName i x (wipe σ vs) H' fun σ2 H2 => wipe σ2 vs = wipe σ vs ∧ tYes σ2 H2 fun b H3 =>
        if b = true then te σ2 H3 fun y H4 => ∃ acc, H4 D = some (.lst acc) ∧ acc.length < sizeLine ∧ Nx (upd H4 D (.lst (acc ++ [y]))) else Nx H3) := by
  refine lc_list (K := K) (a := l) (xs := ns.map V.int) (g := gName i) (tt := tYes) (te := te) (vs := vs) (σ := σ) (Qd := Qd)
    (fun i H3 => Same H1 H3 ∧ H3 D = some (.lst ((ns.take i).map g)))
    ⟨same_upd hD, upd_same⟩ (fun i H3 _ ⟨e, _⟩ => e.seq hl) ?_ ?_
  · rintro j y H3 hi ⟨s3, eD⟩
    obtain ⟨t, ht, rfl⟩ := map_at hi
    have hj : j < ns.length := (List.getElem?_eq_some_iff.mp ht).1
    refine ⟨hw _, hte t H3 _ (List.mem_of_getElem? ht) s3 fun H4 s4 => ⟨_, s4 _ _ eD, ?_, fun b o eb => ?_, ?_⟩⟩
    · rw [List.length_map, List.length_take]
      exact Nat.lt_of_le_of_lt (Nat.le_trans (Nat.min_le_left _ _) (by omega : j ≤ 1000)) (by decide)
    · rw [upd_ne (ne_of_none eb hD)]; exact s4 _ _ (s3 _ _ eb)
    · rw [upd_same, take_more ht, List.map_append]; rfl
  · rintro H3 ⟨s3, eD⟩
    rw [List.length_map, List.take_length] at eD
    exact hd H3 s3 eD
/-- [p for p in l if ..], l a list of numbers -/
theorem comp_filt {l : Addr} {ns : List Int} {H1 : Hp} {D : Addr} {g : Int → Bool} {σ : L2.St} {i : Nat} {vs : List Nat} {tt : TT} {Qd : Hp → Prop} (hD : H1 D = none) (hl : SqL K H1 l (ns.map V.int)) (hz : ns.length ≤ 1000)
    (htt : ∀ (p : Int) (H2 : Hp) (Qb : Bool → Hp → Prop), p ∈ ns → Same H1 H2 → (∀ H3, Same H2 H3 → Qb (g p) H3) → tt ((wipe σ vs).set i (some (.int p))) H2 Qb)
    (hv : ∀ x : V, ((wipe σ vs).set i (some x))[i]? = some (some x)) (hw : ∀ x : V, wipe ((wipe σ vs).set i (some x)) vs = wipe σ vs)
    (hd : ∀ H2, Same H1 H2 → H2 D = some (.lst ((ns.filter g).map V.int)) → Qd H2) :
    ∃ W : Nat → Nat → Hp → Prop, (∃ m, W 0 m (upd H1 D (.lst []))) ∧ ∀ i' m H, W i' m H →
      ((Itl K l).stop i' H ∧ Qd H) ∨ ((Itl K l).go i' H ∧ ∃ Nx : Hp → Prop, (∀ H', Nx H' → ∃ m', m' < m ∧ W (i' + 1) m' H') ∧ ∀ x H', (Itl K l).yld i' H x H' → gName i x (wipe σ vs) H' fun σ2 H2 => wipe σ2 vs = wipe σ vs ∧ tt σ2 H2 fun b H3 =>
        if b = true then tVar i σ2 H3 fun y H4 => ∃ acc, H4 D = some (.lst acc) ∧ acc.length < sizeLine ∧ Nx (upd H4 D (.lst (acc ++ [y]))) else Nx H3) := by
  refine lc_list (K := K) (a := l) (xs := ns.map V.int) (g := gName i) (tt := tt) (te := tVar i) (vs := vs) (σ := σ) (Qd := Qd)
    (fun i H3 => Same H1 H3 ∧ H3 D = some (.lst (((ns.take i).filter g).map V.int)))
    ⟨same_upd hD, upd_same⟩ (fun i H3 _ ⟨e, _⟩ => e.seq hl) ?_ ?_
  · rintro j y H3 hi ⟨s3, eD⟩
    obtain ⟨t, ht, rfl⟩ := map_at hi
    have hj : j < ns.length := (List.getElem?_eq_some_iff.mp ht).1
    refine ⟨hw _, htt t H3 _ (List.mem_of_getElem? ht) s3 fun H4 s4 => ?_⟩
    cases q : g t with
    | false =>
      refine iteF ⟨s3.trans s4, ?_⟩
      rw [take_more ht, List.filter_append, filt0 q, List.append_nil]; exact s4 _ _ eD
    | true =>
      refine iteT ⟨_, hv _, _, s4 _ _ eD, ?_, fun b o eb => ?_, ?_⟩
      · rw [List.length_map]
        have := List.length_filter_le g (ns.take j)
        rw [List.length_take] at this
        exact Nat.lt_of_le_of_lt (by omega : _ ≤ 1000) (by decide)
      · rw [upd_ne (ne_of_none eb hD)]; exact s4 _ _ (s3 _ _ eb)
      · rw [upd_same, take_more ht, List.filter_append, filt1 q, List.map_append]; rfl
  · rintro H3 ⟨s3, eD⟩
    rw [List.length_map, List.take_length] at eD
    exact hd H3 s3 eD
/-! ### _can_enter -/
def spCanE (CC : Addr) : Sp := fun vs H Q _ => ∃ (p hp l : Addr) (sp t : Int) (c : Cs) (cm : List Int), vs = [.ref p, .ref l] ∧ CoAt CC H p hp sp t c ∧ H l = some (.lst (cm.map V.int)) ∧ cm.length ≤ 1000 ∧ ∀ H', Same H H' → Q (.bl (canEnter c cm)) H'
theorem any_map (ns : List Int) (g : Int → Bool) : (ns.map g).any id = ns.any g := by rw [List.any_map]; rfl
theorem empty_map (ns : List Int) : (ns.map V.int).isEmpty = ns.isEmpty := by cases ns <;> rfl
end
end Dk

set_option Elab.async false
set_option linter.all false
set_option maxRecDepth 100000
set_option maxHeartbeats 1000000
namespace Dk
open PySem PySem.Spec PyProof.Rows L2 TL
theorem putF_carr (vh vs vt vm vw vc vu x : V) : putF "carriers" x (cFields vh vs vt vm vw vc vu) = cFields vh vs vt vm vw x vu := by rfl
theorem putF_home (vh vs vt vm vw vc vu x : V) : putF "home" x (cFields vh vs vt vm vw vc vu) = cFields vh vs vt x vw vc vu := by rfl
theorem putF_wait (vh vs vt vm vw vc vu x : V) : putF "waiters" x (cFields vh vs vt vm vw vc vu) = cFields vh vs vt vm x vc vu := by rfl
theorem putF_opn (vh vs vt vm vw vc vu x : V) : putF "unlocked" x (cFields vh vs vt vm vw vc vu) = cFields vh vs vt vm vw vc x := by rfl
theorem putF_tick (vh vs vt vm vw vc vu x : V) : putF "tick" x (cFields vh vs vt vm vw vc vu) = cFields vh vs x vm vw vc vu := by rfl
def spTake (K : PySem.W.Frag) (CC CH : Addr) : Sp := fun vs H Q _ => ∃ (p hp : Addr) (sp t : Int) (c : Cs) (h : Hd) (q : Int), vs = [.ref p, .int q] ∧ CoAt CC H p hp sp t c ∧ HoAt K CH H hp h ∧ hp ≠ p ∧ c.carr.length ≤ 1000 ∧
  ∀ H', Kp p H H' → CoAt CC H' p hp sp t (takeKey h.ks c q).1 → (∀ a, HomeAt H p a → HomeAt H' p a) → Q (.bl (takeKey h.ks c q).2) H'
def spThink (K : PySem.W.Frag) (CC CH : Addr) : Sp := fun vs H Q _ => ∃ (p hp : Addr) (t : Int) (c : Cs) (h : Hd) (q : Int), vs = [.ref p, .int q] ∧ CoAt CC H p hp ((per h.ts : Nat) : Int) t c ∧ HoAt K CH H hp h ∧ 1 ≤ per h.ts ∧ ∀ H', Same H H' → Q (.bl (thinks h t q)) H'
def spClose (K : PySem.W.Frag) (CC CH : Addr) : Sp := fun vs H Q _ => ∃ (p hp : Addr) (sp t : Int) (c : Cs) (h : Hd) (q : Int), vs = [.ref p, .int q] ∧ CoAt CC H p hp sp t c ∧ HoAt K CH H hp h ∧ hp ≠ p ∧ c.carr.length ≤ 1000 ∧
  ∀ (H' : Hp) (e : Addr), Kp p H H' → CoAt CC H' p hp sp t (closeC h.ks c q).1 → (∀ a, HomeAt H p a → HomeAt H' p a) → H' e = some (.tup [.int t, .str (closeC h.ks c q).2.1, (closeC h.ks c q).2.2]) → Q (.ref e) H'
structure TxtTk (K : PySem.W.Frag) (CC fTk : Addr) (fdTk : FuncData) : Prop where
  m : Meth K CC "_take_key" fTk
section
variable {P : Program} {w : World} {K : PySem.W.Frag} {mg : Str → Option Value} {base : Heap} {CC CH fHL : Addr} {fdHL : FuncData} {fTk : Addr} {fdTk : FuncData}
end
end Dk

set_option Elab.async false
set_option linter.all false
set_option maxRecDepth 100000
set_option maxHeartbeats 2000000
namespace Dk
open PySem PySem.Spec PyProof.Rows L2 TL
section
variable {X : Cx} {K : PySem.W.Frag}
theorem pe_fldK {e : Expr} {f : Str} {pos : Pos} {ta : TE} (h : X.K = K) (he : PE X e ta) (hb : attributeBase e f X.env (eval e X.env) = eval e X.env) : PE X (.Attribute e f pos) (tFld K ta f) := by
  subst h; exact pe_fld he hb
theorem op_in_seqK (h : X.K = K) : OpR X (compareOp .In) (rIn K false) := by subst h; exact op_in_seq
theorem op_notIn_seqK (h : X.K = K) : OpR X (compareOp .NotIn) (rIn K true) := by subst h; exact op_notIn_seq
end
/-- [(t, word, ..) for p in l] -/
theorem comp_evs {K : PySem.W.Frag} {l : Addr} {ns : List Int} {H1 : Hp} {D : Addr} {t : Int} {g : Int → Ev} {σ : L2.St} {i : Nat} {vs : List Nat} {te : TE} {Qd : Hp → Prop} (hD : H1 D = none) (hl : SqL K H1 l (ns.map V.int)) (hz : ns.length ≤ 1000)
    (hte : ∀ (p : Int) (H2 : Hp) (Q : VK), p ∈ ns → Same H1 H2 → (∀ H3 a, Same H2 H3 → H3 a = some (.tup [.int t, .str (g p).1, (g p).2]) → Q (.ref a) H3) → te ((wipe σ vs).set i (some (.int p))) H2 Q) (hw : ∀ x : V, wipe ((wipe σ vs).set i (some x)) vs = wipe σ vs)
    (hd : ∀ H2, Same H1 H2 → EvAt H2 D t (ns.map g) → Qd H2) :
    ∃ W : Nat → Nat → Hp → Prop, (∃ m, W 0 m (upd H1 D (.lst []))) ∧ ∀ i' m H, W i' m H →
      ((Itl K l).stop i' H ∧ Qd H) ∨ ((Itl K l).go i' H ∧ ∃ Nx : Hp → Prop, (∀ H', Nx H' → ∃ m', m' < m ∧ W (i' + 1) m' H') ∧ ∀ x H', (Itl K l).yld i' H x H' → gName i x (wipe σ vs) H' fun σ2 H2 => wipe σ2 vs = wipe σ vs ∧ tYes σ2 H2 fun b H3 =>
        if b = true then te σ2 H3 fun y H4 => ∃ acc, H4 D = some (.lst acc) ∧ acc.length < sizeLine ∧ Nx (upd H4 D (.lst (acc ++ [y]))) else Nx H3) := by
  refine lc_list (K := K) (a := l) (xs := ns.map V.int) (g := gName i) (tt := tYes) (te := te) (vs := vs) (σ := σ) (Qd := Qd)
    (fun i H3 => Same H1 H3 ∧ ∃ xs, H3 D = some (.lst xs) ∧ Evs H3 t xs ((ns.take i).map g))
    ⟨same_upd hD, [], upd_same, .nil⟩ (fun i H3 _ ⟨e, _⟩ => e.seq hl) ?_ ?_
  · rintro j y H3 hi ⟨s3, xs, eD, hE⟩
    obtain ⟨q, ht, rfl⟩ := map_at hi
    have hj : j < ns.length := (List.getElem?_eq_some_iff.mp ht).1
    refine ⟨hw _, hte q H3 _ (List.mem_of_getElem? ht) s3 fun H4 a s4 ea => ⟨_, s4 _ _ eD, ?_, fun b o eb => ?_, xs ++ [.ref a], upd_same, ?_⟩⟩
    · rw [hE.len, List.length_map, List.length_take]
      exact Nat.lt_of_le_of_lt (Nat.le_trans (Nat.min_le_left _ _) (by omega : j ≤ 1000)) (by decide)
    · rw [upd_ne (ne_of_none eb hD)]; exact s4 _ _ (s3 _ _ eb)
    · have tK : ∀ t' ys, H4 t' = some (.tup ys) → (upd H4 D (.lst (xs ++ [V.ref a]))) t' = some (.tup ys) := fun t' ys h => by
        rw [upd_ne (fun e => by rw [e, s4 _ _ eD] at h; cases h)]; exact h
      rw [take_more ht, List.map_append]
      exact (hE.mono fun t' ys h => tK _ _ (s4 _ _ h)).app (.cons ⟨a, rfl, tK _ _ ea⟩ .nil)
  · rintro H3 ⟨s3, xs, eD, hE⟩
    rw [List.length_map, List.take_length] at hE
    exact hd H3 s3 ⟨xs, eD, hE⟩
theorem wants_at {ws : List Bool} {i : Nat} {b : Bool} (h : ws[i]? = some b) : wants ws (i : Int) = b := by
  unfold wants
  rw [Int.toNat_natCast, List.getD_eq_getElem?_getD, h]; rfl
def spArrive (CC : Addr) : Sp := fun vs H Q _ => ∃ (p hp l : Addr) (sp t : Int) (c : Cs) (ws : List Bool), vs = [.ref p, .ref l] ∧ CoAt CC H p hp sp t c ∧ H l = some (.lst (ws.map V.bl)) ∧ ws.length ≤ 100 ∧ c.home.length ≤ 100 ∧ c.carr.length ≤ 100 ∧
  ∀ (H' : Hp) (e : Addr), Kp p H H' → CoAt CC H' p hp sp t (arrive ws c).1 → EvAt H' e t (arrive ws c).2 → Q (.ref e) H'
structure TxtCE (K : PySem.W.Frag) (CC fCE : Addr) (fdCE : FuncData) : Prop where
  m : Meth K CC "_can_enter" fCE
abbrev nArr : List Str := ["self", "wishes", "comers", "person", "wish"]
section
variable {P : Program} {w : World} {K : PySem.W.Frag} {mg : Str → Option Value} {base : Heap} {CC CH fHL : Addr} {fdHL : FuncData} {fCE : Addr} {fdCE : FuncData}
end
end Dk

set_option Elab.async false
set_option linter.all false
set_option maxRecDepth 100000
set_option maxHeartbeats 2000000
namespace Dk
open PySem PySem.Spec PyProof.Rows L2 TL
theorem ix_listK {X : Cx} {K : PySem.W.Frag} (h : X.K = K) : IxR X (rIxL K) := by
  subst h; exact ix_list
/-- the course at p, its lists apart from ev -/
structure CoAp (CC : Addr) (H : Hp) (p hp : Addr) (sp t : Int) (c : Cs) (ev : Addr) : Prop where
  ex : ∃ dx aH aW aC, H p = some (.ins CC dx (cFields (.ref hp) (.int sp) (.int t) (.ref aH) (.ref aW) (.ref aC) (.bl c.opn))) ∧ H aH = some (.lst (c.home.map V.int)) ∧ H aW = some (.lst (c.wait.map V.int)) ∧ H aC = some (.lst (c.carr.map V.int)) ∧ aH ≠ ev ∧ aW ≠ ev ∧ aC ≠ ev
theorem CoAp.at {CC : Addr} {H : Hp} {p hp : Addr} {sp t : Int} {c : Cs} {ev : Addr} (h : CoAp CC H p hp sp t c ev) : CoAt CC H p hp sp t c := by
  obtain ⟨dx, aH, aW, aC, e1, e2, e3, e4, _⟩ := h
  exact ⟨dx, aH, aW, aC, e1, e2, e3, e4⟩
theorem lst_apart {H : Hp} {a ev x : Addr} {ns : List Int} {xs : List V} (h : H a = some (.lst (ns.map V.int))) (he : H ev = some (.lst (.ref x :: xs))) : a ≠ ev := fun e => by
  rw [e, he] at h
  cases ns with
  | nil => cases h
  | cons n ns => cases h
theorem CoAt.ap {CC : Addr} {H : Hp} {p hp : Addr} {sp t : Int} {c : Cs} {ev x : Addr} {xs : List V} (h : CoAt CC H p hp sp t c) (he : H ev = some (.lst (.ref x :: xs))) : CoAp CC H p hp sp t c ev := by
  obtain ⟨dx, aH, aW, aC, e1, e2, e3, e4⟩ := h
  exact ⟨dx, aH, aW, aC, e1, e2, e3, e4, lst_apart e2 he, lst_apart e3 he, lst_apart e4 he⟩
theorem CoAp.kp {CC : Addr} {H H' : Hp} {p hp : Addr} {sp t : Int} {c : Cs} {ev : Addr} {xs : List V} (h : CoAp CC H p hp sp t c ev) (k : Kp ev H H') (he : H ev = some (.lst xs)) : CoAp CC H' p hp sp t c ev := by
  obtain ⟨dx, aH, aW, aC, e1, e2, e3, e4, n1, n2, n3⟩ := h
  exact ⟨dx, aH, aW, aC, k _ _ (fun z => by rw [z, he] at e1; cases e1) e1, k _ _ n1 e2, k _ _ n2 e3, k _ _ n3 e4, n1, n2, n3⟩
theorem CoAp.mono {CC : Addr} {H H' : Hp} {p hp : Addr} {sp t : Int} {c : Cs} {ev : Addr} (h : CoAp CC H p hp sp t c ev) (k : Same H H') : CoAp CC H' p hp sp t c ev := by
  obtain ⟨dx, aH, aW, aC, e1, e2, e3, e4, n1, n2, n3⟩ := h
  exact ⟨dx, aH, aW, aC, k _ _ e1, k _ _ e2, k _ _ e3, k _ _ e4, n1, n2, n3⟩
theorem HoAt.kpl {K : PySem.W.Frag} {CH : Addr} {ev hp : Addr} {H H' : Hp} {xs : List V} {h : Hd} (x : HoAt K CH H hp h) (k : Kp ev H H') (e : H ev = some (.lst xs)) : HoAt K CH H' hp h := by
  obtain ⟨⟨d, aT, aC, aR, ys, e1, e2, e3, e4, e5⟩⟩ := x
  exact ⟨⟨d, aT, aC, aR, ys, k _ _ (fun z => by rw [z, e] at e1; cases e1) e1, k.sqT e e2, k.sqT e e3, k.sqT e e4, e5.mono fun t ys h => k _ _ (fun z => by rw [z, e] at h; cases h) h⟩⟩
def Kp2 (p ev : Addr) (H H' : Hp) : Prop := ∀ b o, b ≠ p → b ≠ ev → H b = some o → H' b = some o
theorem Kp2.trans {p ev : Addr} {H H1 H2 : Hp} (a : Kp2 p ev H H1) (b : Kp2 p ev H1 H2) : Kp2 p ev H H2 := fun x o n1 n2 e => b x o n1 n2 (a x o n1 n2 e)
theorem Kp2.same {p ev : Addr} {H H' : Hp} (s : Same H H') : Kp2 p ev H H' := fun x o _ _ e => s x o e
theorem Kp2.p {p ev : Addr} {H H' : Hp} (k : Kp p H H') : Kp2 p ev H H' := fun x o n _ e => k x o n e
theorem Kp2.e {p ev : Addr} {H H' : Hp} (k : Kp ev H H') : Kp2 p ev H H' := fun x o _ n e => k x o n e
theorem Evs.snoc {H : Hp} {t : Int} {xs : List V} {evs : List Ev} {a : Addr} {e : Ev} (h : Evs H t xs evs) (ha : H a = some (.tup [.int t, .str e.1, e.2])) : Evs H t (xs ++ [.ref a]) (evs ++ [e]) := h.app (.cons ⟨a, rfl, ha⟩ .nil)
theorem at_last {l : List Int} {q : Int} (h : l.getLast? = some q) : atI (l.map V.int) (-1) = some (.int q) := by
  have hn : l ≠ [] := fun e => by rw [e] at h; cases h
  have hl : 0 < l.length := List.length_pos_iff.mpr hn
  have e1 : ixN (l.map V.int).length (-1) = some (l.length - 1) := by
    unfold ixN
    rw [List.length_map, if_neg (by decide), if_pos (by omega)]
    congr 1
    omega
  unfold atI
  rw [e1]
  show (l.map V.int)[l.length - 1]? = _
  rw [List.getElem?_map, ← List.getLast?_eq_getElem?, h]; rfl
def lvAcc (h : Hd) (t : Int) (ws : List Bool) (c : Cs) (i : Nat) : Cs × Bool × List Ev := ((leaversOf ws c).take i).foldl (leaveStep h t) (stay ws c, false, [])
theorem lvAcc_succ {h : Hd} {t : Int} {ws : List Bool} {c : Cs} {i : Nat} {q : Int} (e : (leaversOf ws c)[i]? = some q) : lvAcc h t ws c (i + 1) = leaveStep h t (lvAcc h t ws c i) q := by
  unfold lvAcc
  rw [take_more e, List.foldl_append]; rfl
theorem take_len (ks : Int) (c : Cs) (q : Int) : (takeKey ks c q).1.carr.length ≤ c.carr.length + 1 := by
  unfold takeKey
  split
  · exact Nat.le_succ _
  · show (srt (c.carr ++ [q])).length ≤ _
    rw [srt_len, List.length_append]; exact Nat.le_refl _
theorem step_len (h : Hd) (t : Int) (a : Cs × Bool × List Ev) (q : Int) : (leaveStep h t a q).1.carr.length ≤ a.1.carr.length + 1 ∧ (leaveStep h t a q).2.2.length ≤ a.2.2.length + 2 := by
  have := take_len h.ks a.1 q
  unfold leaveStep
  split
  · split
    · refine ⟨this, ?_⟩; show (a.2.2 ++ [_] ++ [_]).length ≤ _; rw [List.length_append, List.length_append]; exact Nat.le_refl _
    · refine ⟨this, ?_⟩; show (a.2.2 ++ [_]).length ≤ _; rw [List.length_append]; exact Nat.le_succ _
  · refine ⟨Nat.le_succ _, ?_⟩; show (a.2.2 ++ [_]).length ≤ _; rw [List.length_append]; exact Nat.le_succ _
end Dk

set_option Elab.async false
set_option linter.all false
set_option maxRecDepth 100000
set_option maxHeartbeats 4000000
namespace Dk
open PySem PySem.Spec PyProof.Rows L2 TL
structure TxtDp (K : PySem.W.Frag) (CC fTh fTk fCl : Addr) (fdTh fdTk fdCl : FuncData) : Prop where
  mTh : Meth K CC "_thinks_of_key" fTh
  tk : TxtTk K CC fTk fdTk
  mCl : Meth K CC "_close" fCl
def spDepart (K : PySem.W.Frag) (CC CH : Addr) : Sp := fun vs H Q _ => ∃ (p hp l : Addr) (t : Int) (c : Cs) (h : Hd) (ws : List Bool), vs = [.ref p, .ref l] ∧ CoAt CC H p hp ((per h.ts : Nat) : Int) t c ∧ HoAt K CH H hp h ∧ hp ≠ p ∧ 1 ≤ per h.ts ∧ H l = some (.lst (ws.map V.bl)) ∧
  (∀ q ∈ c.home, 0 ≤ q ∧ q < (ws.length : Int)) ∧ c.home.length ≤ 100 ∧ c.carr.length ≤ 100 ∧
  ∀ (H' : Hp) (e : Addr), Kp p H H' → CoAt CC H' p hp ((per h.ts : Nat) : Int) t (depart h t ws c).1 → EvAt H' e t (depart h t ws c).2 → (depart h t ws c).2.length ≤ 201 → (∃ a, HomeAt H' p a ∧ H a = none) → Q (.ref e) H'
abbrev nDep : List Str := ["self", "wishes", "leavers", "events", "taken", "person"]
theorem Evs.head {H : Hp} {t : Int} {xs : List V} {evs : List Ev} (h : Evs H t xs evs) (n : 1 ≤ xs.length) : ∃ y ys, xs = V.ref y :: ys := by
  cases h with
  | nil => simp at n
  | cons r _ =>
    obtain ⟨a, e, _⟩ := r
    exact ⟨a, _, by rw [e]⟩
section
variable {P : Program} {w : World} {K : PySem.W.Frag} {mg : Str → Option Value} {base : Heap} {CC CH fHL : Addr} {fdHL : FuncData} {fTh fTk fCl : Addr} {fdTh fdTk fdCl : FuncData}
theorem wants_ix {ws : List Bool} {q : Int} (h0 : 0 ≤ q) (h1 : q < (ws.length : Int)) : atI (ws.map V.bl) q = some (.bl (wants ws q)) := by
  obtain ⟨n, rfl⟩ := Int.eq_ofNat_of_zero_le h0
  have hn : n < ws.length := by omega
  have e : ws[n]? = some ws[n] := List.getElem?_eq_getElem hn
  rw [wants_at e]
  exact atI_nat (by rw [List.getElem?_map, e]; rfl)
end
end Dk

set_option Elab.async false
set_option linter.all false
set_option maxRecDepth 100000
set_option maxHeartbeats 2000000
namespace Dk
open PySem PySem.Spec PyProof.Rows L2 TL
/-- all of l are persons of a house of n -/
def InN (n : Nat) (l : List Int) : Prop := ∀ q ∈ l, 0 ≤ q ∧ q < (n : Int)
theorem wishes_len (ts : List Str) (t : Int) : (wishes ts t).length = ts.length := by unfold wishes; rw [List.length_map]
theorem comers_in (ws : List Bool) (home : List Int) : InN ws.length (comersOf ws home) := fun q hq => rg_mem.mp (List.mem_filter.mp hq).1
theorem comers_len (ws : List Bool) (home : List Int) : (comersOf ws home).length ≤ ws.length := by
  have := List.length_filter_le (fun p => wants ws p && !decide (p ∈ home)) (rg ws.length)
  rw [rg_len] at this; exact this
theorem arrive_in {n : Nat} {ws : List Bool} {c : Cs} (hn : ws.length = n) (h : InN n c.home) : InN n (arrive ws c).1.home ∧ (arrive ws c).1.home.length ≤ c.home.length + ws.length ∧ (arrive ws c).1.carr.length ≤ c.carr.length := by
  have hc := comers_in ws c.home
  have hl := comers_len ws c.home
  unfold arrive
  dsimp only
  generalize comersOf ws c.home = cm at hc hl
  split
  · exact ⟨h, Nat.le_add_right _ _, Nat.le_refl _⟩
  · split
    · refine ⟨fun q hq => ?_, ?_, List.length_filter_le _ _⟩
      · rcases List.mem_append.mp ((srt_perm _).mem_iff.mp hq) with hq | hq
        · exact h q hq
        · rw [← hn]; exact hc q hq
      · rw [srt_len, List.length_append]; omega
    · exact ⟨h, Nat.le_add_right _ _, Nat.le_refl _⟩
def spPer (K : PySem.W.Frag) (CH : Addr) : Sp := fun vs H Q _ => ∃ (p : Addr) (h : Hd), vs = [.ref p] ∧ HoAt K CH H p h ∧ Tabs h.ts ∧ ∀ H', Same H H' → Q (.int ((per h.ts : Nat) : Int)) H'
def spPersons (K : PySem.W.Frag) (CH : Addr) : Sp := fun vs H Q _ => ∃ (p : Addr) (h : Hd), vs = [.ref p] ∧ HoAt K CH H p h ∧ ∀ H', Same H H' → Q (.int ((h.ts.length : Nat) : Int)) H'
structure TxtHp (K : PySem.W.Frag) (mg : Str → Option Value) (CH fCP pPe gPe pPs gPs : Addr) (fdCP fdPe fdPs : FuncData) : Prop where
  gCP : mg "common_period" = some (.ref fCP)
  FCP : Fun K "common_period" "common_period" sPeriod fCP fdCP
  bCP : Binds K fdCP ["tables"] []
  poPe : PropOf K CH "period" pPe gPe
  FPe : Fun K "period" "House.period" sPeriodP gPe fdPe
  bPe : Binds K fdPe ["self"] []
  poPs : PropOf K CH "persons" pPs gPs
  FPs : Fun K "persons" "House.persons" sPersonsP gPs fdPs
  bPs : Binds K fdPs ["self"] []
def spCInit (K : PySem.W.Frag) (CC CH : Addr) : Sp := fun vs H Q _ => ∃ (p dx hp : Addr) (h : Hd), vs = [.ref p, .ref hp] ∧ H p = some (.ins CC dx []) ∧ HoAt K CH H hp h ∧ hp ≠ p ∧ Tabs h.ts ∧ h.ts.length ≤ 6 ∧
  ∀ H', Kp p H H' → CoAt CC H' p hp ((per h.ts : Nat) : Int) (-1) ⟨rg h.ts.length, [], [], false⟩ → (∃ a, HomeAt H' p a ∧ H a = none) → Q .non H'
/-- a scene -/
abbrev Sc := Int × List Int × List Int × Bool
def scOf (n : Int) (t : Int) (c : Cs) : Sc := (t % n, c.wait, c.carr, c.opn)
def ScAt (H : Hp) (a : Addr) (x : Sc) : Prop := ∃ b d, H a = some (.tup [.int x.1, .ref b, .ref d, .bl x.2.2.2]) ∧ H b = some (.tup (x.2.1.map V.int)) ∧ H d = some (.tup (x.2.2.1.map V.int))
theorem ScAt.mono {H H' : Hp} {a : Addr} {x : Sc} (h : ScAt H a x) (s : ∀ t ys, H t = some (.tup ys) → H' t = some (.tup ys)) : ScAt H' a x := by
  obtain ⟨b, d, e1, e2, e3⟩ := h
  exact ⟨b, d, s _ _ e1, s _ _ e2, s _ _ e3⟩
def spScene (CC : Addr) : Sp := fun vs H Q _ => ∃ (p hp : Addr) (sp t : Int) (c : Cs), vs = [.ref p] ∧ CoAt CC H p hp sp t c ∧ 0 < sp ∧ ∀ H' a, Same H H' → ScAt H' a (scOf sp t c) → Q (.ref a) H'
def spAdv (K : PySem.W.Frag) (CC CH : Addr) : Sp := fun vs H Q _ => ∃ (p hp : Addr) (t : Int) (c : Cs) (h : Hd), vs = [.ref p] ∧ CoAt CC H p hp ((per h.ts : Nat) : Int) t c ∧ HoAt K CH H hp h ∧ hp ≠ p ∧ Tabs h.ts ∧ h.ts.length ≤ 6 ∧ InN h.ts.length c.home ∧ c.home.length ≤ 50 ∧ c.carr.length ≤ 50 ∧
  ∀ (H' : Hp) (e : Addr), Kp p H H' → CoAt CC H' p hp ((per h.ts : Nat) : Int) (t + 1) (adv h (t + 1) c).1 → EvAt H' e (t + 1) (adv h (t + 1) c).2 → (∃ a, HomeAt H' p a ∧ H a = none) → Q (.ref e) H'
structure TxtAd (K : PySem.W.Frag) (CC fAr fDp fCE fTh fTk fCl : Addr) (fdAr fdDp fdCE fdTh fdTk fdCl : FuncData) : Prop where
  mAr : Meth K CC "_arrive" fAr
  mDp : Meth K CC "_depart" fDp
  ce : TxtCE K CC fCE fdCE
  dp : TxtDp K CC fTh fTk fCl fdTh fdTk fdCl
section
variable {P : Program} {w : World} {K : PySem.W.Frag} {mg : Str → Option Value} {base : Heap} {CC CH fHL : Addr} {fdHL : FuncData} {fAr fDp fCE fTh fTk fCl : Addr} {fdAr fdDp fdCE fdTh fdTk fdCl : FuncData} {fCP pPe gPe pPs gPs : Addr} {fdCP fdPe fdPs : FuncData}
theorem ok_per (HP : TxtHp K mg CH fCP pPe gPe pPs gPs fdCP fdPe fdPs) (C' : TxtCo K mg CC CH fHL fdHL) (T : TxtA mg) (TC : TxtC mg) : FnOk P w K mg base CX0 2 gPe fdPe ["self"] (spPer K CH) := by
  have GP : FnOk P w K mg base CX0 1 fCP fdCP ["tables"] (spPeriod K) := ok_period HP.FCP T TC
  refine HP.FPe.ok (N := ["self"]) ⟨rfl, rfl, rfl, by decide +kernel, rfl, by decide +kernel, by decide +kernel⟩ (fun vs H Q E h => ?_) (fun cdv A outer s H vs Q E hr h => ?_)
  · obtain ⟨p, h, rfl, _⟩ := h
    rfl
  · obtain ⟨p, h, rfl, ⟨⟨d, bT, bC, bR, xs, g1, g2, g3, g4, g5⟩⟩, hT, k⟩ := h
    refine ⟨_, pss_one (ps_ret (pe_call GP hr rfl HP.gCP HP.FCP.kp HP.bCP .nil pass0 (pa_cons (pe_fld (pv 0) rfl) pa_nil))), ?_⟩
    exact ⟨_, rfl, p, CH, d, _, _, rfl, g1, C'.clH, C'.nT, hf_tables _ _ _ _, bT, h.ts, rfl, g2, hT, k H (Same.refl H)⟩
theorem ok_persons (HP : TxtHp K mg CH fCP pPe gPe pPs gPs fdCP fdPe fdPs) (C' : TxtCo K mg CC CH fHL fdHL) (T : TxtA mg) : FnOk P w K mg base CX0 1 gPs fdPs ["self"] (spPersons K CH) := by
  refine HP.FPs.ok (N := ["self"]) ⟨rfl, rfl, rfl, by decide +kernel, rfl, by decide +kernel, by decide +kernel⟩ (fun vs H Q E h => ?_) (fun cdv A outer s H vs Q E hr h => ?_)
  · obtain ⟨p, h, rfl, _⟩ := h
    rfl
  · obtain ⟨p, h, rfl, ⟨⟨d, bT, bC, bR, xs, g1, g2, g3, g4, g5⟩⟩, k⟩ := h
    refine ⟨_, pss_one (ps_ret (pe_callB call_len_seq (by rfl) T.len PySem.boot_len (pa_cons (pe_fld (pv 0) rfl) pa_nil))), ?_⟩
    refine ⟨_, rfl, p, CH, d, _, _, rfl, g1, C'.clH, C'.nT, hf_tables _ _ _ _, bT, _, rfl, .inr g2, ?_⟩
    rw [List.length_map]
    exact k H (Same.refl H)
theorem rgV_rg (n : Nat) : rgV 0 (n : Int) = (rg n).map V.int := by
  unfold rgV rg
  rw [List.map_map, Int.sub_zero, Int.toNat_natCast]
  exact List.map_congr_left fun k _ => by show V.int (0 + (k : Int)) = V.int (k : Int); rw [Int.zero_add]
abbrev nAdv : List Str := ["self", "wishes", "table", "arrivals"]
end
end Dk

set_option Elab.async false
set_option linter.all false
set_option maxRecDepth 100000
set_option maxHeartbeats 1000000
namespace Dk
open PySem PySem.Spec PyProof.Rows L2 TL
/-! ### what holds after every tick -/
abbrev Up (l : List Int) : Prop := l.Pairwise (· < ·)
theorem up_nodup {l : List Int} (h : Up l) : l.Nodup := List.Pairwise.imp (fun h => Int.ne_of_lt h) h
theorem up_of {l : List Int} (h : l.Pairwise (· ≤ ·)) (n : l.Nodup) : Up l := by
  induction l with
  | nil => exact .nil
  | cons a l ih =>
    obtain ⟨h1, h2⟩ := List.pairwise_cons.mp h
    obtain ⟨n1, n2⟩ := List.nodup_cons.mp n
    refine List.pairwise_cons.mpr ⟨fun x hx => ?_, ih h2 n2⟩
    have := h1 x hx
    have hne : a ≠ x := fun e => n1 (by rw [e]; exact hx)
    show a < x
    omega
theorem srt_up {l : List Int} (n : l.Nodup) : Up (srt l) := up_of (srt_sorted l) ((srt_perm l).nodup_iff.mpr n)
theorem srt_mem {l : List Int} {q : Int} : q ∈ srt l ↔ q ∈ l := (srt_perm l).mem_iff
theorem srt_self {l : List Int} (h : Up l) : srt l = l := (srt_uniq (List.Perm.refl _) (List.Pairwise.imp Int.le_of_lt h)).symm
theorem rg_up : ∀ n : Nat, Up (rg n)
  | 0 => .nil
  | n + 1 => by
    rw [rg_succ]
    refine List.pairwise_append.mpr ⟨rg_up n, List.pairwise_singleton _ _, fun x hx y hy => ?_⟩
    rw [List.mem_singleton.mp hy]
    exact (rg_mem.mp hx).2
theorem up_len {n : Nat} {l : List Int} (h : Up l) (i : InN n l) : l.length ≤ n := by
  have key : ∀ j, (hj : j < l.length) → (j : Int) ≤ l[j] := by
    intro j
    induction j with
    | zero => intro hj; exact (i _ (List.getElem_mem hj)).1
    | succ j ih =>
      intro hj
      have h1 := ih (by omega)
      have h2 : l[j] < l[j + 1] := List.pairwise_iff_getElem.mp h j (j + 1) (by omega) hj (by omega)
      omega
  cases hl : l.length with
  | zero => exact Nat.zero_le _
  | succ m =>
    have hm : m < l.length := by omega
    have h1 := key m hm
    have h2 := (i _ (List.getElem_mem hm)).2
    omega
theorem InN.mono {n : Nat} {l m : List Int} (h : InN n l) (s : ∀ q ∈ m, q ∈ l) : InN n m := fun q hq => h q (s q hq)
structure Gd (n : Nat) (c : Cs) : Prop where
  hu : Up c.home
  hi : InN n c.home
  cu : Up c.carr
  ci : InN n c.carr
  wu : Up c.wait
  wi : InN n c.wait
  dj : ∀ q ∈ c.home, q ∉ c.carr
  op : c.opn = true → c.home = []
theorem nodup_app {l m : List Int} (h1 : l.Nodup) (h2 : m.Nodup) (d : ∀ q ∈ m, q ∉ l) : (l ++ m).Nodup :=
  List.nodup_append.mpr ⟨h1, h2, fun a ha b hb e => d b hb (by rw [← e]; exact ha)⟩
theorem gd_arrive {n : Nat} {ws : List Bool} {c : Cs} (hn : ws.length = n) (h : Gd n c) : Gd n (arrive ws c).1 := by
  have hc := comers_in ws c.home
  have hcu : Up (comersOf ws c.home) := List.Pairwise.filter _ (rg_up _)
  have hcd : ∀ q ∈ comersOf ws c.home, q ∉ c.home := fun q hq => by
    have := (List.mem_filter.mp hq).2
    simp at this
    exact this.2
  unfold arrive
  dsimp only
  generalize comersOf ws c.home = cm at hc hcu hcd
  rw [hn] at hc
  split
  · exact ⟨h.hu, h.hi, h.cu, h.ci, .nil, fun q hq => (by cases hq), h.dj, h.op⟩
  · split
    · refine ⟨srt_up (nodup_app (up_nodup h.hu) (up_nodup hcu) hcd), fun q hq => ?_, List.Pairwise.filter _ h.cu, h.ci.mono fun q hq => (List.mem_filter.mp hq).1, .nil, fun q hq => (by cases hq), fun q hq hq2 => ?_, fun e => (by cases e)⟩
      · rcases List.mem_append.mp (srt_mem.mp hq) with hq | hq
        · exact h.hi q hq
        · exact hc q hq
      · obtain ⟨c1, c2⟩ := List.mem_filter.mp hq2
        rcases List.mem_append.mp (srt_mem.mp hq) with hq | hq
        · exact h.dj q hq c1
        · simp at c2; exact c2 hq
    · exact ⟨h.hu, h.hi, h.cu, h.ci, hcu, hc, h.dj, h.op⟩
/-- while the leavers leave -/
structure Lv (n : Nat) (c0 : Cs) (a : Cs × Bool × List Ev) (rest : List Int) : Prop where
  cu : Up a.1.carr
  ci : InN n a.1.carr
  hm : a.1.home = c0.home
  wt : a.1.wait = c0.wait
  op : a.1.opn = c0.opn
  dr : ∀ q ∈ rest, q ∉ a.1.carr
  dh : ∀ q ∈ c0.home, q ∉ a.1.carr
  nt : a.2.1 = false → a.1.carr = c0.carr
theorem take_carr {ks : Int} {c : Cs} {p : Int} : (takeKey ks c p).2 = true → (takeKey ks c p).1 = { c with carr := srt (c.carr ++ [p]) } := by
  unfold takeKey
  split
  · intro h; cases h
  · intro _; rfl
theorem take_no {ks : Int} {c : Cs} {p : Int} : (takeKey ks c p).2 = false → (takeKey ks c p).1 = c := by
  unfold takeKey
  split
  · intro _; rfl
  · intro h; cases h
theorem lv_step {n : Nat} {hd : Hd} {t : Int} {c0 : Cs} {a : Cs × Bool × List Ev} {q : Int} {rest : List Int} (h : Lv n c0 a (q :: rest)) (hq : 0 ≤ q ∧ q < (n : Int)) (hnd : q ∉ rest) (hh : q ∉ c0.home) : Lv n c0 (leaveStep hd t a q) rest := by
  have same : ∀ b e, (b = false → a.2.1 = false) → Lv n c0 (a.1, b, e) rest := fun b e hb => ⟨h.cu, h.ci, h.hm, h.wt, h.op, fun x hx => h.dr x (List.mem_cons_of_mem _ hx), h.dh, fun z => h.nt (hb z)⟩
  unfold leaveStep
  split
  · split
    · rename_i h2
      rw [take_carr h2]
      have hqc : q ∉ a.1.carr := h.dr q (List.mem_cons_self ..)
      have mem : ∀ x, x ∈ srt (a.1.carr ++ [q]) → x ∈ a.1.carr ∨ x = q := fun x hx => by
        rcases List.mem_append.mp (srt_mem.mp hx) with hx | hx
        · exact .inl hx
        · exact .inr (List.mem_singleton.mp hx)
      refine ⟨srt_up (nodup_app (up_nodup h.cu) (by simp) fun x hx => by rw [List.mem_singleton.mp hx]; exact hqc), fun x hx => ?_, h.hm, h.wt, h.op, fun x hx hx2 => ?_, fun x hx hx2 => ?_, fun z => (by cases z)⟩
      · rcases mem x hx with hx | rfl
        · exact h.ci x hx
        · exact hq
      · rcases mem x hx2 with hx2 | rfl
        · exact h.dr x (List.mem_cons_of_mem _ hx) hx2
        · exact hnd hx
      · rcases mem x hx2 with hx2 | rfl
        · exact h.dh x hx hx2
        · exact hh hx
    · rename_i h2
      rw [take_no (by simpa using h2)]
      exact same _ _ fun z => z
  · exact same _ _ fun z => z
theorem lv_all {n : Nat} {hd : Hd} {t : Int} {c0 : Cs} : ∀ (lv : List Int) (a : Cs × Bool × List Ev), Lv n c0 a lv → InN n lv → lv.Nodup → (∀ q ∈ lv, q ∉ c0.home) → Lv n c0 (lv.foldl (leaveStep hd t) a) []
  | [], a, h, _, _, _ => h
  | q :: r, a, h, hi, hn, hh => by
    obtain ⟨n1, n2⟩ := List.nodup_cons.mp hn
    exact lv_all r _ (lv_step h (hi q (List.mem_cons_self ..)) n1 (hh q (List.mem_cons_self ..))) (fun x hx => hi x (List.mem_cons_of_mem _ hx)) n2 fun x hx => hh x (List.mem_cons_of_mem _ hx)
theorem gd_depart {n : Nat} {hd : Hd} {t : Int} {ws : List Bool} {c : Cs} (h : Gd n c) : Gd n (depart hd t ws c).1 := by
  have hst : ∀ q ∈ (stay ws c).home, q ∈ c.home := fun q hq => (List.mem_filter.mp hq).1
  have hlv : ∀ q ∈ leaversOf ws c, q ∈ c.home := fun q hq => (List.mem_filter.mp hq).1
  have hap : ∀ q ∈ leaversOf ws c, q ∉ (stay ws c).home := fun q hq hq2 => by
    have h1 := (List.mem_filter.mp hq).2
    have h2 := (List.mem_filter.mp hq2).2
    rw [h2] at h1; cases h1
  have L0 : Lv n (stay ws c) (stay ws c, false, []) (leaversOf ws c) := ⟨h.cu, h.ci, rfl, rfl, rfl, fun q hq => h.dj q (hlv q hq), fun q hq => h.dj q (hst q hq), fun _ => rfl⟩
  have L := lv_all (hd := hd) (t := t) _ _ L0 (h.hi.mono hlv) (up_nodup (List.Pairwise.filter _ h.hu)) hap
  have eL : (leaversOf ws c).foldl (leaveStep hd t) (stay ws c, false, []) = leaveAll hd t ws c := rfl
  rw [eL] at L
  have hsu : Up (stay ws c).home := List.Pairwise.filter _ h.hu
  have base : Gd n (leaveAll hd t ws c).1 := by
    refine ⟨by rw [L.hm]; exact hsu, by rw [L.hm]; exact h.hi.mono hst, L.cu, L.ci, by rw [L.wt]; exact h.wu, by rw [L.wt]; exact h.wi, by rw [L.hm]; exact L.dh, fun e => ?_⟩
    rw [L.op] at e
    rw [L.hm]
    show c.home.filter _ = []
    rw [h.op e]; rfl
  unfold depart
  split
  · rename_i q hq
    have hqm : q ∈ leaversOf ws c := List.mem_of_getLast? hq
    split
    · rename_i hcond
      rw [Bool.and_eq_true] at hcond
      have he : (stay ws c).home = [] := List.isEmpty_iff.mp hcond.1
      have hnt : (leaveAll hd t ws c).2.1 = false := by simpa using hcond.2
      have hcc := L.nt hnt
      show Gd n (closeC hd.ks (leaveAll hd t ws c).1 q).1
      generalize leaveAll hd t ws c = acc at L base hnt hcc
      have hqc : q ∉ acc.1.carr := by rw [hcc]; exact h.dj q (hlv q hqm)
      have hh : acc.1.home = [] := by rw [L.hm, he]
      unfold closeC
      split
      · rename_i h2
        rw [take_carr h2]
        refine ⟨base.hu, base.hi, srt_up (nodup_app (up_nodup base.cu) (by simp) fun x hx => by rw [List.mem_singleton.mp hx]; exact hqc), fun x hx => ?_, base.wu, base.wi, fun x hx => ?_, base.op⟩
        · rcases List.mem_append.mp (srt_mem.mp hx) with hx | hx
          · exact base.ci x hx
          · rw [List.mem_singleton.mp hx]; exact h.hi q (hlv q hqm)
        · have : x ∈ acc.1.home := hx
          rw [hh] at this; cases this
      · exact ⟨base.hu, base.hi, base.cu, base.ci, base.wu, base.wi, base.dj, fun _ => hh⟩
    · exact base
  · exact base
theorem gd_adv {h : Hd} {t : Int} {c : Cs} (g : Gd h.ts.length c) : Gd h.ts.length (adv h t c).1 := gd_depart (gd_arrive (wishes_len h.ts t) g)
def st0 (h : Hd) : Cs := ⟨rg h.ts.length, [], [], false⟩
/-- after so many ticks -/
def stt (h : Hd) : Nat → Cs
  | 0 => st0 h
  | n + 1 => (adv h (n : Int) (stt h n)).1
theorem gd_stt (h : Hd) : ∀ n, Gd h.ts.length (stt h n)
  | 0 => ⟨rg_up _, fun q hq => rg_mem.mp hq, .nil, fun q hq => (by cases hq), .nil, fun q hq => (by cases hq), fun q _ hq => (by cases hq), fun e => (by cases e)⟩
  | n + 1 => gd_adv (gd_stt h n)
end Dk

set_option Elab.async false
set_option linter.all false
set_option maxRecDepth 100000
set_option maxHeartbeats 1000000
namespace Dk
open PySem PySem.Spec PyProof.Rows L2 TL
/-! ### finitely many scenes -/
theorem nodup_le {α : Type} [DecidableEq α] : ∀ {l m : List α}, l.Nodup → (∀ x ∈ l, x ∈ m) → l.length ≤ m.length
  | [], m, _, _ => Nat.zero_le _
  | a :: l, m, h, s => by
    obtain ⟨h1, h2⟩ := List.nodup_cons.mp h
    have ha : a ∈ m := s a (List.mem_cons_self ..)
    have := nodup_le (l := l) (m := m.erase a) h2 fun x hx => (List.mem_erase_of_ne fun e => h1 (by rw [← e]; exact hx)).mpr (s x (List.mem_cons_of_mem _ hx))
    rw [List.length_erase_of_mem ha] at this
    have h0 : 0 < m.length := List.length_pos_of_mem ha
    rw [List.length_cons]; omega
def subs : List Int → List (List Int)
  | [] => [[]]
  | a :: r => subs r ++ (subs r).map (a :: ·)
theorem subs_len : ∀ l : List Int, (subs l).length = 2 ^ l.length
  | [] => rfl
  | a :: r => by rw [subs, List.length_append, List.length_map, subs_len r, List.length_cons, Nat.pow_succ]; omega
theorem filt_subs (p : Int → Bool) : ∀ l : List Int, l.filter p ∈ subs l
  | [] => by simp [subs]
  | a :: r => by
    rw [subs, List.mem_append, List.filter_cons]
    split
    · exact .inr (List.mem_map.mpr ⟨_, filt_subs p r, rfl⟩)
    · exact .inl (filt_subs p r)
theorem up_ext {l m : List Int} (h1 : Up l) (h2 : Up m) (e : ∀ q, q ∈ l ↔ q ∈ m) : l = m :=
  List.Perm.eq_of_pairwise (le := fun a b : Int => a ≤ b) (fun a b _ _ h1 h2 => Int.le_antisymm h1 h2) (List.Pairwise.imp Int.le_of_lt h1) (List.Pairwise.imp Int.le_of_lt h2) ((List.perm_ext_iff_of_nodup (up_nodup h1) (up_nodup h2)).mpr e)
theorem up_filt {n : Nat} {l : List Int} (h : Up l) (i : InN n l) : l = (rg n).filter fun q => decide (q ∈ l) :=
  up_ext h (List.Pairwise.filter _ (rg_up n)) fun q => by
    rw [List.mem_filter]
    constructor
    · intro hq; exact ⟨rg_mem.mpr (i q hq), decide_eq_true hq⟩
    · rintro ⟨_, hq⟩; exact of_decide_eq_true hq
theorem up_subs {n : Nat} {l : List Int} (h : Up l) (i : InN n l) (h6 : n ≤ 6) : l ∈ subs (rg 6) := by
  have i6 : InN 6 l := fun q hq => by have := i q hq; omega
  rw [up_filt h i6]
  exact filt_subs _ _
theorem fm_len {α β : Type} (f : α → List β) (k : Nat) : ∀ (l : List α), (∀ x, (f x).length = k) → (l.flatMap f).length = l.length * k
  | [], _ => by simp
  | a :: l, h => by rw [List.flatMap_cons, List.length_append, h a, fm_len f k l h, List.length_cons, Nat.succ_mul]; omega
def allSc : List Sc := (rg 24).flatMap fun m => (subs (rg 6)).flatMap fun a => (subs (rg 6)).flatMap fun b => [(m, a, b, false), (m, a, b, true)]
theorem allSc_len : allSc.length = 196608 := by
  have s6 : (subs (rg 6)).length = 64 := by rw [subs_len, rg_len]
  unfold allSc
  rw [fm_len _ 8192, rg_len]
  intro m
  rw [fm_len _ 128, s6]
  intro a
  rw [fm_len _ 2, s6]
  intro b; rfl
def scn (h : Hd) (i : Nat) : Sc := scOf ((per h.ts : Nat) : Int) (i : Int) (stt h (i + 1))
theorem scn_all {h : Hd} (hT : Tabs h.ts) (h6 : h.ts.length ≤ 6) (i : Nat) : scn h i ∈ allSc := by
  have g := gd_stt h (i + 1)
  have hp := per_pos hT
  have hl := per_le hT
  unfold scn scOf allSc
  refine List.mem_flatMap.mpr ⟨(i : Int) % ((per h.ts : Nat) : Int), rg_mem.mpr ⟨Int.emod_nonneg _ (by omega), ?_⟩, List.mem_flatMap.mpr ⟨_, up_subs g.wu g.wi h6, List.mem_flatMap.mpr ⟨_, up_subs g.cu g.ci h6, ?_⟩⟩⟩
  · have := Int.emod_lt_of_pos (i : Int) (show (0 : Int) < ((per h.ts : Nat) : Int) by omega)
    omega
  · cases (stt h (i + 1)).opn <;> simp
/-- the scenes of the first n ticks are different, that of tick n is one of them -/
structure IsRep (h : Hd) (n : Nat) : Prop where
  nd : ((List.range n).map (scn h)).Nodup
  re : scn h n ∈ (List.range n).map (scn h)
theorem nd_le {h : Hd} (hT : Tabs h.ts) (h6 : h.ts.length ≤ 6) {n : Nat} (nd : ((List.range n).map (scn h)).Nodup) : n ≤ 196608 := by
  have := nodup_le nd (m := allSc) fun x hx => by
    obtain ⟨i, _, rfl⟩ := List.mem_map.mp hx
    exact scn_all hT h6 i
  rw [List.length_map, List.length_range, allSc_len] at this
  exact this
theorem nd_succ {h : Hd} {n : Nat} (nd : ((List.range n).map (scn h)).Nodup) (hn : scn h n ∉ (List.range n).map (scn h)) : ((List.range (n + 1)).map (scn h)).Nodup := by
  rw [List.range_succ, List.map_append]
  exact List.nodup_append.mpr ⟨nd, by simp, fun a ha b hb e => hn (by rw [List.mem_singleton.mp (show b ∈ [scn h n] from hb)] at e; rw [← e]; exact ha)⟩
/-! ### a scene decides what happens later -/
theorem homeL_per {ts : List Str} {x : Str} (hT : Tabs ts) (hx : x ∈ ts) {i j : Int} (e : i % ((per ts : Nat) : Int) = j % ((per ts : Nat) : Int)) : homeL x i = homeL x j := by
  obtain ⟨k, hk⟩ := dvd_per hx
  have : i % ((tl x).length : Int) = j % ((tl x).length : Int) := by
    have hk' : ((per ts : Nat) : Int) = ((tl x).length : Int) * (k : Int) := by rw [hk]; exact Int.natCast_mul _ _
    have e1 : i % ((tl x).length : Int) = (i % ((per ts : Nat) : Int)) % ((tl x).length : Int) := (Int.emod_emod_of_dvd i ⟨(k : Int), hk'⟩).symm
    have e2 : j % ((tl x).length : Int) = (j % ((per ts : Nat) : Int)) % ((tl x).length : Int) := (Int.emod_emod_of_dvd j ⟨(k : Int), hk'⟩).symm
    rw [e1, e2, e]
  unfold homeL
  rw [this]
theorem wishes_per {ts : List Str} (hT : Tabs ts) {i j : Int} (e : i % ((per ts : Nat) : Int) = j % ((per ts : Nat) : Int)) : wishes ts i = wishes ts j :=
  List.map_congr_left fun x hx => homeL_per hT hx e
theorem thinks_per {h : Hd} {i j : Int} (e : i % ((per h.ts : Nat) : Int) = j % ((per h.ts : Nat) : Int)) (p : Int) : thinks h i p = thinks h j p := by
  unfold thinks; rw [e]
theorem adv_per {h : Hd} (hT : Tabs h.ts) {i j : Int} (e : i % ((per h.ts : Nat) : Int) = j % ((per h.ts : Nat) : Int)) (c : Cs) : (adv h i c).1 = (adv h j c).1 := by
  have ew := wishes_per hT e
  have es : leaveStep h i = leaveStep h j := by
    funext a p
    unfold leaveStep
    rw [thinks_per e]
  unfold adv depart leaveAll
  rw [ew, es]
theorem home_is {h : Hd} (n : Nat) : (stt h (n + 1)).home = (rg h.ts.length).filter fun q => wants (wishes h.ts (n : Int)) q && !decide (q ∈ (stt h (n + 1)).wait) := by
  have g := gd_stt h n
  have g1 := gd_stt h (n + 1)
  have hw := wishes_len h.ts (n : Int)
  have eh : (stt h (n + 1)).home = (arrive (wishes h.ts (n : Int)) (stt h n)).1.home.filter fun q => wants (wishes h.ts (n : Int)) q := by
    show (depart h _ _ _).1.home = _
    have key : ∀ (lv : List Int) (a : Cs × Bool × List Ev), (lv.foldl (leaveStep h (n : Int)) a).1.home = a.1.home ∧ (lv.foldl (leaveStep h (n : Int)) a).1.wait = a.1.wait := by
      intro lv
      induction lv with
      | nil => intro a; exact ⟨rfl, rfl⟩
      | cons q r ih =>
        intro a
        have := ih (leaveStep h (n : Int) a q)
        have st : (leaveStep h (n : Int) a q).1.home = a.1.home ∧ (leaveStep h (n : Int) a q).1.wait = a.1.wait := by
          have tk : (takeKey h.ks a.1 q).1.home = a.1.home ∧ (takeKey h.ks a.1 q).1.wait = a.1.wait := by unfold takeKey; split <;> exact ⟨rfl, rfl⟩
          unfold leaveStep
          split
          · split <;> exact tk
          · exact ⟨rfl, rfl⟩
        exact ⟨this.1.trans st.1, this.2.trans st.2⟩
    have hc : ∀ c q, (closeC h.ks c q).1.home = c.home := fun c q => by
      have tk : (takeKey h.ks c q).1.home = c.home := by unfold takeKey; split <;> rfl
      unfold closeC; split
      · exact tk
      · rfl
    unfold depart
    split
    · split
      · exact (hc _ _).trans (key _ _).1
      · exact (key _ _).1
    · exact (key _ _).1
  have ewt : (stt h (n + 1)).wait = (arrive (wishes h.ts (n : Int)) (stt h n)).1.wait := by
    show (depart h _ _ _).1.wait = _
    have key : ∀ (lv : List Int) (a : Cs × Bool × List Ev), (lv.foldl (leaveStep h (n : Int)) a).1.wait = a.1.wait := by
      intro lv
      induction lv with
      | nil => intro a; rfl
      | cons q r ih =>
        intro a
        refine (ih (leaveStep h (n : Int) a q)).trans ?_
        have tk : (takeKey h.ks a.1 q).1.wait = a.1.wait := by unfold takeKey; split <;> rfl
        unfold leaveStep
        split
        · split <;> exact tk
        · rfl
    have hc : ∀ c q, (closeC h.ks c q).1.wait = c.wait := fun c q => by
      have tk : (takeKey h.ks c q).1.wait = c.wait := by unfold takeKey; split <;> rfl
      unfold closeC; split
      · exact tk
      · rfl
    unfold depart
    split
    · split
      · exact (hc _ _).trans (key _ _)
      · exact key _ _
    · exact key _ _
  refine up_ext g1.hu (List.Pairwise.filter _ (rg_up _)) fun q => ?_
  rw [List.mem_filter, ewt, eh, List.mem_filter]
  have hcm : ∀ q, q ∈ comersOf (wishes h.ts (n : Int)) (stt h n).home ↔ (q ∈ rg h.ts.length ∧ wants (wishes h.ts (n : Int)) q = true ∧ q ∉ (stt h n).home) := fun q => by
    unfold comersOf
    rw [List.mem_filter, hw]
    simp
  have hhi : ∀ q ∈ (stt h n).home, q ∈ rg h.ts.length := fun q hq => rg_mem.mpr (g.hi q hq)
  unfold arrive
  dsimp only
  generalize wishes h.ts (n : Int) = ws at hcm
  generalize comersOf ws (stt h n).home = cm at hcm
  split
  · rename_i he
    have he : cm = [] := List.isEmpty_iff.mp he
    subst he
    simp only [Bool.and_eq_true, List.not_mem_nil, decide_false, Bool.not_false, and_true]
    constructor
    · rintro ⟨h1, h2⟩; exact ⟨hhi q h1, h2⟩
    · rintro ⟨h1, h2⟩
      refine ⟨?_, h2⟩
      by_cases hq : q ∈ (stt h n).home
      · exact hq
      · have := (hcm q).mpr ⟨h1, h2, hq⟩; cases this
  · split
    · simp only [Bool.and_eq_true, List.not_mem_nil, decide_false, Bool.not_false, and_true]
      constructor
      · rintro ⟨h1, h2⟩
        rcases List.mem_append.mp (srt_mem.mp h1) with h1 | h1
        · exact ⟨hhi q h1, h2⟩
        · exact ⟨((hcm q).mp h1).1, h2⟩
      · rintro ⟨h1, h2⟩
        refine ⟨srt_mem.mpr ?_, h2⟩
        by_cases hq : q ∈ (stt h n).home
        · exact List.mem_append_left _ hq
        · exact List.mem_append_right _ ((hcm q).mpr ⟨h1, h2, hq⟩)
    · rename_i hce
      have hne : (stt h n).home = [] := by
        unfold canEnter at hce
        split at hce
        · exact absurd rfl hce
        · rename_i hx
          simp at hx
          exact hx.1
      rw [hne] at hcm ⊢
      simp only [List.not_mem_nil, false_and, false_iff, Bool.and_eq_true, not_and]
      intro h1 h2 h3
      have := (hcm q).mpr ⟨h1, h2, by simp⟩
      simp [this] at h3
theorem same_next {h : Hd} (hT : Tabs h.ts) {i j : Nat} (e : scn h i = scn h j) : stt h (i + 1) = stt h (j + 1) := by
  unfold scn scOf at e
  obtain ⟨e1, e2⟩ := Prod.mk.inj e
  obtain ⟨e2, e3⟩ := Prod.mk.inj e2
  obtain ⟨e3, e4⟩ := Prod.mk.inj e3
  have hh : (stt h (i + 1)).home = (stt h (j + 1)).home := by rw [home_is, home_is, wishes_per hT e1, e2]
  generalize stt h (i + 1) = a at *
  generalize stt h (j + 1) = b at *
  cases a
  cases b
  simp only at e2 e3 e4 hh
  rw [e2, e3, e4, hh]
theorem emod_add_same {i j k m : Int} (e : i % m = j % m) : (i + k) % m = (j + k) % m := by
  rw [Int.add_emod, e, ← Int.add_emod]
theorem same_later {h : Hd} (hT : Tabs h.ts) {i j : Nat} (e : scn h i = scn h j) : ∀ k, stt h (i + 1 + k) = stt h (j + 1 + k)
  | 0 => same_next hT e
  | k + 1 => by
    have ih := same_later hT e k
    have e1 : ((i : Int)) % ((per h.ts : Nat) : Int) = ((j : Int)) % ((per h.ts : Nat) : Int) := (Prod.mk.inj e).1
    show (adv h ((i + 1 + k : Nat) : Int) (stt h (i + 1 + k))).1 = (adv h ((j + 1 + k : Nat) : Int) (stt h (j + 1 + k))).1
    rw [ih]
    refine adv_per hT ?_ _
    have c1 : ((i + 1 + k : Nat) : Int) = (i : Int) + ((1 + k : Nat) : Int) := by omega
    have c2 : ((j + 1 + k : Nat) : Int) = (j : Int) + ((1 + k : Nat) : Int) := by omega
    rw [c1, c2]
    exact emod_add_same e1
/-- rounds of the cycle -/
theorem same_rounds {h : Hd} (hT : Tabs h.ts) {b n : Nat} (e : scn h b = scn h n) (hb : b < n) (x : Nat) : ∀ r, stt h (b + 1 + x) = stt h (b + 1 + (x + r * (n - b)))
  | 0 => by rw [Nat.zero_mul]; rfl
  | r + 1 => by
    have ih := same_rounds hT e hb x r
    have := same_later hT e (x + r * (n - b))
    rw [ih, this]
    congr 1
    rw [Nat.succ_mul]; omega
theorem stt_near {h : Hd} (hT : Tabs h.ts) {b n : Nat} (e : scn h b = scn h n) (hb : b < n) {tick : Nat} (ht : b < tick) : stt h (b + (tick - b) % (n - b) + 1) = stt h (tick + 1) := by
  have := same_rounds hT e hb ((tick - b) % (n - b)) ((tick - b) / (n - b))
  have hd := Nat.mod_add_div (tick - b) (n - b)
  rw [Nat.mul_comm] at hd
  rw [hd] at this
  have e1 : b + (tick - b) % (n - b) + 1 = b + 1 + (tick - b) % (n - b) := by omega
  have e2 : tick + 1 = b + 1 + (tick - b) := by omega
  rw [e1, e2, this]
end Dk

set_option Elab.async false
set_option linter.all false
set_option maxRecDepth 100000
set_option maxHeartbeats 2000000
namespace Dk
open PySem PySem.Spec PyProof.Rows L2 TL
open Dn (NXs DnO KAt0 KAt)
section
variable {X : Cx} {P : Program} {w : World} {o i : Expr} {pos pos' p2 : Pos} {td ty : TE} {j : Nat}
theorem pe_newP (hP : X.prog = P) (hw : X.w = w) : PE X (.Dict [] [] pos) (Dn.tNew P w) := by subst hP hw; exact Dn.pe_new
theorem pc_notInP (hP : X.prog = P) (hw : X.w = w) (hu : X.A.units + 16 < cLine) (hi : PE X i ty) (ho : PE X o td) : PC X .NotIn i o (Dn.tNotIn P w ty td) := by subst hP hw; exact Dn.pc_notIn hu hi ho
theorem ps_putP (hP : X.prog = P) (hw : X.w = w) (hu : X.A.units + 16 < cLine) (ho : PE X o td) (hi : PE X i ty) (hs : swapsWith (.Constant (.bool true) j p2) (some (.Subscript o i pos')) pos.line X.env = pure false := by rfl) :
    PS X (.Assign [.Subscript o i pos'] (.Constant (.bool true) j p2) pos) (Dn.sPut P w td ty) := by subst hP hw; exact Dn.ps_put hu ho hi hs
end
def scK (x : Sc) : NestedKey := .tup [.num x.1, .tup (x.2.1.map .num), .tup (x.2.2.1.map .num), .num (if x.2.2.2 = true then 1 else 0)]
theorem nums_inj : ∀ {l m : List Int}, l.map NestedKey.num = m.map NestedKey.num → l = m
  | [], [], _ => rfl
  | [], _ :: _, h => by cases h
  | _ :: _, [], h => by cases h
  | a :: l, b :: m, h => by
    rw [List.map_cons, List.map_cons] at h
    injection h with h1 h2
    injection h1 with h1
    rw [h1, nums_inj h2]
theorem scK_inj {x y : Sc} (h : scK x = scK y) : x = y := by
  obtain ⟨x1, x2, x3, x4⟩ := x
  obtain ⟨y1, y2, y3, y4⟩ := y
  unfold scK at h
  injection h with h
  injection h with h1 h
  injection h with h2 h
  injection h with h3 h
  injection h with h4 _
  injection h1 with h1
  injection h2 with h2
  injection h3 with h3
  injection h4 with h4
  have e2 := nums_inj h2
  have e3 := nums_inj h3
  have e4 : x4 = y4 := by
    cases x4 <;> cases y4
    · rfl
    · simp at h4
    · simp at h4
    · rfl
  have e1 : x1 = y1 := h1
  have e2' : x2 = y2 := e2
  have e3' : x3 = y3 := e3
  rw [e1, e2', e3', e4]
theorem scAt_key {H : Hp} {a : Addr} {x : Sc} (h : ScAt H a x) : KAt H (scK x) a := by
  obtain ⟨b, d, e1, e2, e3⟩ := h
  exact ⟨_, _, rfl, e1, .cons (.int _) (.cons (.tup e2) (.cons (.tup e3) (.cons (.bl _) .nil)))⟩
theorem atKey_some (xs : NXs) (k : NestedKey) : (atKey xs k).isSome = decide (k ∈ xs.map (·.1)) := by
  induction xs with
  | nil => rfl
  | cons x xs ih =>
    unfold atKey at ih ⊢
    rw [List.find?_cons, List.map_cons]
    by_cases h : x.1 = k
    · rw [decide_eq_true h]
      simp [h]
    · rw [decide_eq_false h]
      dsimp only
      rw [ih]
      simp [Ne.symm h]
theorem key_in {h : Hd} {n : Nat} : scK (scn h n) ∈ (List.range n).map (fun i => scK (scn h i)) ↔ scn h n ∈ (List.range n).map (scn h) := by
  constructor
  · intro hm
    obtain ⟨i, hi, e⟩ := List.mem_map.mp hm
    exact List.mem_map.mpr ⟨i, hi, scK_inj e⟩
  · intro hm
    obtain ⟨i, hi, e⟩ := List.mem_map.mp hm
    exact List.mem_map.mpr ⟨i, hi, by rw [e]⟩
/-- scenes in the heap, one for each tick -/
def Scs (H : Hp) (h : Hd) (ys : List V) (is : List Nat) : Prop := Paired (fun v i => ∃ a, v = .ref a ∧ ScAt H a (scn h i)) ys is
theorem Scs.mono {H H' : Hp} {h : Hd} : ∀ {ys : List V} {is : List Nat}, Scs H h ys is → (∀ t zs, H t = some (.tup zs) → H' t = some (.tup zs)) → Scs H' h ys is
  | [], [], .nil, _ => .nil
  | _ :: _, _ :: _, .cons ⟨a, e, q⟩ r, s => .cons ⟨a, e, q.mono s⟩ (Scs.mono r s)
theorem Scs.snoc {H : Hp} {h : Hd} : ∀ {ys : List V} {is : List Nat} {a : Addr} {i : Nat}, Scs H h ys is → ScAt H a (scn h i) → Scs H h (ys ++ [.ref a]) (is ++ [i])
  | [], [], a, i, .nil, q => .cons ⟨a, rfl, q⟩ .nil
  | _ :: _, _ :: _, a, i, .cons r t, q => .cons r (Scs.snoc t q)
theorem Scs.len {H : Hp} {h : Hd} {ys : List V} {is : List Nat} (q : Scs H h ys is) : ys.length = is.length := Paired.length q
def spScenes (K : PySem.W.Frag) (CH : Addr) : SpG := fun vs H Q _ => ∃ (hp : Addr) (h : Hd), vs = [.ref hp] ∧ HoAt K CH H hp h ∧ Tabs h.ts ∧ h.ts.length ≤ 6 ∧
  ∀ (H' : Hp) (ys : List V) (n : Nat), Same H H' → IsRep h n → n ≤ 196608 → Scs H' h ys (List.range (n + 1)) → Q ys H'
structure TxtSc (P : Program) (w : World) (K : PySem.W.Frag) (mg : Str → Option Value) (base : Heap) (CC CH fCi fAd fSn : Addr) (fdCi fdAd fdSn : FuncData) : Prop where
  M : Mk K CC fCi
  GI : FnOk P w K mg base CX0 4 fCi fdCi ["self", "house"] (spCInit K CC CH)
  bI : Binds K fdCi ["self", "house"] []
  mAd : Meth K CC "advance" fAd
  GA : FnOk P w K mg base CX0 4 fAd fdAd ["self"] (spAdv K CC CH)
  bAd : Binds K fdAd ["self"] []
  mSn : Meth K CC "scene" fSn
  GS : FnOk P w K mg base CX0 1 fSn fdSn ["self"] (spScene CC)
  bSn : Binds K fdSn ["self"] []
  cl : Cls K CC
abbrev nScs : List Str := ["house", "course", "seen"]
theorem dn_tup {P : Program} {w : World} {H : Hp} {d : Addr} {xs : NXs} {o : HO} (e : H d = some (DnO P w d xs)) : ∀ t zs, H t = some (.tup zs) → (upd H d o) t = some (.tup zs) := fun t zs h => by
  rw [upd_ne (fun z => by rw [z, e] at h; cases h)]; exact h
section
variable {P : Program} {w : World} {K : PySem.W.Frag} {mg : Str → Option Value} {base : Heap} {CC CH fCi fAd fSn : Addr} {fdCi fdAd fdSn : FuncData}
end
end Dk

set_option Elab.async false
set_option linter.all false
set_option maxRecDepth 100000
set_option maxHeartbeats 2000000
namespace Dk
open PySem PySem.Spec PyProof.Rows L2 TL
/-! ### scenes as data -/
def dI (l : List Int) : List PyData := l.map PyData.int
def scD (x : Sc) : PyData := .tuple [.int x.1, .tuple (dI x.2.1), .tuple (dI x.2.2.1), .bool x.2.2.2]
theorem ints_eqv : ∀ l m : List Int, PyData.eqv (.tuple (dI l)) (.tuple (dI m)) = decide (l = m)
  | [], [] => rfl
  | [], _ :: _ => rfl
  | _ :: _, [] => rfl
  | a :: l, b :: m => by
    have ih := ints_eqv l m
    have e : PyData.eqv (.tuple (dI (a :: l))) (.tuple (dI (b :: m))) = ((a == b) && PyData.eqv (.tuple (dI l)) (.tuple (dI m))) := rfl
    rw [e, ih]
    by_cases h1 : a = b
    · subst h1; simp
    · simp [h1]
theorem scD_eqv (x y : Sc) : PyData.eqv (scD x) (scD y) = decide (x = y) := by
  obtain ⟨a1, a2, a3, a4⟩ := x
  obtain ⟨b1, b2, b3, b4⟩ := y
  have e : PyData.eqv (scD (a1, a2, a3, a4)) (scD (b1, b2, b3, b4)) = ((a1 == b1) && (PyData.eqv (.tuple (dI a2)) (.tuple (dI b2)) && (PyData.eqv (.tuple (dI a3)) (.tuple (dI b3)) && (PyData.eqv (.bool a4) (.bool b4) && true)))) := rfl
  have e4 : PyData.eqv (.bool a4) (.bool b4) = (a4 == b4) := by cases a4 <;> cases b4 <;> rfl
  rw [e, ints_eqv, ints_eqv, e4]
  by_cases h1 : a1 = b1 <;> by_cases h2 : a2 = b2 <;> by_cases h3 : a3 = b3 <;> by_cases h4 : a4 = b4 <;> simp [h1, h2, h3, h4]
theorem dI_lay : ∀ l : List Int, PyData.canLayAll0 (dI l) = true ∧ PyData.depthAll (dI l) = 0
  | [] => ⟨rfl, rfl⟩
  | a :: l => by
    obtain ⟨h1, h2⟩ := dI_lay l
    exact ⟨by show (true && PyData.canLayAll0 (dI l)) = true; rw [h1]; rfl, by show max 0 (PyData.depthAll (dI l)) = 0; rw [h2]; rfl⟩
theorem scD_lay (x : Sc) : PyData.canLay0 (scD x) = true ∧ PyData.depth (scD x) ≤ 2 := by
  obtain ⟨h1, h2⟩ := dI_lay x.2.1
  obtain ⟨h3, h4⟩ := dI_lay x.2.2.1
  refine ⟨?_, ?_⟩
  · show (true && (PyData.canLayAll0 (dI x.2.1) && (PyData.canLayAll0 (dI x.2.2.1) && (true && true)))) = true
    rw [h1, h3]; rfl
  · show max 0 (max (PyData.depthAll (dI x.2.1) + 1) (max (PyData.depthAll (dI x.2.2.1) + 1) (max 0 0))) + 1 ≤ 2
    rw [h2, h4]; decide
theorem scD_shaped (x : Sc) : SeqAt.shaped (scD x) = true := by
  obtain ⟨h1, h2⟩ := scD_lay x
  unfold SeqAt.shaped
  rw [h1, decide_eq_true (show PyData.depth (scD x) ≤ 64 by omega)]; rfl
theorem scDs_shaped (l : List Sc) : SeqAt.shaped (.list (l.map scD)) = true := by
  have h1 : PyData.canLayAll0 (l.map scD) = true ∧ PyData.depthAll (l.map scD) ≤ 2 := by
    induction l with
    | nil => exact ⟨rfl, by show 0 ≤ 2; decide⟩
    | cons x l ih =>
      obtain ⟨i1, i2⟩ := ih
      obtain ⟨j1, j2⟩ := scD_lay x
      exact ⟨by show (PyData.canLay0 (scD x) && PyData.canLayAll0 (l.map scD)) = true; rw [i1, j1]; rfl, by show max (PyData.depth (scD x)) (PyData.depthAll (l.map scD)) ≤ 2; omega⟩
  unfold SeqAt.shaped
  rw [show PyData.canLay0 (.list (l.map scD)) = true from h1.1, decide_eq_true (show PyData.depth (.list (l.map scD)) ≤ 64 by show PyData.depthAll (l.map scD) + 1 ≤ 64; omega)]
  rfl
theorem dpAll_dI {K : PySem.W.Frag} {H : Hp} : ∀ l : List Int, DpAll K H (l.map V.int) (dI l)
  | [] => .nil
  | a :: l => .cons (.int a) (dpAll_dI l)
theorem sc_dp {K : PySem.W.Frag} {H : Hp} {a : Addr} {x : Sc} (h : ScAt H a x) : Dp K H (.ref a) (scD x) := by
  obtain ⟨b, d, e1, e2, e3⟩ := h
  exact .tup (SqT.of e1) (.cons (.int _) (.cons (.tup (SqT.of e2) (dpAll_dI _)) (.cons (.tup (SqT.of e3) (dpAll_dI _)) (.cons (.bl _) .nil))))
theorem scs_dp {K : PySem.W.Frag} {H : Hp} {h : Hd} : ∀ {ys : List V} {is : List Nat}, Scs H h ys is → DpAll K H ys ((is.map (scn h)).map scD)
  | [], [], .nil => .nil
  | _ :: _, _ :: _, .cons ⟨a, e, q⟩ r => by rw [e]; exact .cons (sc_dp q) (scs_dp r)
/-! ### the cycle -/
structure IsCyc (h : Hd) (b n : Nat) : Prop where
  lt : b < n
  eq : scn h b = scn h n
  ne : ∀ j, j < b → scn h j ≠ scn h n
  rp : IsRep h n
  le : n ≤ 196608
theorem cyc_of {h : Hd} {n : Nat} (r : IsRep h n) (hn : n ≤ 196608) : ∃ b, IsCyc h b n := by
  obtain ⟨i, hi, e⟩ := List.mem_map.mp r.re
  have hi := List.mem_range.mp hi
  have key : ∀ k, k ≤ i → (∃ j, j ≤ k ∧ scn h j = scn h n ∧ ∀ m, m < j → scn h m ≠ scn h n) ∨ ∀ m, m ≤ k → scn h m ≠ scn h n := by
    intro k
    induction k with
    | zero =>
      intro _
      by_cases c : scn h 0 = scn h n
      · exact .inl ⟨0, Nat.le_refl _, c, fun m hm => absurd hm (Nat.not_lt_zero _)⟩
      · exact .inr fun m hm => by rw [Nat.le_zero.mp hm]; exact c
    | succ k ih =>
      intro hk
      rcases ih (by omega) with ⟨j, hj, r⟩ | r
      · exact .inl ⟨j, by omega, r⟩
      · by_cases c : scn h (k + 1) = scn h n
        · exact .inl ⟨k + 1, Nat.le_refl _, c, fun m hm => r m (by omega)⟩
        · refine .inr fun m hm => ?_
          by_cases q : m = k + 1
          · rw [q]; exact c
          · exact r m (by omega)
  rcases key i (Nat.le_refl _) with ⟨j, hj, c, r'⟩ | r'
  · exact ⟨j, by omega, c, r', r, hn⟩
  · exact absurd e (r' i (Nat.le_refl _))
def spFind (K : PySem.W.Frag) (CH : Addr) : Sp := fun vs H Q _ => ∃ (hp : Addr) (h : Hd), vs = [.ref hp] ∧ HoAt K CH H hp h ∧ Tabs h.ts ∧ h.ts.length ≤ 6 ∧
  ∀ (H' : Hp) (a : Addr) (b n : Nat), Same H H' → IsCyc h b n → H' a = some (.tup [.int (b : Int), .int ((n : Int) - (b : Int))]) → Q (.ref a) H'
def spAfter (K : PySem.W.Frag) (CC CH : Addr) : Sp := fun vs H Q _ => ∃ (hp : Addr) (h : Hd) (m : Nat), vs = [.ref hp, .int ((m : Int) - 1)] ∧ HoAt K CH H hp h ∧ Tabs h.ts ∧ h.ts.length ≤ 6 ∧
  ∀ (H' : Hp) (p : Addr), Same H H' → H p = none → CoAt CC H' p hp ((per h.ts : Nat) : Int) ((m : Int) - 1) (stt h m) → hp ≠ p → (∃ a, HomeAt H' p a ∧ H a = none) → Q (.ref p) H'
/-- the list of the scenes up to the first that was there before -/
def spCyc (K : PySem.W.Frag) : Sp := fun vs H Q _ => ∃ (q : Addr) (h : Hd) (ys : List V) (b n : Nat), vs = [.ref q] ∧ H q = some (.lst ys) ∧ Scs H h ys (List.range (n + 1)) ∧ IsCyc h b n ∧
  ∀ (H' : Hp) (a : Addr), Same H H' → H' a = some (.tup [.int (b : Int), .int ((n : Int) - (b : Int))]) → Q (.ref a) H'
def earlyI (t b l : Int) : Int := if t < b then t else b + (t - b) % l
def spEarly : Sp := fun vs H Q _ => ∃ t b l : Int, vs = [.int t, .int b, .int l] ∧ 0 < l ∧ Q (.int (earlyI t b l)) H
structure TxtFc (K : PySem.W.Frag) (mg : Str → Option Value) (fSo fFc : Addr) (fdSo fdFc : FuncData) : Prop where
  list : mg "list" = none
abbrev nAfter : List Str := ["house", "tick", "begin", "length", "course", "_"]
section
variable {P : Program} {w : World} {K : PySem.W.Frag} {mg : Str → Option Value} {base : Heap} {CC CH fCi fAd fSn : Addr} {fdCi fdAd fdSn : FuncData} {fSo fFc : Addr} {fdSo fdFc : FuncData} {fHL : Addr} {fdHL : FuncData}
/-- the number of early ticks is known: one less than j, and after j ticks all is as after m -/
structure CondAf (K : PySem.W.Frag) (CC CH : Addr) (D : Ends) (σ : L2.St) (H : Hp) : Prop where
  ex : ∃ (hp : Addr) (h : Hd) (m j : Nat) (b l : Int) (v5 v6 : Option V), σ = [some (.ref hp), some (.int ((m : Int) - 1)), some (.int b), some (.int l), v5, v6] ∧ 0 < l ∧ earlyI ((m : Int) - 1) b l = (j : Int) - 1 ∧ HoAt K CH H hp h ∧ Tabs h.ts ∧ h.ts.length ≤ 6 ∧ j ≤ 400000 ∧ stt h j = stt h m ∧
    ∀ (H' : Hp) (p : Addr), Same H H' → H p = none → CoAt CC H' p hp ((per h.ts : Nat) : Int) ((m : Int) - 1) (stt h m) → hp ≠ p → (∃ a, HomeAt H' p a ∧ H a = none) → D.rt (.ref p) H'
end
end Dk

set_option Elab.async false
set_option linter.all false
set_option maxRecDepth 100000
set_option maxHeartbeats 1000000
namespace Dk
open PySem PySem.Spec PyProof.Rows L2 TL
theorem ps_never {X : Cx} {st : Stmt} : PS X st (fun _ _ _ => False) := ⟨fun _ _ _ _ _ _ h => h.elim⟩
def lastT : Int := 1000000000000000000
def spTk : Sp := fun vs H Q _ => ∃ t : Int, vs = [.int t] ∧ 0 ≤ t ∧ t ≤ lastT ∧ ∀ H', Same H H' → Q .non H'
def spCp : Sp := fun vs H Q _ => ∃ p n : Int, vs = [.int p, .int n] ∧ 0 ≤ p ∧ p < n ∧ ∀ H', Same H H' → Q .non H'
/-- asked of a house after a tick -/
def spAsk (K : PySem.W.Frag) (CH : Addr) (ans : Hd → Cs → V → Hp → Hp → Prop) : Sp := fun vs H Q _ => ∃ (hp : Addr) (h : Hd) (n : Nat), vs = [.ref hp, .int (n : Int)] ∧ HoAt K CH H hp h ∧ Tabs h.ts ∧ h.ts.length ≤ 6 ∧ (n : Int) ≤ lastT ∧
  ∀ (H' : Hp) (v : V), Same H H' → ans h (stt h (n + 1)) v H H' → Q v H'
def ansHome : Hd → Cs → V → Hp → Hp → Prop := fun _ c v H H' => ∃ a, v = .ref a ∧ H a = none ∧ H' a = some (.lst (c.home.map V.int))
def ansWait : Hd → Cs → V → Hp → Hp → Prop := fun _ c v _ H' => ∃ a, v = .ref a ∧ H' a = some (.tup (c.wait.map V.int))
def ansHold : Hd → Cs → V → Hp → Hp → Prop := fun _ c v _ H' => ∃ a, v = .ref a ∧ H' a = some (.tup (c.carr.map V.int))
def ansHook : Hd → Cs → V → Hp → Hp → Prop := fun h c v _ _ => v = .int (h.ks - (c.carr.length : Int))
def ansOpen : Hd → Cs → V → Hp → Hp → Prop := fun _ c v _ _ => v = .bl c.opn
structure TxtAs (K : PySem.W.Frag) (mg : Str → Option Value) (fCt fCa : Addr) (fdCt fdCa : FuncData) : Prop where
section
variable {P : Program} {w : World} {K : PySem.W.Frag} {mg : Str → Option Value} {base : Heap} {CC CH fCi fAd fSn : Addr} {fdCi fdAd fdSn : FuncData} {fSo fFc : Addr} {fdSo fdFc : FuncData} {fHL : Addr} {fdHL : FuncData} {fII fIB fHO : Addr} {fdII fdIB fdHO : FuncData} {fCt fCa : Addr} {fdCt fdCa : FuncData}
theorem scAsk (st : Stmt) (h : FnScope ["house", "tick"] ["house", "tick"] (defScope st)) : FnScope ["house", "tick"] ["house", "tick"] (defScope st) := h
theorem after_at {n : Nat} : ((n + 1 : Nat) : Int) - 1 = (n : Int) := by omega
end
end Dk

set_option Elab.async false
set_option linter.all false
set_option maxRecDepth 100000
set_option maxHeartbeats 4000000
namespace Dk
open PySem PySem.Spec PyProof.Rows L2 TL
/-! ### the reader -/
def rFields (a i : V) : List (Str × V) := [("code", a), ("place", i)]
theorem rF_code (a i : V) : (rFields a i).lookup ("code" : Str) = some a := by rfl
theorem rF_place (a i : V) : (rFields a i).lookup ("place" : Str) = some i := by rfl
theorem putF_place (a i j : V) : putF "place" j (rFields a i) = rFields a j := by rfl
structure RdAt (CR : Addr) (H : Hp) (p a : Addr) (i : Nat) : Prop where
  ex : ∃ dx, H p = some (.ins CR dx (rFields (.ref a) (.int (i : Int))))
def SubAt (ns : List Int) (i : Nat) (xs : List Int) : Prop := ∀ j x, xs[j]? = some x → ns[i + j]? = some x
theorem SubAt.left {ns xs ys : List Int} {i : Nat} (h : SubAt ns i (xs ++ ys)) : SubAt ns i xs := fun j x e => h j x (by rw [List.getElem?_append_left (List.getElem?_eq_some_iff.mp e).1]; exact e)
theorem SubAt.right {ns xs ys : List Int} {i : Nat} (h : SubAt ns i (xs ++ ys)) : SubAt ns (i + xs.length) ys := fun j x e => by
  have := h (xs.length + j) x (by rw [List.getElem?_append_right (by omega), Nat.add_sub_cancel_left]; exact e)
  rw [Nat.add_assoc]; exact this
theorem SubAt.head {ns ys : List Int} {x : Int} {i : Nat} (h : SubAt ns i (x :: ys)) : ns[i]? = some x := by simpa using h 0 x rfl
theorem SubAt.tail {ns ys : List Int} {x : Int} {i : Nat} (h : SubAt ns i (x :: ys)) : SubAt ns (i + 1) ys := fun j y e => by
  have := h (j + 1) y (by simpa using e)
  rw [show i + 1 + j = i + (j + 1) by omega]; exact this
def spRInit (CR : Addr) : Sp := fun vs H Q _ => ∃ (p dx a : Addr), vs = [.ref p, .ref a] ∧ H p = some (.ins CR dx []) ∧ ∀ H', Kp p H H' → RdAt CR H' p a 0 → Q .non H'
def spTakeR (K : PySem.W.Frag) (CR : Addr) : Sp := fun vs H Q _ => ∃ (p a al : Addr) (i : Nat) (ns as : List Int) (x : Int), vs = [.ref p, .ref al] ∧ RdAt CR H p a i ∧ SqL K H a (ns.map V.int) ∧ ns[i]? = some x ∧ (SqL K H al (as.map V.int) ∨ SqT K H al (as.map V.int)) ∧ x ∈ as ∧ ∀ H', Kp p H H' → RdAt CR H' p a (i + 1) → Q (.int x) H'
def spTakeB (K : PySem.W.Frag) (CR : Addr) : Sp := fun vs H Q _ => ∃ (p a : Addr) (lo hi : Int) (i : Nat) (ns : List Int) (x : Int), vs = [.ref p, .int lo, .int hi] ∧ RdAt CR H p a i ∧ SqL K H a (ns.map V.int) ∧ ns[i]? = some x ∧ lo ≤ x ∧ x ≤ hi ∧ 0 ≤ lo ∧ hi ≤ 1000 ∧ ∀ H', Kp p H H' → RdAt CR H' p a (i + 1) → Q (.int x) H'
structure TxtRd (K : PySem.W.Frag) (mg : Str → Option Value) (CR fRI fTk fTB : Addr) (fdRI fdTk fdTB : FuncData) : Prop where
  cl : Cls K CR
  nC : NoAttr K CR "code"
  nP : NoAttr K CR "place"
  FRI : Fun K "__init__" "Reader.__init__" sRInit fRI fdRI
  bRI : Binds K fdRI ["self", "code"] []
  mTk : Meth K CR "take" fTk
  FTk : Fun K "take" "Reader.take" sTakeR fTk fdTk
  bTk : Binds K fdTk ["self", "allowed"] []
  mTB : Meth K CR "take_between" fTB
  FTB : Fun K "take_between" "Reader.take_between" sTakeB fTB fdTB
  bTB : Binds K fdTB ["self", "low", "high"] []
  list : mg "list" = none
theorem all_flatI (l : List Int) : (l.map V.int).all flatV = true := by
  rw [List.all_map]
  exact List.all_eq_true.mpr fun _ _ => rfl
section
variable {P : Program} {w : World} {K : PySem.W.Frag} {mg : Str → Option Value} {base : Heap} {CR fRI fTk fTB : Addr} {fdRI fdTk fdTB : FuncData} {fII fIB fHO : Addr} {fdII fdIB fdHO : FuncData}
theorem scRInit : FnScope ["self", "code"] ["self", "code"] (defScope sRInit) := ⟨rfl, rfl, rfl, by decide +kernel, rfl, by decide +kernel, by decide +kernel⟩
theorem ok_rinit (R : TxtRd K mg CR fRI fTk fTB fdRI fdTk fdTB) : FnOk P w K mg base CX0 1 fRI fdRI ["self", "code"] (spRInit CR) := by
  refine R.FRI.ok scRInit (fun vs H Q E h => ?_) (fun cdv A outer s H vs Q E hr h => ?_)
  · obtain ⟨p, dx, a, rfl, _⟩ := h
    rfl
  · obtain ⟨p, dx, a, rfl, e1, k⟩ := h
    refine ⟨_, pss_cons (ps_fld (pv 0) (pv 1) rfl) (pss_one (ps_fld (pv 0) pe_int rfl)), ?_⟩
    refine ⟨_, rfl, _, rfl, p, CR, dx, _, rfl, e1, R.cl, R.nC, by show 0 < 1000; decide, ?_⟩
    refine ⟨_, rfl, p, CR, dx, _, rfl, upd_same, R.cl, R.nP, by show 1 < 1000; decide, ?_⟩
    rw [upd_upd]
    exact k _ kp_upd ⟨dx, upd_same⟩
theorem scTakeR : FnScope ["self", "allowed", "byte"] ["self", "allowed"] (defScope sTakeR) := ⟨rfl, rfl, rfl, by decide +kernel, rfl, by decide +kernel, by decide +kernel⟩
theorem ok_takeR (R : TxtRd K mg CR fRI fTk fTB fdRI fdTk fdTB) (TF : TxtF K mg fII fIB fHO fdII fdIB fdHO) (T : TxtA mg) : FnOk P w K mg base CX0 2 fTk fdTk ["self", "allowed"] (spTakeR K CR) := by
  have GI : FnOk P w K mg base CX0 1 fII fdII ["value"] (spIsInt K) := ok_isint TF
  refine R.FTk.ok scTakeR (fun vs H Q E h => ?_) (fun cdv A outer s H vs Q E hr h => ?_)
  · obtain ⟨p, a, al, i, ns, as, x, rfl, _⟩ := h
    rfl
  · obtain ⟨p, a, al, i, ns, as, x, rfl, ⟨dx, e1⟩, hS, hx, hA, hm, k⟩ := h
    have hi : i < ns.length := (List.getElem?_eq_some_iff.mp hx).1
    refine ⟨_, pss_cons (ps_if (pt_cmpR op_eq (pe_fld (pv 0) rfl) (pe_callB call_len_seq (by rfl) T.len PySem.boot_len (pa_cons (pe_fld (pv 0) rfl) pa_nil)) (nomark _)) (pss_one ps_never) pss_nil)
      (pss_cons (ps_set (i := 2) scTakeR.nd rfl (.inl rfl) (pe_ix ix_list (pe_fld (pv 0) rfl) (pe_fld (pv 0) rfl) (fun _ _ => rfl)))
      (pss_cons (ps_if (PW.pt (pw_or (pt_not (pt_val (pe_call GI hr rfl TF.gII TF.FII.kp TF.bII .nil pass0 (pa_cons (pv 2) pa_nil)))) (pw_or1 (pt_cmpR op_notIn_seq (pv 2) (pv 1) (by rfl))))) (pss_one ps_never) pss_nil)
      (pss_cons (ps_fldaug (pv 0) pe_int in_add) (pss_one (ps_ret (pv 2)))))), ?_⟩
    refine ⟨_, rfl, p, CR, dx, _, _, rfl, e1, R.cl, R.nP, rF_place _ _, _, rfl, p, CR, dx, _, _, rfl, e1, R.cl, R.nC, rF_code _ _, a, _, rfl, .inl hS, ?_⟩
    rw [List.length_map]
    refine ⟨rfl, _, rfl, ite2 (fun c => ?_) (fun _ => ?_)⟩
    · have c := of_decide_eq_true c
      injection c with c
      omega
    refine ⟨_, rfl, p, CR, dx, _, _, rfl, e1, R.cl, R.nC, rF_code _ _, _, rfl, p, CR, dx, _, _, rfl, e1, R.cl, R.nP, rF_place _ _, a, _, (i : Int), .int x, rfl, rfl, hS, atI_nat (by rw [List.getElem?_map, hx]; rfl), ?_⟩
    refine ⟨_, rfl, .int x, .int x, rfl, .int x, _, rfl, iteF ⟨_, rfl, _, rfl, al, _, rfl, hA, rfl, all_flatI _, _, rfl, ?_⟩⟩
    show (if (!inV (.int x) (as.map V.int)) = true then _ else _)
    rw [any_eqI, decide_eq_true hm]
    refine iteF ⟨_, rfl, p, CR, dx, _, .int (i : Int), rfl, e1, R.cl, R.nP, rF_place _ _, _, _, rfl, rfl, dx, _, e1, by show 2 < 1000; decide, ?_⟩
    rw [putF_place]
    exact ⟨_, rfl, k _ kp_upd ⟨dx, by rw [upd_same]; rfl⟩⟩
theorem scTakeB : FnScope ["self", "low", "high"] ["self", "low", "high"] (defScope sTakeB) := ⟨rfl, rfl, rfl, by decide +kernel, rfl, by decide +kernel, by decide +kernel⟩
theorem rgV_ints (a b : Int) : rgV a b = ((List.range (b - a).toNat).map fun i : Nat => a + (i : Int)).map V.int := by
  unfold rgV
  rw [List.map_map]
  rfl
theorem ok_takeb (R : TxtRd K mg CR fRI fTk fTB fdRI fdTk fdTB) (TF : TxtF K mg fII fIB fHO fdII fdIB fdHO) (T : TxtA mg) : FnOk P w K mg base CX0 3 fTB fdTB ["self", "low", "high"] (spTakeB K CR) := by
  have GT : FnOk P w K mg base CX0 2 fTk fdTk ["self", "allowed"] (spTakeR K CR) := ok_takeR R TF T
  refine R.FTB.ok scTakeB (fun vs H Q E h => ?_) (fun cdv A outer s H vs Q E hr h => ?_)
  · obtain ⟨p, a, lo, hi, i, ns, x, rfl, _⟩ := h
    rfl
  · obtain ⟨p, a, lo, hi, i, ns, x, rfl, hR, hS, hx, h1, h2, h3, h4, k⟩ := h
    obtain ⟨dx, e1⟩ := id hR
    refine ⟨_, pss_one (ps_ret (pe_meth (pv 0) R.cl R.mTk GT hr R.bTk .nil pass0 (pa_cons (pe_listRg rfl (by rfl) R.list (prg_2 (by rfl) T.range (pv 1) (pe_op op_add (pv 2) pe_int))) pa_nil))), ?_⟩
    refine ⟨_, rfl, p, dx, _, rfl, e1, by rfl, _, rfl, _, rfl, _, _, rfl, rfl, lo, hi + 1, rfl, rfl, RgOk.of_le h3 (by omega) (by omega) (by omega), fun q hq => ?_⟩
    have s1 := same_upd (o := .lst (rgV lo (hi + 1))) hq
    refine ⟨p, a, q, i, ns, (List.range (hi + 1 - lo).toNat).map fun i : Nat => lo + (i : Int), x, rfl, ⟨dx, s1 _ _ e1⟩, s1.seq hS, hx, .inl (by rw [← rgV_ints]; exact SqL.of upd_same), ?_, fun H' k' r' => k H' ((sKp s1).trans k') r'⟩
    exact List.mem_map.mpr ⟨(x - lo).toNat, List.mem_range.mpr (by omega), by omega⟩
end
end Dk

set_option Elab.async false
set_option linter.all false
set_option maxRecDepth 100000
set_option maxHeartbeats 4000000
namespace Dk
open PySem PySem.Spec PyProof.Rows L2 TL
structure RSt (CR : Addr) (H : Hp) (p a : Addr) (ns : List Int) (i : Nat) : Prop where
  rd : RdAt CR H p a i
  ls : H a = some (.lst (ns.map V.int))
theorem RSt.ne {CR : Addr} {H : Hp} {p a : Addr} {ns : List Int} {i : Nat} (h : RSt CR H p a ns i) : a ≠ p := fun e => by
  obtain ⟨dx, e1⟩ := h.rd.ex
  have := h.ls
  rw [e, e1] at this; cases this
theorem RSt.kp {CR : Addr} {H H' : Hp} {p a : Addr} {ns : List Int} {i j : Nat} (h : RSt CR H p a ns i) (k : Kp p H H') (r : RdAt CR H' p a j) : RSt CR H' p a ns j := ⟨r, k _ _ h.ne h.ls⟩
theorem RSt.mono {CR : Addr} {H H' : Hp} {p a : Addr} {ns : List Int} {i : Nat} (h : RSt CR H p a ns i) (s : Same H H') : RSt CR H' p a ns i := by
  obtain ⟨dx, e1⟩ := h.rd.ex
  exact ⟨⟨dx, s _ _ e1⟩, s _ _ h.ls⟩
theorem RSt.put {CR : Addr} {H : Hp} {p a q : Addr} {ns : List Int} {i : Nat} {o : HO} (h : RSt CR H p a ns i) (n1 : p ≠ q) (n2 : a ≠ q) : RSt CR (upd H q o) p a ns i := by
  obtain ⟨dx, e1⟩ := h.rd.ex
  exact ⟨⟨dx, by rw [upd_ne n1]; exact e1⟩, by rw [upd_ne n2]; exact h.ls⟩
theorem Kp.free {l : Addr} {H H' : Hp} (k : Kp l H H') {b : Addr} (n : b ≠ l) (h : H' b = none) : H b = none := by
  cases e : H b with
  | none => rfl
  | some o => rw [k b o n e] at h; cases h
def spReadTab (CR : Addr) : Sp := fun vs H Q _ => ∃ (p a : Addr) (ns : List Int) (i : Nat) (t : Str), vs = [.ref p] ∧ RSt CR H p a ns i ∧ IsTab t ∧ SubAt ns i (tabB t) ∧ ∀ H', Kp p H H' → RSt CR H' p a ns (i + (tabB t).length) → Q (.str t) H'
def spReadCar (CR : Addr) : Sp := fun vs H Q _ => ∃ (p a : Addr) (ns : List Int) (i n : Nat) (cs : List Int), vs = [.ref p, .int (n : Int)] ∧ n ≤ 6 ∧ RSt CR H p a ns i ∧ SubAt ns i ((cs.length : Int) :: cs) ∧ cs.Pairwise (· < ·) ∧ (∀ c ∈ cs, (0 : Int) ≤ c ∧ c < (n : Int)) ∧
  ∀ (H' : Hp) (u : Addr), Kp p H H' → RSt CR H' p a ns (i + 1 + cs.length) → H u = none → H' u = some (.tup (cs.map V.int)) → Q (.ref u) H'
def spReadPrs (CR : Addr) : Sp := fun vs H Q _ => ∃ (p a : Addr) (ns : List Int) (i n m : Nat) (rs : List Pr), vs = [.ref p, .int (m : Int), .int (n : Int)] ∧ n ≤ 6 ∧ m ≤ 24 ∧ RSt CR H p a ns i ∧ SubAt ns i ((rs.length : Int) :: rs.flatMap prB) ∧ rs.Pairwise plt ∧ rs.length ≤ 10 ∧
  (∀ r ∈ rs, (0 : Int) ≤ r.1 ∧ r.1 < (m : Int) ∧ (0 : Int) ≤ r.2 ∧ r.2 < (n : Int)) ∧
  ∀ (H' : Hp) (u : Addr) (xs : List V), Kp p H H' → RSt CR H' p a ns (i + 1 + (rs.flatMap prB).length) → H u = none → H' u = some (.tup xs) → Prs H' xs rs → Q (.ref u) H'
theorem oh_get {c : Nat} (h : c = 104 ∨ c = 111) : 0 ≤ hBit c ∧ hBit c ≤ 1 ∧ hBit c < 2 ^ 63 ∧ hBit c < (ohS.length : Int) ∧ ohS.cps[(hBit c).toNat]? = some c := by
  rcases h with rfl | rfl <;> decide +kernel
section
variable {P : Program} {w : World} {K : PySem.W.Frag} {mg : Str → Option Value} {base : Heap} {CR fRI fTk fTB : Addr} {fdRI fdTk fdTB : FuncData} {fII fIB fHO : Addr} {fdII fdIB fdHO : FuncData} {CH pPs gPs fSm : Addr} {fdPs fdSm : FuncData}
theorem scReadTab : FnScope ["reader", "length", "_"] ["reader"] (defScope sRdTable) := ⟨rfl, rfl, rfl, by decide +kernel, rfl, by decide +kernel, by decide +kernel⟩
theorem ok_readtab {f : Addr} {fd : FuncData} (F : Fun K "read_table" "read_table" sRdTable f fd) (R : TxtRd K mg CR fRI fTk fTB fdRI fdTk fdTB) (N : TxtEn K mg CH pPs gPs fSm fdPs fdSm) (TF : TxtF K mg fII fIB fHO fdII fdIB fdHO) (T : TxtA mg) : FnOk P w K mg base CX0 4 f fd ["reader"] (spReadTab CR) := by
  have GT : FnOk P w K mg base CX0 2 fTk fdTk ["self", "allowed"] (spTakeR K CR) := ok_takeR R TF T
  have GB : FnOk P w K mg base CX0 3 fTB fdTB ["self", "low", "high"] (spTakeB K CR) := ok_takeb R TF T
  obtain ⟨t2, eO⟩ := N.coded
  obtain ⟨aL, eL, hTL⟩ := TF.lengths
  refine F.ok scReadTab (fun vs H Q E h => ?_) (fun cdv A outer s H vs Q E hr h => ?_)
  · obtain ⟨p, a, ns, i, t, rfl, _⟩ := h
    rfl
  · obtain ⟨p, a, ns, i, t, rfl, hR, hit, hsub, k⟩ := h
    have hr2 : Room 2 (A.deeper (envOfC (Str.ofString "read_table") (defScope sRdTable) s.heap.objs.size f cdv)) := hr.mono (by decide)
    refine ⟨_, pss_cons (ps_set (i := 1) scReadTab.nd rfl (.inl rfl) (pe_meth (pv 0) R.cl R.mTk GT hr2 R.bTk .nil pass0 (pa_cons (pe_glob (v := .ref aL) rfl eL rfl) pa_nil)))
      (pss_one (ps_ret (pe_join pe_str (pe_lc (own := [("_", 2)]) (g := gName 2) (by rfl) scReadTab.nd (pi_range1 rfl T.range (pa_cons (pv 1) pa_nil)) (blkOk_by (N := ["reader", "length", "_"]) (sc := defScope sRdTable) (by decide +kernel))
          (fun _ _ _ _ _ => pg_name (i := 2) scReadTab.nd rfl (Or.inl rfl)) (fun _ _ _ _ _ => pts_nil)
          (fun _ _ _ _ _ => pe_item_str (pe_glob (v := .str ohS) rfl eO ⟨_, rfl⟩) (pe_meth (pv 0) R.cl R.mTB GB hr R.bTB .nil pass0 (pa_cons pe_int (pa_cons pe_int pa_nil))) (fun _ _ => rfl)))))), ?_⟩
    obtain ⟨dx, e1⟩ := hR.rd.ex
    have hpos := hit.pos
    refine ⟨_, rfl, p, dx, _, rfl, e1, by rfl, p, a, aL, i, ns, tabLens, ((tl t).length : Int), rfl, hR.rd, SqL.of hR.ls, hsub.head, .inr (sSqT (fun b o e => by cases e) hTL), ?_, fun H1 k1 hR1' => ?_⟩
    · have := hit.len
      simp only [List.mem_cons, List.not_mem_nil, or_false] at this
      rcases this with e | e | e | e | e | e | e | e <;> rw [e] <;> decide
    have hR1 := hR.kp k1 hR1'
    have hsub1 := hsub.tail
    refine ⟨⟨_, rfl⟩, _, rfl, ((tl t).length : Int), rfl, by omega, by omega, fun D hD => lc_range (lo := 0) (n := (((tl t).length : Nat) : Int).toNat)
      (fun j H3 => Kp p H1 H3 ∧ RSt CR H3 p a ns (i + 1 + j) ∧ H3 D = some (.lst ((((tl t).take j).map one).map V.str)))
      ⟨sKp (same_upd hD), hR1.mono (same_upd hD), upd_same⟩ ?_ ?_⟩
    · rintro j H3 hj ⟨k3, hR3, eD⟩
      have hj : j < (tl t).length := by omega
      have hc : (tl t)[j]? = some (tl t)[j] := List.getElem?_eq_getElem hj
      generalize (tl t)[j] = c at hc
      obtain ⟨g0, g1, g2, g3, g4⟩ := oh_get (hit.ho c (List.mem_of_getElem? hc))
      have hb : ns[i + 1 + j]? = some (hBit c) := hsub1 j (hBit c) (by rw [List.getElem?_map, hc]; rfl)
      obtain ⟨dx3, e3⟩ := hR3.rd.ex
      obtain ⟨dx1, e11⟩ := hR1.rd.ex
      have npD : p ≠ D := ne_of_none e11 hD
      have naD : a ≠ D := ne_of_none hR1.ls hD
      refine ⟨rfl, _, rfl, p, dx3, _, rfl, e3, by rfl, p, a, 0, 1, i + 1 + j, ns, hBit c, rfl, hR3.rd, SqL.of hR3.ls, hb, g0, g1, by decide, by decide, fun H4 k4 hR4' => ⟨ohS, hBit c, c, rfl, rfl, g0, g2, g3, g4, ?_⟩⟩
      have hR4 := hR3.kp k4 hR4'
      refine ⟨_, k4 _ _ npD.symm eD, ?_, fun b o nb eb => ?_, hR4.put npD naD, ?_⟩
      · rw [List.length_map, List.length_map, List.length_take]
        exact Nat.lt_of_le_of_lt (Nat.le_trans (Nat.min_le_left _ _) (by omega : j ≤ 1000)) (by decide)
      · rw [upd_ne (ne_of_none eb hD)]; exact k4 _ _ nb (k3 _ _ nb eb)
      · rw [upd_same, take_more hc, List.map_append, List.map_append]; rfl
    · rintro H3 ⟨k3, hR3, eD⟩
      rw [Int.toNat_natCast] at hR3 eD
      rw [List.take_length] at eD
      refine ⟨_, D, (tl t).map one, rfl, rfl, .inl (SqL.of eD), ?_, ?_⟩
      · rw [ones_sum]
        have : (Str.ofString "").length = 0 := by decide +kernel
        rw [this]
        omega
      · have ej : Txt.join (Str.ofString "") ((tl t).map one) = t := ext_tl (tl_joined (tl t))
        rw [ej]
        refine k H3 (k1.trans k3) ?_
        have : i + (tabB t).length = i + 1 + (tl t).length := by unfold tabB; rw [List.length_cons, List.length_map]; omega
        rw [this]; exact hR3
abbrev nRCar : List Str := ["reader", "persons", "count", "careful", "last", "_"]
theorem scReadCar : FnScope nRCar ["reader", "persons"] (defScope sRdCareful) := ⟨rfl, rfl, rfl, by decide +kernel, rfl, by decide +kernel, by decide +kernel⟩
theorem ok_readcar {f : Addr} {fd : FuncData} (F : Fun K "read_careful" "read_careful" sRdCareful f fd) (R : TxtRd K mg CR fRI fTk fTB fdRI fdTk fdTB) (TF : TxtF K mg fII fIB fHO fdII fdIB fdHO) (T : TxtA mg) : FnOk P w K mg base CX0 4 f fd ["reader", "persons"] (spReadCar CR) := by
  have GB : FnOk P w K mg base CX0 3 fTB fdTB ["self", "low", "high"] (spTakeB K CR) := ok_takeb R TF T
  refine F.ok scReadCar (fun vs H Q E h => ?_) (fun cdv A outer s H vs Q E hr h => ?_)
  · obtain ⟨p, a, ns, i, n, cs, rfl, _⟩ := h
    rfl
  · obtain ⟨p, a, ns, i, n, cs, rfl, hn6, hR, hsub, hp, hm, k⟩ := h
    refine ⟨_, pss_cons (ps_set (i := 2) scReadCar.nd rfl (.inl rfl) (pe_meth (pv 0) R.cl R.mTB GB hr R.bTB .nil pass0 (pa_cons pe_int (pa_cons (pv 1) pa_nil))))
      (pss_cons (ps_set (i := 3) scReadCar.nd rfl (.inl rfl) (pe_lst pa_nil))
      (pss_cons (ps_set (i := 4) scReadCar.nd rfl (.inl rfl) (pe_un un_neg pe_int))
      (pss_cons (ps_for PassesOwn.never rfl (pi_range1 rfl T.range (pa_cons (pv 2) pa_nil)) (pg_name (i := 5) scReadCar.nd rfl (.inl rfl))
        (pss_cons (ps_set (i := 4) scReadCar.nd rfl (.inl rfl) (pe_meth (pv 0) R.cl R.mTB GB hr R.bTB .nil pass0 (pa_cons (pe_op op_add (pv 4) pe_int) (pa_cons (pe_op op_sub (pv 1) pe_int) pa_nil))))
        (pss_one (ps_expr (pe_bm PySem.F.plainAttrs_list PySem.F.slot_list_append PySem.F.type_list_append mt_append (pv 3) (pa_cons (pv 4) pa_nil))))))
      (pss_one (ps_ret (pe_callTy call_tuple_of (by rfl) TF.tuple (by decide +kernel) (pa_cons (pv 3) pa_nil))))))), ?_⟩
    have hl6 := up_le6 hp hm hn6
    have hln : cs.length ≤ n := by
      have key : ∀ (l : List Int) (a : Int), l.Pairwise (· < ·) → (∀ c ∈ l, a ≤ c ∧ c < (n : Int)) → a ≤ (n : Int) → (l.length : Int) ≤ (n : Int) - a := by
        intro l
        induction l with
        | nil => intro a _ _ h; simp; omega
        | cons x l ih =>
          intro a hp hm ha
          have hx := hm x (List.mem_cons_self ..)
          have := ih (x + 1) (List.pairwise_cons.mp hp).2 (fun c hc => ⟨by have := (List.pairwise_cons.mp hp).1 c hc; omega, (hm c (List.mem_cons_of_mem _ hc)).2⟩) (by omega)
          rw [List.length_cons]
          omega
      have := key cs 0 hp hm (by omega)
      omega
    obtain ⟨dx, e1⟩ := hR.rd.ex
    refine ⟨_, rfl, p, dx, _, rfl, e1, by rfl, _, rfl, p, a, 0, (n : Int), i, ns, (cs.length : Int), rfl, hR.rd, SqL.of hR.ls, hsub.head, by omega, by omega, by decide, by omega, fun H1 k1 hR1' => ?_⟩
    have hR1 := hR.kp k1 hR1'
    have hsub1 := hsub.tail
    refine ⟨Nat.zero_le _, fun q hq => ?_⟩
    have s2 := same_upd (o := .lst []) hq
    have eq2 : (upd H1 q (.lst [])) q = some (.lst []) := upd_same
    have hR2 := hR1.mono s2
    obtain ⟨dx1, e11⟩ := hR1.rd.ex
    have npq : p ≠ q := ne_of_none e11 hq
    have naq : a ≠ q := ne_of_none hR1.ls hq
    have hqH : H q = none := k1.free npq.symm hq
    have k2 : Kp p H (upd H1 q (.lst [])) := k1.trans (sKp s2)
    generalize upd H1 q (.lst []) = H2 at eq2 hR2 k2
    have prev : ∀ j x, cs[j]? = some x → ((-1 : Int) :: cs).getD j 0 < x := by
      intro j x hx
      cases j with
      | zero => have := (hm x (List.mem_of_getElem? hx)).1; show (-1 : Int) < x; omega
      | succ j =>
        have hj : j < cs.length := by have := (List.getElem?_eq_some_iff.mp hx).1; omega
        have e : ((-1 : Int) :: cs).getD (j + 1) 0 = cs[j] := by simp [List.getD, List.getElem?_eq_getElem hj]
        rw [e]
        obtain ⟨hj2, ex⟩ := List.getElem?_eq_some_iff.mp hx
        rw [← ex]
        exact List.pairwise_iff_getElem.mp hp j (j + 1) hj hj2 (by omega)
    have prev0 : ∀ j, j < cs.length → (0 : Int) ≤ ((-1 : Int) :: cs).getD j 0 + 1 := by
      intro j hj
      cases j with
      | zero => show (0 : Int) ≤ -1 + 1; omega
      | succ j =>
        have e : ((-1 : Int) :: cs).getD (j + 1) 0 = cs[j] := by simp [List.getD, List.getElem?_eq_getElem (show j < cs.length by omega)]
        rw [e]
        have := (hm cs[j] (List.getElem_mem _)).1
        omega
    refine ⟨_, rfl, _, rfl, (cs.length : Int), rfl, by omega, by omega, for_range (lo := 0) (n := ((cs.length : Nat) : Int).toNat)
      (fun j σ H3 => ∃ v5 : Option V, σ = [some (.ref p), some (.int (n : Int)), some (.int (cs.length : Int)), some (.ref q), some (.int (((-1 : Int) :: cs).getD j 0)), v5] ∧ Kp p H H3 ∧ RSt CR H3 p a ns (i + 1 + j) ∧ H3 q = some (.lst ((cs.take j).map V.int)))
      ⟨_, rfl, k2, hR2, eq2⟩ ?_ ?_⟩
    · rintro j σ H3 hj ⟨v5, rfl, k3, hR3, eq3⟩
      have hj : j < cs.length := by omega
      have hc : cs[j]? = some cs[j] := List.getElem?_eq_getElem hj
      generalize cs[j] = c at hc
      have hcm := hm c (List.mem_of_getElem? hc)
      have hlt := prev j c hc
      have hge := prev0 j hj
      obtain ⟨dx3, e3⟩ := hR3.rd.ex
      refine ⟨_, rfl, p, dx3, _, rfl, e3, by rfl, _, rfl, _, _, rfl, rfl, _, rfl, _, _, rfl, rfl, p, a, ((-1 : Int) :: cs).getD j 0 + 1, (n : Int) - 1, i + 1 + j, ns, c, rfl, hR3.rd, SqL.of hR3.ls, hsub1 j c hc, by omega, by omega, hge, by omega, fun H4 k4 hR4' => ?_⟩
      have hR4 := hR3.kp k4 hR4'
      have eq4 := k4 _ _ npq.symm eq3
      refine ⟨_, rfl, .inl ⟨rfl, _, SqL.of eq4⟩, _, rfl, q, _, _, rfl, rfl, eq4, ?_, some (.int ((0 : Int) + (j : Int))), ?_, ?_, hR4.put npq naq, ?_⟩
      · rw [List.length_map, List.length_take]
        exact Nat.lt_of_le_of_lt (Nat.le_trans (Nat.min_le_right _ _) (by omega : _ ≤ 1000)) (by decide)
      · have e : ((-1 : Int) :: cs).getD (j + 1) 0 = c := by simp [List.getD, hc]
        rw [e]; rfl
      · exact fun b o nb eb => by rw [upd_ne (ne_of_none eb hqH)]; exact k4 _ _ nb (k3 _ _ nb eb)
      · rw [upd_same, take_more hc, List.map_append]; rfl
    · rintro σ H3 ⟨v5, rfl, k3, hR3, eq3⟩
      rw [Int.toNat_natCast] at hR3 eq3
      rw [List.take_length] at eq3
      refine ⟨_, rfl, q, _, rfl, .inl ⟨SqL.of eq3, fun u hu => ?_⟩⟩
      have s4 := same_upd (o := .tup (cs.map V.int)) hu
      have nup : u ≠ p := fun e => by
        obtain ⟨dx3, e3⟩ := hR3.rd.ex
        rw [e, e3] at hu; cases hu
      exact k _ u (k3.trans (sKp s4)) (hR3.mono s4) (k3.free nup hu) upd_same
abbrev nRPrs : List Str := ["reader", "period", "persons", "count", "reminders", "last_tick", "last_person", "_", "tick", "lowest", "person"]
theorem scReadPrs : FnScope nRPrs ["reader", "period", "persons"] (defScope sRdPairs) := ⟨rfl, rfl, rfl, by decide +kernel, rfl, by decide +kernel, by decide +kernel⟩
theorem prs_atE {ns : List Int} {rs : List Pr} : ∀ {i j : Nat} {r : Pr}, SubAt ns i (rs.flatMap prB) → rs[j]? = some r → ns[i + 2 * j]? = some r.1 ∧ ns[i + 2 * j + 1]? = some r.2 := by
  induction rs with
  | nil => intro i j r _ e; simp at e
  | cons s rs ih =>
    intro i j r h e
    rw [List.flatMap_cons] at h
    cases j with
    | zero =>
      simp at e; subst e
      exact ⟨h.left.head, h.left.tail.head⟩
    | succ j =>
      have := ih (i := i + 2) (j := j) h.right (by simpa using e)
      rw [show i + 2 * (j + 1) = i + 2 + 2 * j by omega]
      exact this
theorem flat2 (rs : List Pr) : (rs.flatMap prB).length = 2 * rs.length := by
  induction rs with
  | nil => rfl
  | cons r rs ih => rw [List.flatMap_cons, List.length_append, ih, List.length_cons]; show 2 + _ = _; omega
def prsLoop : List Stmt := match (defBody sRdPairs)[3]? with
  | some (Stmt.For _ _ b _ _) => b
  | _ => []
theorem prs_tail {f : Addr} {cdv : Value} {A : Around} {outer : List Env} {s : Shared} {H0 : Hp} {E : XK} (hr : Room 3 (A.deeper (envOfC (Str.ofString "read_pairs") (defScope sRdPairs) s.heap.objs.size f cdv))) (R : TxtRd K mg CR fRI fTk fTB fdRI fdTk fdTB) (TF : TxtF K mg fII fIB fHO fdII fdIB fdHO) (T : TxtA mg) :
    ∃ tm, PSs (cxOf CX0 P w K mg base nRPrs "read_pairs" (defScope sRdPairs) f cdv A outer s H0 E).nox (prsLoop.drop 2) tm ∧ ∀ (D : Ends) (σ : L2.St) (H : Hp) (p a q : Addr) (ns : List Int) (i n : Nat) (xs : List V) (rs : List Pr) (lo t x : Int) (v1 v3 v5 v6 v7 v10 : Option V),
      σ = [some (.ref p), v1, some (.int (n : Int)), v3, some (.ref q), v5, v6, v7, some (.int t), some (.int lo), v10] → RSt CR H p a ns i → ns[i]? = some x → 0 ≤ lo → lo ≤ x → x < (n : Int) → n ≤ 6 → a ≠ q → H q = some (.lst xs) → Prs H xs rs → xs.length ≤ 10 →
      (∀ (H' : Hp) (u : Addr), (∀ b o, b ≠ p → b ≠ q → H b = some o → H' b = some o) → RSt CR H' p a ns (i + 1) → H' q = some (.lst (xs ++ [.ref u])) → Prs H' (xs ++ [.ref u]) (rs ++ [(t, x)]) → D.nx [some (.ref p), v1, some (.int (n : Int)), v3, some (.ref q), some (.int t), some (.int x), v7, some (.int t), some (.int lo), some (.int x)] H') → tm D σ H := by
  have GB : FnOk P w K mg base CX0 3 fTB fdTB ["self", "low", "high"] (spTakeB K CR) := ok_takeb R TF T
  refine ⟨_, by
    exact pss_cons (ps_set (i := 10) scReadPrs.nd rfl (.inl rfl) (pe_meth (pv 0) R.cl R.mTB GB hr R.bTB .nil pass0 (pa_cons (pv 9) (pa_cons (pe_op op_sub (pv 2) pe_int) pa_nil))))
      (pss_cons (ps_expr (pe_bm PySem.F.plainAttrs_list PySem.F.slot_list_append PySem.F.type_list_append mt_append (pv 4) (pa_cons (pe_tup (pa_cons (pv 8) (pa_cons (pv 10) pa_nil))) pa_nil)))
      (pss_one (ps_par (i := 5) (j := 6) rfl scReadPrs.nd rfl rfl (by decide) rfl rfl (pa_cons (pv 8) (pa_cons (pv 10) pa_nil)) (by rfl)))), ?_⟩
  intro D σ H p a q ns i n xs rs lo t x v1 v3 v5 v6 v7 v10 hσ hR hx h0 h1 h2 h6 naq eq hP hl k
  subst hσ
  obtain ⟨dx, e1⟩ := hR.rd.ex
  have npq : p ≠ q := fun e => by rw [e, eq] at e1; cases e1
  refine ⟨_, rfl, p, dx, _, rfl, e1, by rfl, _, rfl, _, rfl, _, _, rfl, rfl, p, a, lo, (n : Int) - 1, i, ns, x, rfl, hR.rd, SqL.of hR.ls, hx, h1, by omega, h0, by omega, fun H1 k1 hR1' => ?_⟩
  have hR1 := hR.kp k1 hR1'
  have eq1 := k1 _ _ npq.symm eq
  have hP1 := hP.mono (fun t ys z => k1 t _ (fun e => by rw [e, e1] at z; cases z) z)
  refine ⟨_, rfl, .inl ⟨rfl, _, SqL.of eq1⟩, _, rfl, _, rfl, by show 2 ≤ sizeLine; decide, fun u hu => ?_⟩
  have s2 := same_upd (o := .tup [.int t, .int x]) hu
  have eu : (upd H1 u (.tup [.int t, .int x])) u = some (.tup [.int t, .int x]) := upd_same
  have eq2 := s2 _ _ eq1
  have hR2 := hR1.mono s2
  have hP2 : Prs (upd H1 u (.tup [.int t, .int x])) (xs ++ [.ref u]) (rs ++ [(t, x)]) := (hP1.mono fun t ys z => s2 _ _ z).app ⟨u, rfl, eu⟩
  generalize upd H1 u (.tup [.int t, .int x]) = H2 at s2 eu eq2 hR2 hP2
  refine ⟨q, _, _, rfl, rfl, eq2, Nat.lt_of_le_of_lt hl (by decide), ?_⟩
  have tK : ∀ t' ws, H2 t' = some (.tup ws) → (upd H2 q (.lst (xs ++ [V.ref u]))) t' = some (.tup ws) := fun t' ws h => by
    rw [upd_ne (fun z => by rw [z, eq2] at h; cases h)]; exact h
  exact ⟨_, rfl, _, rfl, _, _, rfl, k _ u (fun b o n1 n2 eb => by rw [upd_ne n2]; exact s2 _ _ (k1 _ _ n1 eb)) (hR2.put npq naq) upd_same (hP2.mono tK)⟩
theorem ok_readprs {f : Addr} {fd : FuncData} (F : Fun K "read_pairs" "read_pairs" sRdPairs f fd) (R : TxtRd K mg CR fRI fTk fTB fdRI fdTk fdTB) (TF : TxtF K mg fII fIB fHO fdII fdIB fdHO) (T : TxtA mg) (hRem : ∃ t, mg "MOST_REMINDERS" = some (.int 10 t)) : FnOk P w K mg base CX0 4 f fd ["reader", "period", "persons"] (spReadPrs CR) := by
  have GB : FnOk P w K mg base CX0 3 fTB fdTB ["self", "low", "high"] (spTakeB K CR) := ok_takeb R TF T
  obtain ⟨t1, eM⟩ := hRem
  refine F.ok scReadPrs (fun vs H Q E h => ?_) (fun cdv A outer s H vs Q E hr h => ?_)
  · obtain ⟨p, a, ns, i, n, m, rs, rfl, _⟩ := h
    rfl
  · obtain ⟨p, a, ns, i, n, m, rs, rfl, hn6, hm24, hR, hsub, hp, h10, hm, k⟩ := h
    obtain ⟨tI, pI, hI⟩ := prs_tail (P := P) (w := w) (K := K) (mg := mg) (base := base) (f := f) (cdv := cdv) (A := A) (outer := outer) (s := s) (H0 := H) (E := E) hr R TF T
    refine ⟨_, pss_cons (ps_set (i := 3) scReadPrs.nd rfl (.inl rfl) (pe_meth (pv 0) R.cl R.mTB GB hr R.bTB .nil pass0 (pa_cons pe_int (pa_cons (pe_glob (v := .int 10) rfl eM ⟨_, rfl⟩) pa_nil))))
      (pss_cons (ps_set (i := 4) scReadPrs.nd rfl (.inl rfl) (pe_lst pa_nil))
      (pss_cons (ps_asg (pe_tup (pa_cons pe_int (pa_cons (pe_un un_neg pe_int) pa_nil))) (pg_tup rfl (pgs_cons (pg_name (i := 5) scReadPrs.nd rfl (.inl rfl)) (pgs_cons (pg_name (i := 6) scReadPrs.nd rfl (.inl rfl)) pgs_nil))))
      (pss_cons (ps_for PassesOwn.never rfl (pi_range1 rfl T.range (pa_cons (pv 3) pa_nil)) (pg_name (i := 7) scReadPrs.nd rfl (.inl rfl))
        (pss_cons (ps_set (i := 8) scReadPrs.nd rfl (.inl rfl) (pe_meth (pv 0) R.cl R.mTB GB hr R.bTB .nil pass0 (pa_cons (pv 5) (pa_cons (pe_op op_sub (pv 1) pe_int) pa_nil))))
        (pss_cons (ps_set (i := 9) scReadPrs.nd rfl (.inl rfl) (pe_ifExp (pt_cmpR op_eq (pv 8) (pv 5) (nomark _)) (pe_op op_add (pv 6) pe_int) pe_int)) pI)))
      (pss_one (ps_ret (pe_callTy call_tuple_of (by rfl) TF.tuple (by decide +kernel) (pa_cons (pv 4) pa_nil))))))), ?_⟩
    obtain ⟨dx, e1⟩ := hR.rd.ex
    refine ⟨_, rfl, p, dx, _, rfl, e1, by rfl, p, a, 0, 10, i, ns, (rs.length : Int), rfl, hR.rd, SqL.of hR.ls, hsub.head, by omega, by omega, by decide, by decide, fun H1 k1 hR1' => ?_⟩
    have hR1 := hR.kp k1 hR1'
    have hsub1 := hsub.tail
    refine ⟨Nat.zero_le _, fun q hq => ?_⟩
    have s2 := same_upd (o := .lst []) hq
    have eq2 : (upd H1 q (.lst [])) q = some (.lst []) := upd_same
    have hR2 := hR1.mono s2
    obtain ⟨dx1, e11⟩ := hR1.rd.ex
    have npq : p ≠ q := ne_of_none e11 hq
    have naq : a ≠ q := ne_of_none hR1.ls hq
    have hqH : H q = none := k1.free npq.symm hq
    have k2 : Kp p H (upd H1 q (.lst [])) := k1.trans (sKp s2)
    generalize upd H1 q (.lst []) = H2 at eq2 hR2 k2
    refine ⟨_, rfl, by show 2 ≤ sizeLine; decide, fun u0 hu0 => ⟨u0, _, rfl, SqT.of upd_same, rfl, _, _, rfl, _, _, rfl, rfl, ?_⟩⟩
    have s3 := same_upd (o := .tup [V.int 0, (fun i : Int => V.int (-i)) 1]) hu0
    have eq3 := s3 _ _ eq2
    have hR3 := hR2.mono s3
    have k3 : Kp p H (upd H2 u0 (.tup [V.int 0, (fun i : Int => V.int (-i)) 1])) := k2.trans (sKp s3)
    generalize upd H2 u0 (.tup [V.int 0, (fun i : Int => V.int (-i)) 1]) = H3 at eq3 hR3 k3
    clear eq2 hR2 k2 s2 s3 hu0
    have prev : ∀ j r, rs[j]? = some r → plt ((((0 : Int), (-1 : Int)) :: rs).getD j (0, 0)) r ∧ 0 ≤ ((((0 : Int), (-1 : Int)) :: rs).getD j (0, 0)).1 ∧ 0 ≤ ((((0 : Int), (-1 : Int)) :: rs).getD j (0, 0)).2 + 1 := by
      intro j r hx
      cases j with
      | zero =>
        have := hm r (List.mem_of_getElem? hx)
        refine ⟨?_, by show (0 : Int) ≤ 0; omega, by show (0 : Int) ≤ -1 + 1; omega⟩
        show (0 : Int) < r.1 ∨ ((0 : Int) = r.1 ∧ (-1 : Int) < r.2)
        omega
      | succ j =>
        have hj : j < rs.length := by have := (List.getElem?_eq_some_iff.mp hx).1; omega
        have e : (((0 : Int), (-1 : Int)) :: rs).getD (j + 1) (0, 0) = rs[j] := by simp [List.getD, List.getElem?_eq_getElem hj]
        rw [e]
        obtain ⟨hj2, ex⟩ := List.getElem?_eq_some_iff.mp hx
        have hmj := hm rs[j] (List.getElem_mem _)
        refine ⟨?_, by omega, by omega⟩
        rw [← ex]
        exact List.pairwise_iff_getElem.mp hp j (j + 1) hj hj2 (by omega)
    refine ⟨_, rfl, (rs.length : Int), rfl, by omega, by omega, for_range (lo := 0) (n := ((rs.length : Nat) : Int).toNat)
      (fun j σ H3' => ∃ (v7 v8 v9 v10 : Option V) (xs : List V), σ = [some (.ref p), some (.int (m : Int)), some (.int (n : Int)), some (.int (rs.length : Int)), some (.ref q), some (.int ((((0 : Int), (-1 : Int)) :: rs).getD j (0, 0)).1), some (.int ((((0 : Int), (-1 : Int)) :: rs).getD j (0, 0)).2), v7, v8, v9, v10] ∧ Kp p H H3' ∧ RSt CR H3' p a ns (i + 1 + 2 * j) ∧ H3' q = some (.lst xs) ∧ Prs H3' xs (rs.take j))
      ⟨_, _, _, _, [], rfl, k3, hR3, eq3, .nil⟩ ?_ ?_⟩
    · rintro j σ H4 hj ⟨v7, v8, v9, v10, xs, rfl, k4, hR4, eq4, hP4⟩
      have hj : j < rs.length := by omega
      have hc : rs[j]? = some rs[j] := List.getElem?_eq_getElem hj
      have hnx : (((0 : Int), (-1 : Int)) :: rs).getD (j + 1) (0, 0) = rs[j] := by simp [List.getD, List.getElem?_eq_getElem hj]
      generalize rs[j] = r at hc hnx
      obtain ⟨m1, m2, m3, m4⟩ := hm r (List.mem_of_getElem? hc)
      obtain ⟨hlt, hz1, hz2⟩ := prev j r hc
      generalize (((0 : Int), (-1 : Int)) :: rs).getD j (0, 0) = l at hlt hz1 hz2
      obtain ⟨b1, b2⟩ := prs_atE hsub1 hc
      obtain ⟨dx4, e4⟩ := hR4.rd.ex
      have hl1 : l.1 ≤ r.1 := by
        rcases hlt with h | h
        · exact Int.le_of_lt h
        · exact Int.le_of_eq h.1
      refine ⟨_, rfl, p, dx4, _, rfl, e4, by rfl, _, rfl, _, rfl, _, _, rfl, rfl, p, a, l.1, (m : Int) - 1, i + 1 + 2 * j, ns, r.1, rfl, hR4.rd, SqL.of hR4.ls, b1, hl1, by omega, hz1, by omega, fun H5 k5 hR5' => ?_⟩
      have hR5 := hR4.kp k5 hR5'
      have eq5 := k5 _ _ npq.symm eq4
      have hP5 := hP4.mono (fun t ys z => k5 t _ (fun e => by rw [e, e4] at z; cases z) z)
      obtain ⟨dx5, e5⟩ := hR5.rd.ex
      have hxl : xs.length ≤ 10 := by rw [hP4.len, List.length_take]; omega
      have done : ∀ (H' : Hp) (u : Addr) (w9 : Option V), (∀ b o, b ≠ p → b ≠ q → H5 b = some o → H' b = some o) → RSt CR H' p a ns (i + 1 + 2 * j + 1 + 1) → H' q = some (.lst (xs ++ [.ref u])) → Prs H' (xs ++ [.ref u]) (rs.take j ++ [(r.1, r.2)]) →
          ∃ (v7 v8 v9 v10 : Option V) (xs' : List V), [some (.ref p), some (.int (m : Int)), some (.int (n : Int)), some (.int (rs.length : Int)), some (.ref q), some (.int r.1), some (.int r.2), some (.int ((0 : Int) + (j : Int))), some (.int r.1), w9, some (.int r.2)] = [some (.ref p), some (.int (m : Int)), some (.int (n : Int)), some (.int (rs.length : Int)), some (.ref q), some (.int ((((0 : Int), (-1 : Int)) :: rs).getD (j + 1) (0, 0)).1), some (.int ((((0 : Int), (-1 : Int)) :: rs).getD (j + 1) (0, 0)).2), v7, v8, v9, v10] ∧ Kp p H H' ∧ RSt CR H' p a ns (i + 1 + 2 * (j + 1)) ∧ H' q = some (.lst xs') ∧ Prs H' xs' (rs.take (j + 1)) := fun H' u w9 kk hR' eq' hP' => by
        refine ⟨some (.int ((0 : Int) + (j : Int))), some (.int r.1), w9, some (.int r.2), xs ++ [.ref u], by rw [hnx], fun b o nb eb => ?_, ?_, eq', ?_⟩
        · exact kk _ _ nb (ne_of_none eb hqH) (k5 _ _ nb (k4 _ _ nb eb))
        · rw [show i + 1 + 2 * (j + 1) = i + 1 + 2 * j + 1 + 1 by omega]; exact hR'
        · rw [take_more hc]; exact hP'
      refine ⟨_, rfl, _, rfl, rfl, _, rfl, ite2 (fun c => ?_) (fun c => ?_)⟩
      · have c := of_decide_eq_true c
        injection c with c
        have hl2 : l.2 + 1 ≤ r.2 := by
          rcases hlt with h | h
          · omega
          · omega
        refine ⟨_, rfl, _, _, rfl, rfl, ?_⟩
        exact hI _ _ H5 p a q ns (i + 1 + 2 * j + 1) n xs (rs.take j) (l.2 + 1) r.1 r.2 _ _ _ _ _ _ rfl hR5 b2 hz2 hl2 m4 hn6 naq eq5 hP5 hxl (fun H' u kk hR' eq' hP' => done H' u _ kk hR' eq' hP')
      · exact hI _ _ H5 p a q ns (i + 1 + 2 * j + 1) n xs (rs.take j) 0 r.1 r.2 _ _ _ _ _ _ rfl hR5 b2 (by decide) m3 m4 hn6 naq eq5 hP5 hxl (fun H' u kk hR' eq' hP' => done H' u _ kk hR' eq' hP')
    · rintro σ H4 ⟨v7, v8, v9, v10, xs, rfl, k4, hR4, eq4, hP4⟩
      rw [Int.toNat_natCast] at hR4 hP4
      rw [List.take_length] at hP4
      refine ⟨_, rfl, q, _, rfl, .inl ⟨SqL.of eq4, fun u hu => ?_⟩⟩
      have s5 := same_upd (o := .tup xs) hu
      have nup : u ≠ p := fun e => by
        obtain ⟨dx3, e3⟩ := hR4.rd.ex
        rw [e, e3] at hu; cases hu
      refine k _ u xs (k4.trans (sKp s5)) ?_ (k4.free nup hu) upd_same (hP4.mono fun t ys z => s5 _ _ z)
      rw [flat2]
      exact hR4.mono s5
end
end Dk

set_option Elab.async false
set_option linter.all false
set_option maxRecDepth 100000
set_option maxHeartbeats 4000000
namespace Dk
open PySem PySem.Spec PyProof.Rows L2 TL
/-! ### reading any list, with the first invalid place -/
def tkD (ds : List PyData) (i : Nat) (ok : Int → Bool) : Option Int := match ds[i]? with
  | some (.int x) => if ok x = true then some x else none
  | _ => none
def btw (lo hi x : Int) : Bool := decide (lo ≤ x) && decide (x ≤ hi)
def letA (ds : List PyData) : Nat → Nat → List Int → Except Nat (List Int × Nat)
  | 0, i, acc => .ok (acc, i)
  | n + 1, i, acc => match tkD ds i (btw 0 1) with
    | none => .error i
    | some x => letA ds n (i + 1) (acc ++ [x])
def lens8 : List Int := [1, 2, 3, 4, 6, 8, 12, 24]
def letS (x : Int) : Str := if x = 0 then ⟨#[111]⟩ else ⟨#[104]⟩
def tabStr (bs : List Int) : Str := Txt.join Str.empty (bs.map letS)
def carA (ds : List PyData) (hi : Int) : Nat → Nat → Int → List Int → Except Nat (List Int × Nat)
  | 0, i, _, acc => .ok (acc, i)
  | n + 1, i, last, acc => match tkD ds i (btw (last + 1) hi) with
    | none => .error i
    | some x => carA ds hi n (i + 1) x (acc ++ [x])
def prsA (ds : List PyData) (ht hp : Int) : Nat → Nat → Int → Int → List Pr → Except Nat (List Pr × Nat)
  | 0, i, _, _, acc => .ok (acc, i)
  | n + 1, i, lt, lp, acc => match tkD ds i (btw lt ht) with
    | none => .error i
    | some t => match tkD ds (i + 1) (btw (if t = lt then lp + 1 else 0) hp) with
      | none => .error (i + 1)
      | some x => prsA ds ht hp n (i + 2) t x (acc ++ [(t, x)])
/-! ### the error -/
def PlRaised (C : Addr) (E : XK) (H : Hp) (i : Int) : Prop := ∀ (H' : Hp) (d : Addr), Same H H' → H d = none → H' d = some (.xd [("place", .int i)]) → E (.ref C) (some d) H'
theorem PlRaised.mono {C : Addr} {E : XK} {H H1 : Hp} {i : Int} (h : PlRaised C E H i) (s : Same H H1) : PlRaised C E H1 i := fun H' d s2 n e => h H' d (s.trans s2) (s.free n) e
structure TxtPl (K : PySem.W.Frag) (mg : Str → Option Value) (x q : Str) (st : Stmt) (C fI : Addr) (fdI : FuncData) : Prop where
  gC : mg x = some (.ref C)
  O : OexC K C
  iC : PySem.W.findIn K (.ref C) "__init__" = some (some (.ref fI))
  tI : PySem.W.typeIn K (.ref fI) = some (.type "function")
  F : Fun K "__init__" q st fI fdI
  b : Binds K fdI ["self", "place"] []
  nL : PySem.W.findIn K (.ref C) "place" = some none
def spPlInit (C : Addr) : Sp := fun vs H Q _ => ∃ (a : Addr) (i : V), vs = [.ref a, i] ∧ H a = some (exo a C none) ∧
  ∀ d, H d = none → d ≠ a → Q .non (upd (upd H d (exd d [("place", i)])) a (exo a C (some d)))
section
variable {P : Program} {w : World} {K : PySem.W.Frag} {mg : Str → Option Value} {base : Heap} {C fI : Addr} {fdI : FuncData}
theorem scCodeInit : FnScope ["self", "place"] ["self", "place"] (defScope sICInit) := ⟨rfl, rfl, rfl, by decide +kernel, rfl, by decide +kernel, by decide +kernel⟩
theorem ok_icinit (TT : TxtPl K mg "InvalidCode" "InvalidCode.__init__" sICInit C fI fdI) : FnOk P w K mg base CX0 1 fI fdI ["self", "place"] (spPlInit C) := by
  refine TT.F.ok scCodeInit (fun vs H Q E h => ?_) (fun cdv A outer s H vs Q E hr h => ?_)
  · obtain ⟨a, i, rfl, _⟩ := h
    rfl
  · obtain ⟨a, i, rfl, ha, k⟩ := h
    refine ⟨_, pss_one (ps_ost (pv 0) (pv 1)), ?_⟩
    exact ⟨_, rfl, _, rfl, a, C, rfl, TT.O, TT.nL, .inl ⟨ha, fun d hd nd => k d hd nd⟩⟩
theorem raise_pl {H : Hp} {E : XK} {i : Int} (k : PlRaised C E H i) :
    ([V.int i] : List V).length ≤ 1000 ∧ ∀ a, H a = none → spPlInit C (.ref a :: ([V.int i] ++ [])) (upd H a (exo a C none))
      (fun v H2 => v = .non ∧ ∃ (d : Addr) (fs : List (Str × V)), H2 a = some (exo a C (some d)) ∧ H2 d = some (exd d fs) ∧ H d = none ∧ E (.ref C) (some d) (upd (del H2 a) d (.xd fs))) (fun _ _ _ => False) := by
  refine ⟨by simp, fun a hn => ⟨a, V.int i, rfl, upd_same, fun d hd nd => ⟨rfl, d, [("place", V.int i)], upd_same, ?_, ?_, ?_⟩⟩⟩
  · rw [upd_ne nd]; exact upd_same
  · rw [upd_ne nd] at hd; exact hd
  · rw [upd_ne nd] at hd
    refine k _ d (fun b o e => ?_) hd upd_same
    have nb : b ≠ a := ne_of_none e hn
    have nd' : b ≠ d := ne_of_none e hd
    rw [upd_ne nd', del_ne nb, upd_ne nb, upd_ne nd', upd_ne nb]
    exact e
end
end Dk

set_option Elab.async false
set_option linter.all false
set_option maxRecDepth 100000
set_option maxHeartbeats 4000000
namespace Dk
open PySem PySem.Spec PyProof.Rows L2 TL
/-- a reader at p of the list at a, whose items read as ds since H0 -/
structure RX (K : PySem.W.Frag) (CR : Addr) (H0 : Hp) (p a : Addr) (vs : List V) (ds : List PyData) (H : Hp) (i : Nat) : Prop where
  n : H0 p = none
  s : Same H0 H
  rd : RdAt CR H p a i
  ls : H0 a = some (.lst vs)
  dp : DpAll K H0 vs ds
theorem RX.kp {K : PySem.W.Frag} {CR : Addr} {H0 H H' : Hp} {p a : Addr} {vs : List V} {ds : List PyData} {i j : Nat} (h : RX K CR H0 p a vs ds H i) (k : Kp p H H') (r : RdAt CR H' p a j) : RX K CR H0 p a vs ds H' j :=
  ⟨h.n, fun b o e => k b o (ne_of_none e h.n) (h.s b o e), r, h.ls, h.dp⟩
theorem RX.mono {K : PySem.W.Frag} {CR : Addr} {H0 H H' : Hp} {p a : Addr} {vs : List V} {ds : List PyData} {i : Nat} (h : RX K CR H0 p a vs ds H i) (s : Same H H') : RX K CR H0 p a vs ds H' i := by
  obtain ⟨dx, e⟩ := h.rd.ex
  exact ⟨h.n, h.s.trans s, ⟨dx, s _ _ e⟩, h.ls, h.dp⟩
theorem RX.put {K : PySem.W.Frag} {CR : Addr} {H0 H : Hp} {p a q : Addr} {vs : List V} {ds : List PyData} {i : Nat} {o : HO} (h : RX K CR H0 p a vs ds H i) (n0 : H0 q = none) (n1 : p ≠ q) : RX K CR H0 p a vs ds (upd H q o) i := by
  obtain ⟨dx, e⟩ := h.rd.ex
  exact ⟨h.n, fun b u e => by rw [upd_ne (ne_of_none e n0)]; exact h.s b u e, ⟨dx, by rw [upd_ne n1]; exact e⟩, h.ls, h.dp⟩
def spTakeX (K : PySem.W.Frag) (CR CC : Addr) : Sp := fun xs H Q E => ∃ (H0 : Hp) (p a al : Addr) (i : Nat) (vs : List V) (ds : List PyData) (as : List Int) (ok : Int → Bool), xs = [.ref p, .ref al] ∧ RX K CR H0 p a vs ds H i ∧ i ≤ ds.length ∧ (SqL K H al (as.map V.int) ∨ SqT K H al (as.map V.int)) ∧ (∀ x, ok x = decide (x ∈ as)) ∧
  (∀ x, tkD ds i ok = some x → ∀ H', Kp p H H' → RX K CR H0 p a vs ds H' (i + 1) → Q (.int x) H') ∧ (tkD ds i ok = none → PlRaised CC E H0 (i : Int))
def spTakeBX (K : PySem.W.Frag) (CR CC : Addr) : Sp := fun xs H Q E => ∃ (H0 : Hp) (p a : Addr) (lo hi : Int) (i : Nat) (vs : List V) (ds : List PyData), xs = [.ref p, .int lo, .int hi] ∧ RX K CR H0 p a vs ds H i ∧ i ≤ ds.length ∧ 0 ≤ lo ∧ lo ≤ 1000 ∧ -1 ≤ hi ∧ hi ≤ 1000 ∧
  (∀ x, tkD ds i (btw lo hi) = some x → ∀ H', Kp p H H' → RX K CR H0 p a vs ds H' (i + 1) → Q (.int x) H') ∧ (tkD ds i (btw lo hi) = none → PlRaised CC E H0 (i : Int))
section
variable {P : Program} {w : World} {K : PySem.W.Frag} {mg : Str → Option Value} {base : Heap} {CR fRI fTk fTB : Addr} {fdRI fdTk fdTB : FuncData} {fII fIB fHO : Addr} {fdII fdIB fdHO : FuncData} {CC fCI : Addr} {fdCI : FuncData}
theorem ok_takeX (R : TxtRd K mg CR fRI fTk fTB fdRI fdTk fdTB) (TF : TxtF K mg fII fIB fHO fdII fdIB fdHO) (T : TxtA mg) (TC : TxtPl K mg "InvalidCode" "InvalidCode.__init__" sICInit CC fCI fdCI) : FnOk P w K mg base (L2.CX P w) 3 fTk fdTk ["self", "allowed"] (spTakeX K CR CC) := by
  have GI : FnOk P w K mg base CX0 1 fII fdII ["value"] (spIsInt K) := ok_isint TF
  have GC : FnOk P w K mg base CX0 1 fCI fdCI ["self", "place"] (spPlInit CC) := ok_icinit TC
  refine R.FTk.okX scTakeR (fun vs H Q E h => ?_) (fun cdv A outer s H vs Q E hr h => ?_)
  · obtain ⟨H0, p, a, al, i, vs, ds, as, ok, rfl, _⟩ := h
    rfl
  · obtain ⟨H0, p, a, al, i, vs, ds, as, ok, rfl, hR, hi, hA, hok, k, kx⟩ := h
    obtain ⟨dx, e1⟩ := hR.rd.ex
    have hS : SqL K H a vs := SqL.of (hR.s _ _ hR.ls)
    have hlen := dpAll_len hR.dp
    have hr1 : Room 1 (A.deeper (envOfC (Str.ofString "Reader.take") (defScope sTakeR) s.heap.objs.size fTk cdv)) := hr.mono (by decide)
    refine ⟨_, pss_cons (ps_if (pt_cmpR op_eq (pe_fld (pv 0) rfl) (pe_callB call_len_seq (by rfl) T.len PySem.boot_len (pa_cons (pe_fld (pv 0) rfl) pa_nil)) (nomark _))
          (pss_one (ps_raise rfl (takes_of rfl rfl rfl rfl) (pmk_oex TC.O TC.iC TC.tI GC hr TC.b .nil pass0 rfl TC.gC (pa_cons (pe_fld (pv 0) rfl) pa_nil)))) pss_nil)
      (pss_cons (ps_set (i := 2) scTakeR.nd rfl (.inl rfl) (pe_ix ix_list (pe_fld (pv 0) rfl) (pe_fld (pv 0) rfl) (fun _ _ => rfl)))
      (pss_cons (ps_if (PW.pt (pw_or (pt_not (pt_val (pe_call GI hr1 rfl TF.gII TF.FII.kp TF.bII .nil pass0 (pa_cons (pv 2) pa_nil)))) (pw_or1 (pt_cmpR op_notIn_seq (pv 2) (pv 1) (by rfl)))))
          (pss_one (ps_raise rfl (takes_of rfl rfl rfl rfl) (pmk_oex TC.O TC.iC TC.tI GC hr TC.b .nil pass0 rfl TC.gC (pa_cons (pe_fld (pv 0) rfl) pa_nil)))) pss_nil)
      (pss_cons (ps_fldaug (pv 0) pe_int in_add) (pss_one (ps_ret (pv 2)))))), ?_⟩
    refine ⟨_, rfl, p, CR, dx, _, _, rfl, e1, R.cl, R.nP, rF_place _ _, _, rfl, p, CR, dx, _, _, rfl, e1, R.cl, R.nC, rF_code _ _, a, _, rfl, .inl hS, ?_⟩
    rw [hlen]
    refine ⟨rfl, _, rfl, ite2 (fun c => ?_) (fun c => ?_)⟩
    · have c := of_decide_eq_true c
      injection c with c
      have ci : i = ds.length := by omega
      refine ⟨_, rfl, p, CR, dx, _, _, rfl, e1, R.cl, R.nP, rF_place _ _, raise_pl (PlRaised.mono (kx ?_) hR.s)⟩
      unfold tkD
      rw [ci, List.getElem?_eq_none (Nat.le_refl _)]
    have ci : i < ds.length := by
      rcases Nat.lt_or_ge i ds.length with z | z
      · exact z
      · exact absurd (decide_eq_true (congrArg V.int (by omega : (i : Int) = ((ds.length : Nat) : Int)))) c
    obtain ⟨v, hv⟩ : ∃ v, vs[i]? = some v := ⟨_, List.getElem?_eq_getElem (by omega)⟩
    obtain ⟨d, hd, hdp⟩ := dpAll_get hR.dp hv
    refine ⟨_, rfl, p, CR, dx, _, _, rfl, e1, R.cl, R.nC, rF_code _ _, _, rfl, p, CR, dx, _, _, rfl, e1, R.cl, R.nP, rF_place _ _, a, _, (i : Int), v, rfl, rfl, hS, atI_nat hv, ?_⟩
    refine ⟨_, rfl, v, d, rfl, dpSame hR.s _ _ hdp, _, rfl, ?_⟩
    cases hdp with
    | int x =>
      refine iteF ⟨_, rfl, _, rfl, al, _, rfl, hA, rfl, all_flatI _, _, rfl, ?_⟩
      show (if (!inV (.int x) (as.map V.int)) = true then _ else _)
      rw [any_eqI]
      have et : tkD ds i ok = if ok x = true then some x else none := by unfold tkD; rw [hd]
      by_cases m : x ∈ as
      · rw [decide_eq_true m]
        rw [hok, decide_eq_true m] at et
        refine iteF ⟨_, rfl, p, CR, dx, _, .int (i : Int), rfl, e1, R.cl, R.nP, rF_place _ _, _, _, rfl, rfl, dx, _, e1, by show 2 < 1000; decide, ?_⟩
        rw [putF_place]
        exact ⟨_, rfl, k x et _ kp_upd (hR.kp kp_upd ⟨dx, by rw [upd_same]; rfl⟩)⟩
      · rw [decide_eq_false m]
        rw [hok, decide_eq_false m] at et
        exact iteT ⟨_, rfl, p, CR, dx, _, _, rfl, e1, R.cl, R.nP, rF_place _ _, raise_pl (PlRaised.mono (kx et) hR.s)⟩
    | non => exact iteT ⟨_, rfl, p, CR, dx, _, _, rfl, e1, R.cl, R.nP, rF_place _ _, raise_pl (PlRaised.mono (kx (by unfold tkD; rw [hd])) hR.s)⟩
    | bl b => exact iteT ⟨_, rfl, p, CR, dx, _, _, rfl, e1, R.cl, R.nP, rF_place _ _, raise_pl (PlRaised.mono (kx (by unfold tkD; rw [hd])) hR.s)⟩
    | str b => exact iteT ⟨_, rfl, p, CR, dx, _, _, rfl, e1, R.cl, R.nP, rF_place _ _, raise_pl (PlRaised.mono (kx (by unfold tkD; rw [hd])) hR.s)⟩
    | lst h1 h2 => exact iteT ⟨_, rfl, p, CR, dx, _, _, rfl, e1, R.cl, R.nP, rF_place _ _, raise_pl (PlRaised.mono (kx (by unfold tkD; rw [hd])) hR.s)⟩
    | tup h1 h2 => exact iteT ⟨_, rfl, p, CR, dx, _, _, rfl, e1, R.cl, R.nP, rF_place _ _, raise_pl (PlRaised.mono (kx (by unfold tkD; rw [hd])) hR.s)⟩
theorem ok_takeBX (R : TxtRd K mg CR fRI fTk fTB fdRI fdTk fdTB) (TF : TxtF K mg fII fIB fHO fdII fdIB fdHO) (T : TxtA mg) (TC : TxtPl K mg "InvalidCode" "InvalidCode.__init__" sICInit CC fCI fdCI) : FnOk P w K mg base (L2.CX P w) 4 fTB fdTB ["self", "low", "high"] (spTakeBX K CR CC) := by
  have GT : FnOk P w K mg base (L2.CX P w) 3 fTk fdTk ["self", "allowed"] (spTakeX K CR CC) := ok_takeX R TF T TC
  refine R.FTB.okX scTakeB (fun vs H Q E h => ?_) (fun cdv A outer s H vs Q E hr h => ?_)
  · obtain ⟨H0, p, a, lo, hi, i, vs, ds, rfl, _⟩ := h
    rfl
  · obtain ⟨H0, p, a, lo, hi, i, vs, ds, rfl, hR, hi', h3, h4, h5, h6, k, kx⟩ := h
    obtain ⟨dx, e1⟩ := hR.rd.ex
    refine ⟨_, pss_one (ps_ret (pe_meth (pv 0) R.cl R.mTk GT hr R.bTk .nil (passes_call (takes_of rfl rfl rfl rfl) (fun _ _ _ _ h => h)) (pa_cons (pe_listRg rfl (by rfl) R.list (prg_2 (by rfl) T.range (pv 1) (pe_op op_add (pv 2) pe_int))) pa_nil))), ?_⟩
    refine ⟨_, rfl, p, dx, _, rfl, e1, by rfl, _, rfl, _, rfl, _, _, rfl, rfl, lo, hi + 1, rfl, rfl, RgOk.of_le h3 (by omega) (by omega) (by omega), fun q hq => ?_⟩
    have s1 := same_upd (o := .lst (rgV lo (hi + 1))) hq
    refine ⟨H0, p, a, q, i, vs, ds, (List.range (hi + 1 - lo).toNat).map fun i : Nat => lo + (i : Int), btw lo hi, rfl, hR.mono s1, hi', .inl (by rw [← rgV_ints]; exact SqL.of upd_same), fun x => ?_, fun x e H' k' r' => k x e H' ((sKp s1).trans k') r', kx⟩
    unfold btw
    rw [Bool.eq_iff_iff, Bool.and_eq_true, decide_eq_true_iff, decide_eq_true_iff, decide_eq_true_iff]
    constructor
    · rintro ⟨z1, z2⟩
      exact List.mem_map.mpr ⟨(x - lo).toNat, List.mem_range.mpr (by omega), by omega⟩
    · intro z
      obtain ⟨n, hn, rfl⟩ := List.mem_map.mp z
      have := List.mem_range.mp hn
      omega
end
end Dk

set_option Elab.async false
set_option linter.all false
set_option autoImplicit false
set_option maxRecDepth 100000
set_option maxHeartbeats 4000000
/-! a list comprehension whose element may raise -/
namespace L2
open PySem PySem.Spec PyProof.Rows
section
variable {A : Around} {M : Model} {env : Env} {E : Value → Shared → Prop} {s : Shared}
def lxPost (M : Model) (A : Around) (E : Value → Shared → Prop) (use : Option (Value → Sem Unit)) (Q : Value → Shared → Prop) (acc : Value) (cenv : Env) (r : Result) (t : Shared) : Prop :=
  match r, use with
  | .ok _, none => ∃ m, t.heap.Ns cenv.locals m ∧ ∀ g, Heap.SameBut cenv.locals t.heap g → Q acc { t with heap := g }
  | .ok _, some u => wpAny M A (u acc) (fun _ t2 => ∃ m, t2.heap.Ns cenv.locals m ∧ ∀ g, Heap.SameBut cenv.locals t2.heap g → Q .none { t2 with heap := g }) E t
  | .error x, _ => ∃ m, t.heap.Ns cenv.locals m ∧ ∀ g, Heap.SameBut cenv.locals t.heap g → ∀ ev : Env, ev.frame = cenv.frame → wpAny M A (passOn "comprehension.variables-let-go" x ev : Sem Value) (fun _ _ => False) E { t with heap := g }
theorem lx_any {e : Expr} {scope : Scope} {pos : Pos} {newAcc first : Sem Value} {g : Comprehension} {gs : List Comprehension} {cl : List (Str × Addr)} {use : Option (Value → Sem Unit)} {Q : Value → Shared → Prop}
    (hcl : clausesOf e = g :: gs) (hs : ∀ x, foldedSetIterable g.iter env x = pure x) (hclos : closureFor scope env = pure cl) (hkind : scope.kind = .function) (hnames : ∀ x ∈ scope.names, x.2 = .local → scope.names.lookup x.1 = some .local)
    (h : wpAny M A first (fun x s₁ => wpAny M A (pyIter x) (fun it s₂ => wpAny M A newAcc (fun acc s₃ => wpAny M A (newFunctionEnv scope env.globals cl [] env.qual none .none (some env)) (fun cenv s₄ =>
        codeAny M A (.compStart e 0 it acc { cenv with scope := relabel scope env }) (lxPost M A E use Q acc cenv) s₄) E s₃) E s₂) E s₁) E s) : wpAny M A (comprehension e scope env pos newAcc false first use) Q E s := by
  unfold comprehension
  rw [hclos, hcl]
  have go {α β : Type} {m : Sem α} {k : α → Sem β} {R : α → Shared → Prop} {Z : β → Shared → Prop} {t : Shared} (a : wpAny M A m R E t) (b : ∀ x t', R x t' → wpAny M A (k x) Z E t') : wpAny M A (m >>= k) Z E t := wpAny_bind (wpAny_mono a b fun _ _ q => q)
  refine go h fun x t1 h1 => wpAny_bind (wpAny_standAt (wpAny_bind (wpAny_of_eq (hs x) (wpAny_bind (wpAny_holding (wpAny_mono h1 (fun it t2 h2 => wpAny_standIf (go h2 fun acc t3 h3 =>
    wpAny_bind (wpAny_pure (go h3 fun cenv t4 h4 => ?_)))) fun _ _ q => q))))))
  dsimp only
  have own : ∀ y ∈ (scope.names.filter fun y => (y.2 == .local || y.2 == .cell) && y.1 != (".0" : Str)).reverse, y.2 = .local → Env.kindOf { cenv with scope := relabel scope env } y.1 = some .local :=
    fun y hy hl => lookup_relabel_local (hnames y (List.mem_filter.mp (List.mem_reverse.mp hy)).1 hl)
  have own2 : ∀ y ∈ (scope.names.filter fun y => (y.2 == .local || y.2 == .cell) && y.1 != (".0" : Str)).reverse.drop 1 ++ (scope.names.filter fun y => (y.2 == .local || y.2 == .cell) && y.1 != (".0" : Str)).reverse.take 1,
      y.2 = .local → Env.kindOf { cenv with scope := relabel scope env } y.1 = some .local := fun y hy hl => (List.mem_append.mp hy).elim (fun z => own y (List.mem_of_mem_drop z) hl) fun z => own y (List.mem_of_mem_take z) hl
  refine wpAny_holding (wpAny_bind (wpAny_attempt (wpAny_holding (wpAny_run (codeAny_mono h4 fun r t hr => ?_)))))
  cases r with
  | ok f =>
    cases use with
    | none =>
      obtain ⟨m, hn, k⟩ := hr
      exact wpAny_bind (wpAny_holding (wpAny_comp_letGo (cenv := { cenv with scope := relabel scope env }) hkind _ t m own hn fun g _ _ sb => wpAny_pure (k g sb)))
    | some u =>
      refine wpAny_bind (wpAny_rule (wpAny_bind (wpAny_holding (wpAny_mono hr (fun _ t2 hr2 => ?_) fun _ _ q => q))))
      obtain ⟨m, hn, k⟩ := hr2
      exact wpAny_bind (wpAny_comp_letGo (cenv := { cenv with scope := relabel scope env }) hkind _ t2 m own2 hn fun g _ _ sb => wpAny_pure (k g sb))
  | error x =>
    have hx : ∃ m, t.heap.Ns cenv.locals m ∧ ∀ g, Heap.SameBut cenv.locals t.heap g → ∀ ev : Env, ev.frame = cenv.frame → wpAny M A (passOn "comprehension.variables-let-go" x ev : Sem Value) (fun _ _ => False) E { t with heap := g } := by cases use <;> exact hr
    obtain ⟨m, hn, k⟩ := hx
    exact wpAny_bind (wpAny_holding (wpAny_comp_letGo (cenv := { cenv with scope := relabel scope env }) hkind _ t m own hn fun g _ _ sb => wpAny_mono (k g sb _ rfl) (fun _ _ z => z.elim) fun _ _ q => q))
end
end L2

set_option Elab.async false
set_option linter.all false
set_option autoImplicit false
set_option maxRecDepth 100000
set_option maxHeartbeats 4000000
namespace L2
open PySem PySem.Spec PyProof.Rows
/-- what is told of a heap without C, told again -/
theorem hok_less {P : Program} {w : World} {H : Hp} {B B' : Heap} {C : Addr} (k : HOk P w H B) (n : H C = none) (e : ∀ b o, b ≠ C → B.get? b = some o → B'.get? b = some o) : HOk P w H B' := fun b o q =>
  (k b o q).stay (fun c u hc r => e c u (fun z => by
    subst z
    rcases hc with z | z
    · rw [← z, n] at q; cases q
    · rw [n] at z; cases z) r) (fun _ r => r) fun _ _ r => r
theorem traced_less {h h' B B' : Heap} {e C : Addr} {Z : Obj → Prop} {fl : Value} (t : HandSPX.TracedZ h B e Z fl) (ne : B.get? e = none) (c : ∃ o, B.get? C = some o) (k : ∀ b, b ≠ C → h'.get? b = h.get? b) (m : ∀ b, B.get? b = none → B'.get? b = none) : HandSPX.TracedZ h' B' e Z fl := by
  obtain ⟨oe, vs, T, oT, ts, a1, a2, a3, a4, a5, a6, a7, a8, a9⟩ := t
  obtain ⟨oc, hc⟩ := c
  refine ⟨oe, vs, T, oT, ts, (k e fun z => ?_).trans a1, a2, a3, a4, m _ a5, a6, (k T fun z => ?_).trans a7, a8, a9⟩
  · rw [z, hc] at ne; cases ne
  · rw [z, hc] at a5; cases a5
theorem frames_less {h h' B : Heap} {C : Addr} {oC : Obj} : ∀ {l : List Env}, h.FunFrames B l → B.get? C = some oC → (∀ b, b ≠ C → h'.get? b = h.get? b) → h'.FunFrames B l
  | [], _, _, _ => trivial
  | env :: l, ⟨k, ⟨L, o, a1, a2, a3, a4⟩, r⟩, c, e => ⟨k, ⟨L, o, a1, a2, (e L fun z => by rw [z, c] at a2; cases a2).trans a3, a4⟩, frames_less r c e⟩
section
variable {X : Cx} {W : WX}
/-- what is held in hand is in our air -/
theorem XE.of_held {pins : List (Addr × Obj)} {σ : St} {H H' : Hp} {s s' : Shared} {a : Addr} {B : Heap} {cls : Value} {d : Option Addr} (I : Inv X pins σ H s) (hs : X.stack = X.env :: X.outer) (hd : HandSPX.HeldZ B X.stack a (Zc cls d) X.env.locals s'.heap)
    (hok : HOk X.prog X.w H' B) (ub : UB (frs X.stack) H H' s.heap B s'.heap) (na : H' a = none) (os : s'.os = s.os) (ag : AllBare s'.gens) (w : W cls d σ H') : XE X W (.ref a) s' := by
  obtain ⟨G, g1, g2⟩ := restrict s'.heap fun c => (B.get? c).isSome || decide (c ∈ frs X.stack)
  have inB : ∀ b o, B.get? b = some o → G.get? b = some o := fun b o q => (g1 b (by rw [q]; rfl)).trans (hd.1 b o q)
  have inF : ∀ b, b ∈ frs X.stack → G.get? b = s'.heap.get? b := fun b q => g1 b (by rw [decide_eq_true q, Bool.or_true])
  have out : ∀ b o, G.get? b = some o → s'.heap.get? b = some o ∧ (b ∈ frs X.stack ∨ B.get? b = some o) := fun b o q => by
    cases z : ((B.get? b).isSome || decide (b ∈ frs X.stack)) with
    | false => rw [g2 b z] at q; cases q
    | true =>
      have q' := q
      rw [g1 b z] at q
      refine ⟨q, ?_⟩
      rcases Bool.or_eq_true_iff.mp z with z | z
      · obtain ⟨o', r⟩ := Option.isSome_iff_exists.mp z
        rw [inB b o' r] at q'
        exact .inr (by rw [r]; exact q')
      · exact .inl (of_decide_eq_true z)
  refine ⟨a, B, { s with heap := G, gens := s'.gens, drawn := s'.drawn, toks := s'.toks }, pins, σ, H', cls, d, rfl, ?_, fun b o q nb => ?_, Heap.UpToSlots.of_keeps fun b o q => (out b o q).1, .inr (.inr hd), na, os, ag, w⟩
  · refine I.call (ch := []) ⟨fun b o q n nb _ => inB b o (ub.keep b o q n nb), fun b o q n hb _ => ?_, fun b o q n _ => ub.free b o q n, fun b o q _ => ?_, ub.tups, ub.frzs, ub.tbls⟩ (hok.kept inB) ag (fun _ z => nomatch z)
    · obtain ⟨sl, r⟩ := ub.slot b o q hb
      exact ⟨sl, (inF b hb).trans r⟩
    · by_cases inS : b ∈ frs X.stack
      · obtain ⟨sl, r⟩ := ub.slot b o q inS
        exact ⟨_, (inF b inS).trans r⟩
      · obtain ⟨o', r⟩ := ub.there b o q inS
        exact ⟨o', inB b o' r⟩
  · rcases (out b o q).2 with z | z
    · exact absurd z nb
    · exact z
/-- an error out of the block: noted, the block's names let go, in the def's air -/
theorem lx_out {pins : List (Addr × Obj)} {σ : St} {H : Hp} {s s' : Shared} {u acc : Value} {C : Addr} {m : Str → Option Value} {ce ne : Env} {use : Option (Value → Sem Unit)} {Q : Value → Shared → Prop}
    (hs : X.stack = X.env :: X.outer) (hf : X.env.frame = some X.env.locals) (tk : Takes X W) (I : Inv X pins σ H s) (fC : FpOk X pins H C) (hn : s.heap.Ns C m) (hl : ce.locals = C) (hfr : ce.frame = X.env.frame) (hfn : ne.frame = X.env.frame)
    (c : CX X.prog X.w X.stack H s (fun cls d H' => W cls d σ H') u s') :
    notedBy (model X.prog X.w) X.A ne (fun e t => lxPost (model X.prog X.w) X.A X.xe use Q acc ce (.error e) t) u s' := by
  obtain ⟨a, B, H', cls, d, rfl, fl, hok, ub, na, os, ag, w⟩ := c
  have hA : X.A.frames = some (X.env :: X.outer) := by rw [I.ok.frames, hs]
  have nFr : C ∉ frs X.stack := fun z => by
    rcases List.mem_cons.mp (I.stkSub C z) with z | z
    · exact fC.2.1 z
    · exact fC.2.2.1 z
  obtain ⟨oC, es, ep, gC, rest⟩ := hn
  have bC : B.get? C = some oC := ub.keep C oC gC fC.1 nFr
  have nC : H' C = none := ub.free C oC gC fC.1
  have nea : a ≠ C := fun z => by have := fl.2.1; rw [z, bC] at this; cases this
  unfold notedBy
  have en : noteFrame (.ref a) ne = noteFrame (.ref a) X.env := by unfold noteFrame PySem.frameOf; rw [hfn]
  rw [en]
  rw [hs] at fl
  refine HandSPX.looks_onZ Zc.steady hA hf fl fun h1 hh up => ?_
  have hxx : lxPost (model X.prog X.w) X.A X.xe use Q acc ce (.error (.ref a)) { s' with heap := h1 } ↔ ∃ m, h1.Ns ce.locals m ∧ ∀ g, Heap.SameBut ce.locals h1 g → ∀ ev : Env, ev.frame = ce.frame → wpAny (model X.prog X.w) X.A (passOn "comprehension.variables-let-go" (.ref a) ev : Sem Value) (fun _ _ => False) X.xe { s' with heap := g } := by
    cases use <;> exact Iff.rfl
  refine hxx.mpr ⟨m, ?_, fun g sb ev he => ?_⟩
  · rw [hl]; exact ⟨oC, es, ep, hh.1 C oC bC, rest⟩
  rw [hl] at sb
  -- the ground without the block's names
  obtain ⟨B', b1, b2⟩ := restrict B fun b => decide (b ≠ C)
  have inB : ∀ b o, B'.get? b = some o → b ≠ C ∧ B.get? b = some o := fun b o q => by
    by_cases z : b = C
    · rw [b2 b (decide_eq_false fun n => n z)] at q; cases q
    · rw [b1 b (decide_eq_true z)] at q; exact ⟨z, q⟩
  have toB : ∀ b o, b ≠ C → B.get? b = some o → B'.get? b = some o := fun b o z q => (b1 b (decide_eq_true z)).trans q
  have noB : ∀ b, B.get? b = none → B'.get? b = none := fun b q => by
    cases r : B'.get? b with
    | none => rfl
    | some o => rw [(inB b o r).2] at q; cases q
  have frB : ∀ b, b ∈ frs X.stack → B.get? b = none ∧ b ≠ C := fun b z => by
    rw [hs] at z
    have q := (hh.2.2.1.mem z).1
    exact ⟨q, fun y => by rw [y, bC] at q; cases q⟩
  have ff : g.FunFrames B' (X.env :: X.outer) := by
    have g2 : g.FunFrames B (X.env :: X.outer) := frames_less hh.2.2.1 bC sb.2
    exact funFrames_none g2 fun b z => noB b ((g2.mem z).1)
  have hh2 : HandSPX.HeldZ B' (X.env :: X.outer) a (Zc cls d) X.env.locals g := ⟨fun b o q => (sb.2 b (inB b o q).1).trans (hh.1 b o (inB b o q).2), noB a hh.2.1, ff, traced_less hh.2.2.2 hh.2.1 ⟨oC, bC⟩ sb.2 noB⟩
  obtain ⟨oe, vs, T, oT, ts, he1, hz, hd, h1', hr⟩ := id hh2.2.2.2
  obtain ⟨G, k1, k2⟩ := restrict s.heap fun b => decide (b ≠ C)
  have J : Inv X pins σ H { s with heap := G, toks := s.toks } := I.turned (it := C) (fun b o z q => (k1 b (decide_eq_true z)).trans q) fC.1 fC.2.1 fC.2.2.2.1 fC.2.2.2.2.1 fC.2.2.2.2.2
  have inG : ∀ b o, G.get? b = some o → b ≠ C ∧ s.heap.get? b = some o := fun b o q => by
    by_cases z : b = C
    · rw [k2 b (decide_eq_false fun n => n z)] at q; cases q
    · rw [k1 b (decide_eq_true z)] at q; exact ⟨z, q⟩
  unfold PySem.passOn
  refine wpAny_bind (wpAny_field he1 hd h1' ?_)
  rw [if_neg (by simp : ¬ ((Value.ref T == Value.none) = true))]
  have fin : wpAny (model X.prog X.w) X.A (setFlight (.ref a) ev.frame) (fun _ t => wpAny (model X.prog X.w) X.A (throw (.ref a) : Sem Value) (fun _ _ => False) X.xe t) X.xe { s' with heap := g } := by
    rw [he, hfr, hf]
    refine HandSPX.setFlight_onZ hh2 fun h4 hh4 up4 => wpAny_throw (tk _ _ ?_)
    refine XE.of_held (B := B') (H := H) (H' := H') J hs (by rw [hs]; exact hh4) (hok_less hok nC toB) ⟨fun b o q n nb => ?_, fun b o q hb => ?_, fun b o q n => ub.free b o (inG b o q).2 n, fun b o q nb => ?_, ub.tups, ub.frzs, ub.tbls⟩ na os ag w
    · exact toB b o (inG b o q).1 (ub.keep b o (inG b o q).2 n nb)
    · obtain ⟨sl, r⟩ := ub.slot b o (inG b o q).2 hb
      have hb' : b ∈ (X.env :: X.outer).filterMap (·.frame) := by rw [hs] at hb; exact hb
      obtain ⟨_, o1, r1, nf1⟩ := fl.2.2.1.mem hb'
      rw [r] at r1; cases r1
      obtain ⟨sl2, r2⟩ := up b _ r nf1
      have r3 : g.get? b = some _ := (sb.2 b (inG b o q).1).trans r2
      obtain ⟨sl4, r4⟩ := up4 b _ r3 nf1
      exact ⟨sl4, r4⟩
    · obtain ⟨o', r⟩ := ub.there b o (inG b o q).2 nb
      exact ⟨o', toB b o' (inG b o q).1 r⟩
  first
    | exact wpAny_bind fin
    | exact wpAny_bind (wpAny_pure (wpAny_bind fin)) -- or with a pure step before
end
end L2

set_option Elab.async false
set_option linter.all false
set_option autoImplicit false
set_option maxRecDepth 100000
set_option maxHeartbeats 4000000
namespace L2
open PySem PySem.Spec PyProof.Rows
section
variable {X : Cx} {W : WX}
abbrev Cx.blx (X : Cx) (s : Shared) (H : Hp) (scope : Scope) (cenv : Env) (fp : List Addr) (xe : Value → Shared → Prop) : Cx := (X.blk s H scope cenv fp).wish xe
theorem lx_core {pins : List (Addr × Obj)} {s : Shared} {σ : St} {H : Hp} {Q : VK} {elt tg iter : Expr} {ifs : List Expr} {scope : Scope} {own : List (Str × Nat)} {pos pos' : Pos} {wi : TI} {g : TG} {tt : TT} {te : XK → TE} {use : Option (Value → Sem Unit)} {Qf : Value → Shared → Prop}
    (hst : X.stack = X.env :: X.outer) (hfm : X.env.frame = some X.env.locals) (tk : Takes X W) (hc : X.calm = true) (hN : X.N.Nodup) (I : Inv X pins σ H s) (hi : PI X tg iter wi) (ok : BlkOk X.N X.env.scope scope own)
    (hg : ∀ (t : Shared) (G : Hp) (C : Addr) (cl : List (Str × Addr)) (fp : List Addr), PG (X.blk t G scope (compEnvC scope cl C X.env) fp) tg g) (ht : ∀ (t : Shared) (G : Hp) (C : Addr) (cl : List (Str × Addr)) (fp : List Addr), PTs (X.blk t G scope (compEnvC scope cl C X.env) fp) ifs tt)
    (he : ∀ (t : Shared) (G : Hp) (C : Addr) (cl : List (Str × Addr)) (fp : List Addr) (xe : Value → Shared → Prop) (E : XK), Passes (CX X.prog X.w) (X.blx t G scope (compEnvC scope cl C X.env) fp xe) E → PE (X.blx t G scope (compEnvC scope cl C X.env) fp xe) elt (te E)) (hs : ∀ x, foldedSetIterable iter X.env x = pure x)
    (h : tLc wi g tt (te fun c d G => W c d σ G) (own.map (·.2)) σ H Q)
    (hRR : ∀ D ce s' m G, Inv X pins σ G s' → Q (.ref D) G → s'.heap.Ns ce.locals m → FpOk X pins G ce.locals → lxPost (model X.prog X.w) X.A X.xe use Qf (.ref D) ce (.ok .next) s') : wpAny (model X.prog X.w) X.A (comprehension (.ListComp elt [⟨tg, iter, ifs, 0⟩] scope pos) scope X.env pos' (newList []) false (eval iter X.env) use) Qf X.xe s := by
  refine lx_any (use := use) rfl hs (closure_ok fun y hy e => (ok.free y hy e).elim (fun k => I.ok.has _ (.inl k)) fun k => I.ok.has _ (.inr k)) ok.kind (fun y hy e => (ok.uniq y hy).trans (congrArg some e))
    (thn (hi.run pins s σ H _ I h) fun _ _ q => thn q fun itv t2 q2 => ?_)
  obtain ⟨it, fp, tn, J, G2, e, I2, T, st2, f2, q⟩ := q2
  subst e
  refine wpAny_newObj_type (newEnv_comp ?_) (show 0 ≤ sizeLine by decide)
  generalize hD : t2.heap.objs.size = D
  obtain ⟨V, ⟨m0, v0⟩, turn⟩ := q D (I2.hok.fresh (Nat.le_of_eq hD))
  generalize ht3 : ({ t2 with heap := t2.heap.push { cls := .type "list", data := .seq ([] : List Value).toArray } } : Shared) = t3
  have I3 : Inv X pins σ (upd G2 D (.lst [])) t3 := by
    rw [← ht3]
    refine I2.laid (t' := t2.toks) (fun b o z => Heap.get?_push_of_some _ z) (Nat.le_of_eq hD) ⟨Nat.zero_le _, [], 0, .nil, ?_⟩
    rw [← hD]; exact Heap.get?_push_size _ rfl
  have p3 : t3.heap = t2.heap.push { cls := .type "list", data := .seq ([] : List Value).toArray } := by rw [← ht3]
  have low : ∀ b ∈ fp, b < t2.heap.objs.size := fun b z => Heap.lt_size (T.obj _ _ st2 b z).choose_spec.1
  have f3 : ∀ b ∈ fp, FpOk X pins (upd G2 D (.lst [])) b ∧ b < t3.heap.objs.size := fun b z => by
    have lt := low b z
    refine ⟨⟨(upd_ne (show b ≠ D by rw [← hD]; exact Nat.ne_of_lt lt)).trans (f2 b z).1, (f2 b z).2⟩, ?_⟩
    rw [p3, Heap.size_push]; exact Nat.lt_succ_of_lt lt
  have st3 : tn 0 t3.heap := T.keep _ _ _ st2 fun b _ o z => by rw [p3]; exact Heap.get?_push_of_some _ z
  have I4 := block_start (own := own) I3 ok hN f3
  have pg := hg t3 (upd G2 D (.lst [])) t3.heap.objs.size (cellsFrom (t3.heap.objs.size + 1) scope.names (cloFrom X.env.cells scope.names [])) fp
  have pt := ht t3 (upd G2 D (.lst [])) t3.heap.objs.size (cellsFrom (t3.heap.objs.size + 1) scope.names (cloFrom X.env.cells scope.names [])) fp
  have pe := he t3 (upd G2 D (.lst [])) t3.heap.objs.size (cellsFrom (t3.heap.objs.size + 1) scope.names (cloFrom X.env.cells scope.names [])) fp
  have nfp : ∀ b ∈ fp, (upd G2 D (.lst [])) b = none := fun b z => (f3 b z).1.1
  generalize hbe : (newEnv scope t3.heap.objs.size X.env.globals (cellsFrom (t3.heap.objs.size + 1) scope.names (cloFrom X.env.cells scope.names [])) X.env.qual none .none (some X.env) X.env.builtins) = be
  have bl : be.locals = t3.heap.objs.size := by rw [← hbe]; rfl
  have bf : be.frame = X.env.frame := by rw [← hbe]; rfl
  show codeAny _ _ (.compStart (.ListComp elt [⟨tg, iter, ifs, 0⟩] scope pos) 0 (.ref it) (.ref D) (compEnvC scope (cellsFrom (t3.heap.objs.size + 1) scope.names (cloFrom X.env.cells scope.names [])) t3.heap.objs.size X.env)) (lxPost (model X.prog X.w) X.A X.xe use Qf (.ref D) (newEnv scope t3.heap.objs.size X.env.globals (cellsFrom (t3.heap.objs.size + 1) scope.names (cloFrom X.env.cells scope.names [])) X.env.qual none .none (some X.env) X.env.builtins)) { t3 with heap := pushCells (t3.heap.push { cls := .type "dict", data := .dict #[] }) scope.names }
  rw [hbe]
  generalize hce : compEnvC scope (cellsFrom (t3.heap.objs.size + 1) scope.names (cloFrom X.env.cells scope.names [])) t3.heap.objs.size X.env = ce at I4 pg pt pe ⊢
  have cl : ce.locals = t3.heap.objs.size := by rw [← hce]; rfl
  have cf : ce.frame = X.env.frame := by rw [← hce]; rfl
  generalize hG3 : upd G2 D (.lst []) = G3 at I3 I4 pg pt pe v0 nfp f3
  generalize ht4 : ({ t3 with heap := pushCells (t3.heap.push { cls := .type "dict", data := .dict #[] }) scope.names } : Shared) = t4 at I4 ⊢
  have st4 : tn 0 t4.heap := T.keep _ _ _ st3 fun b _ o z => by rw [← ht4]; exact pushCells_keeps _ _ _ _ (Heap.get?_push_of_some _ z)
  have stat : ∀ {σ' : St} {G : Hp} {t : Shared}, Inv (X.blk t3 G3 scope ce fp) [] σ' G t → (∀ b ∈ fp, G b = none) → ∀ b ∈ fp, FpOk (X.blk t3 G3 scope ce fp) [] G b := fun {σ' G t} K z b hb =>
    ⟨z b hb, (K.ok.exf b hb).1, K.ok.exfs b hb, .inl hb, (K.ok.exf b hb).2, fun p hp => absurd (show p ∈ ([] : List (Addr × Obj)) ++ [] from hp) (by simp)⟩
  -- a state of the block is one of the def
  have back : ∀ {pn : List (Addr × Obj)} {σ' : St} {G : Hp} {t : Shared}, Inv (X.blk t3 G3 scope ce fp) pn σ' G t → Inv X pins σ G t ∧ FpOk X pins G t3.heap.objs.size ∧ ∃ m, t.heap.Ns t3.heap.objs.size m := fun {pn σ' G t} K => by
    have z : G ce.locals = none := K.free
    obtain ⟨m, hn, _⟩ := K.loc
    have hn : t.heap.Ns ce.locals m := hn
    rw [cl] at z hn
    exact ⟨I3.call' (ch := fp) K.os K.base K.hok K.bare fun b hb => ⟨(f3 b hb).1.2.2.2.1, (f3 b hb).1.2.1, (f3 b hb).1.2.2.2.2.1, (f3 b hb).1.2.2.2.2.2⟩, I3.fpOk (Nat.le_refl _) z, m, hn⟩
  have loop : codeAny (model X.prog X.w) X.A (.compLoop (.ListComp elt [⟨tg, iter, ifs, 0⟩] scope pos) 0 (.ref it) (.ref D) ce) (lxPost (model X.prog X.w) X.A X.xe use Qf (.ref D) be) t4 := by
    refine compLoop_any (fun n t => ∃ i G, Inv (X.blk t3 G3 scope ce fp) [] (wipe σ (own.map (·.2))) G t ∧ tn i t.heap ∧ (∀ b ∈ fp, G b = none) ∧ V i n G) ?_ m0 ⟨0, G3, I4, st4, nfp, v0⟩
    rintro n t5 ⟨i, G5, I5, st5, n5, v5⟩
    rcases turn i n G5 v5 with ⟨stop, qq⟩ | ⟨go, Nx, hNx, step⟩
    · refine thnF (T.done (X.blk t3 G3 scope ce fp) rfl rfl rfl hc i [] t5 _ G5 (fun _ _ => False) I5 (stat I5 n5) st5 stop) fun r t6 ⟨hr, I6⟩ => ?_
      subst hr
      obtain ⟨I7, f7, m, hn⟩ := back I6
      exact hRR D be t6 m G5 I7 qq (by rw [bl]; exact hn) (by rw [bl]; exact f7)
    · refine thnF (T.item (X.blk t3 G3 scope ce fp) rfl rfl rfl hc i [] t5 _ G5 (fun _ _ => False) I5 (stat I5 n5) st5 go) fun r t6 ⟨u, hr, q6⟩ => ?_
      subst hr
      refine thnF q6 fun _ t7 ⟨x, G7, I7, r7, y7, st7, n7⟩ => ?_
      refine thnF (pg.run _ t7 _ G7 x u _ (I7.pinned (stat I7 n7) (T.obj _ _ st7)) r7 (step x G7 y7)) fun _ t8 ⟨σ8, G8, I8, w8, q8⟩ => ?_
      refine thnF (pt.run _ t8 σ8 G8 _ I8 q8) fun b t9 ⟨G9, I9, q9⟩ => ?_
      have fin : ∀ {t : Shared} {G : Hp}, Inv (X.blk t3 G3 scope ce fp) ([] ++ pinsAt fp t7.heap) σ8 G t → Nx G → ∃ m, m < n ∧ ∃ i G, Inv (X.blk t3 G3 scope ce fp) [] (wipe σ (own.map (·.2))) G t ∧ tn i t.heap ∧ (∀ b ∈ fp, G b = none) ∧ V i m G := fun {t G} K nx => by
        obtain ⟨m', hm, z⟩ := hNx G nx
        have kept : ∀ b ∈ fp, ∀ o, t7.heap.get? b = some o → t.heap.get? b = some o ∧ G b = none := fun b hb o e =>
          have y := K.pin (b, o) (List.mem_append_right _ (List.mem_append_right _ (mem_pinsAt hb e)))
          ⟨y.1, y.2.1⟩
        have hl : (wipe σ (own.map (·.2))).length = σ8.length := by rw [← w8, wipe_length]
        refine ⟨m', hm, i + 1, G, (K.unpinned (pins := [])).weak hl (fun j v e => (wipe_some (w8 ▸ e)).1), T.keep _ _ _ st7 fun b hb o e => (kept b hb o e).1, fun b hb => ?_, z⟩
        exact (kept b hb _ (T.obj _ _ st7 b hb).choose_spec.1).2
      cases b with
      | false =>
        rw [if_neg Bool.false_ne_true] at q9 ⊢
        exact fin I9 q9
      | true =>
        rw [if_pos rfl] at q9 ⊢
        -- the element, which may raise
        have run := (pe (fun u t => ∃ (pn : List (Addr × Obj)) (σ' : St) (G : Hp) (t0 : Shared), Inv (X.blk t3 G3 scope ce fp) pn σ' G t0 ∧ CX X.prog X.w X.stack G t0 (fun c d G => W c d σ G) u t) (fun c d G => W c d σ G)
          (fun pn σ' G t0 u t K z => ⟨pn, σ', G, t0, K.unwish, z⟩)).run _ t9 σ8 G9 _ (I9.wish _) q9
        refine wpAny_mono run (fun z t10 ⟨yv, G10, I10, r10, acc, hD10, hz10, nx⟩ => ?_) fun u t ⟨pn, σ', G, t0, K, z⟩ => ?_
        · exact app_ok (X := X.blk t3 G3 scope ce fp) I10.unwish hD10 hz10 r10 fun t11 I11 => fin I11 nx
        · obtain ⟨I0, f0, m, hn⟩ := back K
          exact lx_out hst hfm tk I0 f0 hn bl bf cf z
  exact codeAny_compStart_list loop (T.self X.A 0 t4 _ _ st4 loop)
/-- [elt for target in iter if ..], elt may raise -/
theorem pe_lcX {elt tg iter : Expr} {ifs : List Expr} {scope : Scope} {own : List (Str × Nat)} {pos : Pos} {wi : TI} {g : TG} {tt : TT} {te : XK → TE}
    (hst : X.stack = X.env :: X.outer) (hfm : X.env.frame = some X.env.locals) (tk : Takes X W) (hc : X.calm = true) (hN : X.N.Nodup) (hi : PI X tg iter wi) (ok : BlkOk X.N X.env.scope scope own)
    (hg : ∀ (t : Shared) (G : Hp) (C : Addr) (cl : List (Str × Addr)) (fp : List Addr), PG (X.blk t G scope (compEnvC scope cl C X.env) fp) tg g) (ht : ∀ (t : Shared) (G : Hp) (C : Addr) (cl : List (Str × Addr)) (fp : List Addr), PTs (X.blk t G scope (compEnvC scope cl C X.env) fp) ifs tt)
    (he : ∀ (t : Shared) (G : Hp) (C : Addr) (cl : List (Str × Addr)) (fp : List Addr) (xe : Value → Shared → Prop) (E : XK), Passes (CX X.prog X.w) (X.blx t G scope (compEnvC scope cl C X.env) fp xe) E → PE (X.blx t G scope (compEnvC scope cl C X.env) fp xe) elt (te E)) (hs : ∀ x, foldedSetIterable iter X.env x = pure x := by intro _; rfl) :
    PE X (.ListComp elt [⟨tg, iter, ifs, 0⟩] scope pos) (fun σ H Q => tLc wi g tt (te fun c d G => W c d σ G) (own.map (·.2)) σ H Q) := by
  refine ⟨fun pins s σ H Q I h => ?_⟩
  rw [eval_ListComp]
  refine lx_core hst hfm tk hc hN I hi ok hg ht he hs h fun D ce s' m G J q hn f => ⟨m, hn, fun g2 sb => ?_⟩
  exact ⟨.ref D, G, J.turned (t' := s'.toks) (fun b o z e => (sb.2 b z).trans e) f.1 f.2.1 f.2.2.2.1 f.2.2.2.2.1 f.2.2.2.2.2, rfl, q⟩
end
end L2

set_option Elab.async false
set_option linter.all false
set_option maxRecDepth 100000
set_option maxHeartbeats 4000000
namespace Dk
open PySem PySem.Spec PyProof.Rows L2 TL
def rdTab (ds : List PyData) (i : Nat) : Except Nat (List Int × Nat) := match tkD ds i (fun x => decide (x ∈ lens8)) with
  | none => .error i
  | some l => letA ds l.toNat (i + 1) []
def spReadTabX (K : PySem.W.Frag) (CR CC : Addr) : Sp := fun xs H Q E => ∃ (H0 : Hp) (p a : Addr) (i : Nat) (vs : List V) (ds : List PyData), xs = [.ref p] ∧ RX K CR H0 p a vs ds H i ∧ i ≤ ds.length ∧
  (∀ bs j, rdTab ds i = .ok (bs, j) → j ≤ ds.length → ∀ H', Kp p H H' → RX K CR H0 p a vs ds H' j → Q (.str (tabStr bs)) H') ∧ (∀ e : Nat, rdTab ds i = .error e → PlRaised CC E H0 (e : Int))
theorem tkD_lt {ds : List PyData} {i : Nat} {ok : Int → Bool} {x : Int} (h : tkD ds i ok = some x) : i < ds.length ∧ ok x = true ∧ ds[i]? = some (.int x) := by
  unfold tkD at h
  split at h
  · rename_i y e
    split at h
    · rename_i c
      cases h
      exact ⟨(List.getElem?_eq_some_iff.mp e).1, c, e⟩
    · cases h
  · cases h
theorem letA_succ (ds : List PyData) (n i : Nat) (acc : List Int) : letA ds (n + 1) i acc = match tkD ds i (btw 0 1) with | none => .error i | some x => letA ds n (i + 1) (acc ++ [x]) := rfl
theorem letS_len (x : Int) : (letS x).length = 1 := by unfold letS; split <;> rfl
theorem letA_acc {ds : List PyData} : ∀ (n i : Nat) (acc : List Int) (r : List Int × Nat), letA ds n i acc = .ok r → r.2 = i + n ∧ r.1.length = acc.length + n
  | 0, i, acc, r, h => by cases h; exact ⟨rfl, rfl⟩
  | n + 1, i, acc, r, h => by
    unfold letA at h
    split at h
    · cases h
    · obtain ⟨h1, h2⟩ := letA_acc n _ _ r h
      rw [List.length_append, List.length_singleton] at h2
      omega
theorem oh_at {x : Int} (h : btw 0 1 x = true) : ∃ c, 0 ≤ x ∧ x < 2 ^ 63 ∧ x < (ohS.length : Int) ∧ ohS.cps[x.toNat]? = some c ∧ (⟨#[c]⟩ : Str) = letS x := by
  unfold btw at h
  rw [Bool.and_eq_true, decide_eq_true_iff, decide_eq_true_iff] at h
  have : x = 0 ∨ x = 1 := by omega
  rcases this with rfl | rfl
  · exact ⟨111, by decide, by decide, by decide +kernel, by decide +kernel, rfl⟩
  · exact ⟨104, by decide, by decide, by decide +kernel, by decide +kernel, rfl⟩
section
variable {P : Program} {w : World} {K : PySem.W.Frag} {mg : Str → Option Value} {base : Heap} {CR fRI fTk fTB : Addr} {fdRI fdTk fdTB : FuncData} {fII fIB fHO : Addr} {fdII fdIB fdHO : FuncData} {CC fCI : Addr} {fdCI : FuncData} {CH pPs gPs fSm : Addr} {fdPs fdSm : FuncData}
theorem ok_readtabX {f : Addr} {fd : FuncData} (F : Fun K "read_table" "read_table" sRdTable f fd) (R : TxtRd K mg CR fRI fTk fTB fdRI fdTk fdTB) (N : TxtEn K mg CH pPs gPs fSm fdPs fdSm) (TF : TxtF K mg fII fIB fHO fdII fdIB fdHO) (T : TxtA mg) (TC : TxtPl K mg "InvalidCode" "InvalidCode.__init__" sICInit CC fCI fdCI) : FnOk P w K mg base (L2.CX P w) 5 f fd ["reader"] (spReadTabX K CR CC) := by
  have GT : FnOk P w K mg base (L2.CX P w) 3 fTk fdTk ["self", "allowed"] (spTakeX K CR CC) := ok_takeX R TF T TC
  have GB : FnOk P w K mg base (L2.CX P w) 4 fTB fdTB ["self", "low", "high"] (spTakeBX K CR CC) := ok_takeBX R TF T TC
  obtain ⟨t2, eO⟩ := N.coded
  obtain ⟨aL, eL, hTL⟩ := TF.lengths
  refine F.okX scReadTab (fun vs H Q E h => ?_) (fun cdv A outer s H vs Q E hr h => ?_)
  · obtain ⟨H0, p, a, i, vs, ds, rfl, _⟩ := h
    rfl
  · obtain ⟨H0, p, a, i, vs, ds, rfl, hR, hi, k, kx⟩ := h
    have hr3 : Room 3 (A.deeper (envOfC (Str.ofString "read_table") (defScope sRdTable) s.heap.objs.size f cdv)) := hr.mono (by decide)
    refine ⟨_, pss_cons (ps_set (i := 1) scReadTab.nd rfl (.inl rfl) (pe_meth (pv 0) R.cl R.mTk GT hr3 R.bTk .nil (passes_call (takes_of rfl rfl rfl rfl) (fun _ _ _ _ h => h)) (pa_cons (pe_glob (v := .ref aL) rfl eL rfl) pa_nil)))
      (pss_one (ps_ret (pe_join pe_str (pe_lcX (own := [("_", 2)]) (g := gName 2) rfl rfl (takes_of rfl rfl rfl rfl) (by rfl) scReadTab.nd (pi_range1 rfl T.range (pa_cons (pv 1) pa_nil)) (blkOk_by (N := ["reader", "length", "_"]) (sc := defScope sRdTable) (by decide +kernel))
          (fun _ _ _ _ _ => pg_name (i := 2) scReadTab.nd rfl (Or.inl rfl)) (fun _ _ _ _ _ => pts_nil)
          (fun _ _ _ _ _ _ _ hp => pe_item_str (pe_glob (v := .str ohS) rfl eO ⟨_, rfl⟩) (pe_meth (pv 0) R.cl R.mTB GB hr R.bTB .nil hp (pa_cons pe_int (pa_cons pe_int pa_nil))) (fun _ _ => rfl)))))), ?_⟩
    obtain ⟨dx, e1⟩ := hR.rd.ex
    refine ⟨_, rfl, p, dx, _, rfl, e1, by rfl, H0, p, a, aL, i, vs, ds, tabLens, (fun x => decide (x ∈ lens8)), rfl, hR, hi, .inr (sSqT (fun b o e => by cases e) hTL), fun x => rfl, fun l el H1 k1 hR1 => ?_, fun en => kx i (by unfold rdTab; rw [en])⟩
    obtain ⟨hil, hl8, _⟩ := tkD_lt el
    have hl8 := of_decide_eq_true hl8
    have hl : 1 ≤ l ∧ l ≤ 24 := by
      unfold lens8 at hl8
      simp only [List.mem_cons, List.not_mem_nil, or_false] at hl8
      omega
    have er : rdTab ds i = letA ds l.toNat (i + 1) [] := by unfold rdTab; rw [el]
    rw [er] at k kx
    clear er el hl8
    obtain ⟨m, hm⟩ : ∃ m, l.toNat = m := ⟨_, rfl⟩
    refine ⟨⟨_, rfl⟩, _, rfl, l, rfl, by omega, by omega, fun D hD => lc_range (lo := 0) (n := l.toNat)
      (fun j H3 => ∃ bs : List Int, Kp p H1 H3 ∧ RX K CR H0 p a vs ds H3 (i + 1 + j) ∧ i + 1 + j ≤ ds.length ∧ H3 D = some (.lst ((bs.map letS).map V.str)) ∧ bs.length = j ∧ letA ds l.toNat (i + 1) [] = letA ds (l.toNat - j) (i + 1 + j) bs)
      ⟨[], sKp (same_upd hD), hR1.mono (same_upd hD), hil, upd_same, rfl, rfl⟩ ?_ ?_⟩
    · rintro j H3 hj ⟨bs, k3, hR3, hij, eD, hbl, ea⟩
      obtain ⟨dx3, e3⟩ := hR3.rd.ex
      obtain ⟨dx1, e11⟩ := hR1.rd.ex
      have npD : p ≠ D := ne_of_none e11 hD
      have nD0 : H0 D = none := hR1.s.free hD
      rw [show l.toNat - j = (l.toNat - (j + 1)) + 1 by omega] at ea
      rw [letA_succ] at ea
      refine ⟨rfl, _, rfl, p, dx3, _, rfl, e3, by rfl, H0, p, a, 0, 1, i + 1 + j, vs, ds, rfl, hR3, hij, by decide, by decide, by decide, by decide, fun x ex H4 k4 hR4 => ?_, fun en => ?_⟩
      · rw [ex] at ea
        obtain ⟨hlt, hb, _⟩ := tkD_lt ex
        obtain ⟨c, g0, g2, g3, g4, g5⟩ := oh_at hb
        refine ⟨ohS, x, c, rfl, rfl, g0, g2, g3, g4, ?_⟩
        rw [g5]
        refine ⟨_, k4 _ _ npD.symm eD, ?_, bs ++ [x], fun b o nb eb => ?_, hR4.put nD0 npD, by omega, ?_, by rw [List.length_append, hbl]; rfl, ?_⟩
        · rw [List.length_map, List.length_map, hbl]
          exact Nat.lt_of_le_of_lt (by omega : j ≤ 1000) (by decide)
        · rw [upd_ne (ne_of_none eb hD)]; exact k4 _ _ nb (k3 _ _ nb eb)
        · rw [upd_same, List.map_append, List.map_append]; rfl
        · rw [ea, show i + 1 + (j + 1) = i + 1 + j + 1 by omega]
      · rw [en] at ea
        exact kx (i + 1 + j) ea
    · rintro H3 ⟨bs, k3, hR3, hij, eD, hbl, ea⟩
      rw [Nat.sub_self] at ea
      refine ⟨Str.empty, D, bs.map letS, rfl, rfl, .inl (SqL.of eD), ?_, ?_⟩
      · have : ∀ l : List Int, ((l.map letS).map (·.length)).sum = l.length := by
          intro l
          induction l with
          | nil => rfl
          | cons x l ih => rw [List.map_cons, List.map_cons, List.sum_cons, ih, letS_len, List.length_cons]; omega
        rw [this]
        show bs.length + (bs.map letS).length * 0 ≤ _
        omega
      · exact k bs (i + 1 + l.toNat) ea hij H3 (k1.trans k3) hR3
end
end Dk

set_option Elab.async false
set_option linter.all false
set_option maxRecDepth 100000
set_option maxHeartbeats 4000000
namespace Dk
open PySem PySem.Spec PyProof.Rows L2 TL
def rdCar (ds : List PyData) (i : Nat) (n : Int) : Except Nat (List Int × Nat) := match tkD ds i (btw 0 n) with
  | none => .error i
  | some c => carA ds (n - 1) c.toNat (i + 1) (-1) []
def spReadCarX (K : PySem.W.Frag) (CR CC : Addr) : Sp := fun xs H Q E => ∃ (H0 : Hp) (p a : Addr) (i : Nat) (n : Int) (vs : List V) (ds : List PyData), xs = [.ref p, .int n] ∧ RX K CR H0 p a vs ds H i ∧ i ≤ ds.length ∧ 1 ≤ n ∧ n ≤ 6 ∧
  (∀ cs j, rdCar ds i n = .ok (cs, j) → j ≤ ds.length → ∀ (H' : Hp) (u : Addr), Kp p H H' → RX K CR H0 p a vs ds H' j → H0 u = none → H' u = some (.tup (cs.map V.int)) → Q (.ref u) H') ∧ (∀ e : Nat, rdCar ds i n = .error e → PlRaised CC E H0 (e : Int))
theorem carA_succ (ds : List PyData) (hi : Int) (n i : Nat) (last : Int) (acc : List Int) : carA ds hi (n + 1) i last acc = match tkD ds i (btw (last + 1) hi) with | none => .error i | some x => carA ds hi n (i + 1) x (acc ++ [x]) := rfl
theorem btw_is {lo hi x : Int} (h : btw lo hi x = true) : lo ≤ x ∧ x ≤ hi := by
  unfold btw at h
  rw [Bool.and_eq_true, decide_eq_true_iff, decide_eq_true_iff] at h
  exact h
section
variable {P : Program} {w : World} {K : PySem.W.Frag} {mg : Str → Option Value} {base : Heap} {CR fRI fTk fTB : Addr} {fdRI fdTk fdTB : FuncData} {fII fIB fHO : Addr} {fdII fdIB fdHO : FuncData} {CC fCI : Addr} {fdCI : FuncData}
theorem ok_readcarX {f : Addr} {fd : FuncData} (F : Fun K "read_careful" "read_careful" sRdCareful f fd) (R : TxtRd K mg CR fRI fTk fTB fdRI fdTk fdTB) (TF : TxtF K mg fII fIB fHO fdII fdIB fdHO) (T : TxtA mg) (TC : TxtPl K mg "InvalidCode" "InvalidCode.__init__" sICInit CC fCI fdCI) : FnOk P w K mg base (L2.CX P w) 5 f fd ["reader", "persons"] (spReadCarX K CR CC) := by
  have GB : FnOk P w K mg base (L2.CX P w) 4 fTB fdTB ["self", "low", "high"] (spTakeBX K CR CC) := ok_takeBX R TF T TC
  refine F.okX scReadCar (fun vs H Q E h => ?_) (fun cdv A outer s H vs Q E hr h => ?_)
  · obtain ⟨H0, p, a, i, n, vs, ds, rfl, _⟩ := h
    rfl
  · obtain ⟨H0, p, a, i, n, vs, ds, rfl, hR, hi, hn1, hn6, k, kx⟩ := h
    refine ⟨_, pss_cons (ps_set (i := 2) scReadCar.nd rfl (.inl rfl) (pe_meth (pv 0) R.cl R.mTB GB hr R.bTB .nil (passes_call (takes_of rfl rfl rfl rfl) (fun _ _ _ _ h => h)) (pa_cons pe_int (pa_cons (pv 1) pa_nil))))
      (pss_cons (ps_set (i := 3) scReadCar.nd rfl (.inl rfl) (pe_lst pa_nil))
      (pss_cons (ps_set (i := 4) scReadCar.nd rfl (.inl rfl) (pe_un un_neg pe_int))
      (pss_cons (ps_for (passes_of rfl) rfl (pi_range1 rfl T.range (pa_cons (pv 2) pa_nil)) (pg_name (i := 5) scReadCar.nd rfl (.inl rfl))
        (pss_cons (ps_set (i := 4) scReadCar.nd rfl (.inl rfl) (pe_meth (pv 0) R.cl R.mTB GB hr R.bTB .nil (passes_call (takes_of rfl rfl rfl rfl) (fun _ _ _ _ h => h)) (pa_cons (pe_op op_add (pv 4) pe_int) (pa_cons (pe_op op_sub (pv 1) pe_int) pa_nil))))
        (pss_one (ps_expr (pe_bm PySem.F.plainAttrs_list PySem.F.slot_list_append PySem.F.type_list_append mt_append (pv 3) (pa_cons (pv 4) pa_nil))))))
      (pss_one (ps_ret (pe_callTy call_tuple_of (by rfl) TF.tuple (by decide +kernel) (pa_cons (pv 3) pa_nil))))))), ?_⟩
    obtain ⟨dx, e1⟩ := hR.rd.ex
    refine ⟨_, rfl, p, dx, _, rfl, e1, by rfl, _, rfl, H0, p, a, 0, n, i, vs, ds, rfl, hR, hi, by decide, by decide, by omega, by omega, fun c ec H1 k1 hR1 => ?_, fun en => kx i (by unfold rdCar; rw [en])⟩
    obtain ⟨hil, hb, _⟩ := tkD_lt ec
    obtain ⟨hc0, hcn⟩ := btw_is hb
    have er : rdCar ds i n = carA ds (n - 1) c.toNat (i + 1) (-1) [] := by unfold rdCar; rw [ec]
    rw [er] at k kx
    clear er ec hb
    refine ⟨Nat.zero_le _, fun q hq => ?_⟩
    have q0 : H0 q = none := hR1.s.free hq
    have s2 := same_upd (o := .lst []) hq
    have eq2 : (upd H1 q (.lst [])) q = some (.lst (([] : List Int).map V.int)) := upd_same
    have hR2 := hR1.mono s2
    obtain ⟨dx1, e11⟩ := hR1.rd.ex
    have npq : p ≠ q := ne_of_none e11 hq
    have k2 : Kp p H (upd H1 q (.lst [])) := k1.trans (sKp s2)
    have hqH : H q = none := k1.free npq.symm hq
    generalize upd H1 q (.lst []) = H2 at eq2 hR2 k2
    refine ⟨_, rfl, ?_⟩
    refine ⟨_, rfl, c, rfl, by omega, by omega, for_range (lo := 0) (n := c.toNat)
      (fun j σ H3 => ∃ (cs : List Int) (last : Int) (v5 : Option V), σ = [some (.ref p), some (.int n), some (.int c), some (.ref q), some (.int last), v5] ∧ Kp p H H3 ∧ RX K CR H0 p a vs ds H3 (i + 1 + j) ∧ i + 1 + j ≤ ds.length ∧ H3 q = some (.lst (cs.map V.int)) ∧ cs.length = j ∧ -1 ≤ last ∧ last ≤ 6 ∧ carA ds (n - 1) c.toNat (i + 1) (-1) [] = carA ds (n - 1) (c.toNat - j) (i + 1 + j) last cs)
      ⟨[], -1, _, rfl, k2, hR2, hil, eq2, rfl, by decide, by decide, rfl⟩ ?_ ?_⟩
    · rintro j σ H3 hj ⟨cs, last, v5, rfl, k3, hR3, hij, eq3, hcl, hl0, hl6, ea⟩
      obtain ⟨dx3, e3⟩ := hR3.rd.ex
      rw [show c.toNat - j = (c.toNat - (j + 1)) + 1 by omega, carA_succ] at ea
      refine ⟨_, rfl, p, dx3, _, rfl, e3, by rfl, _, rfl, _, _, rfl, rfl, _, rfl, _, _, rfl, rfl, H0, p, a, last + 1, n - 1, i + 1 + j, vs, ds, rfl, hR3, hij, by omega, by omega, by omega, by omega, fun x ex H4 k4 hR4 => ?_, fun en => ?_⟩
      · rw [ex] at ea
        obtain ⟨hlt, hb, _⟩ := tkD_lt ex
        obtain ⟨z1, z2⟩ := btw_is hb
        have eq4 := k4 _ _ npq.symm eq3
        refine ⟨_, rfl, .inl ⟨rfl, _, SqL.of eq4⟩, _, rfl, q, _, _, rfl, rfl, eq4, ?_, ?_⟩
        · rw [List.length_map, hcl]; exact Nat.lt_of_le_of_lt (by omega : j ≤ 1000) (by decide)
        · refine ⟨cs ++ [x], x, _, rfl, fun b o nb eb => ?_, hR4.put q0 npq, by omega, ?_, by rw [List.length_append, hcl]; rfl, by omega, by omega, ?_⟩
          · rw [upd_ne (ne_of_none eb hqH)]; exact k4 _ _ nb (k3 _ _ nb eb)
          · rw [upd_same, List.map_append]; rfl
          · rw [ea, show i + 1 + (j + 1) = i + 1 + j + 1 by omega]
      · rw [en] at ea
        exact kx (i + 1 + j) ea
    · rintro σ H3 ⟨cs, last, v5, rfl, k3, hR3, hij, eq3, hcl, hl0, hl6, ea⟩
      rw [Nat.sub_self] at ea
      refine ⟨_, rfl, q, _, rfl, .inl ⟨SqL.of eq3, fun u hu => ?_⟩⟩
      have s4 := same_upd (o := .tup (cs.map V.int)) hu
      exact k cs (i + 1 + c.toNat) ea hij _ u (k3.trans (sKp s4)) (hR3.mono s4) (hR3.s.free hu) upd_same
end
end Dk

set_option Elab.async false
set_option linter.all false
set_option maxRecDepth 100000
set_option maxHeartbeats 4000000
namespace Dk
open PySem PySem.Spec PyProof.Rows L2 TL
def rdPrs (ds : List PyData) (i : Nat) (m n : Int) : Except Nat (List Pr × Nat) := match tkD ds i (btw 0 10) with
  | none => .error i
  | some c => prsA ds (m - 1) (n - 1) c.toNat (i + 1) 0 (-1) []
def spReadPrsX (K : PySem.W.Frag) (CR CC : Addr) : Sp := fun ys H Q E => ∃ (H0 : Hp) (p a : Addr) (i : Nat) (m n : Int) (vs : List V) (ds : List PyData), ys = [.ref p, .int m, .int n] ∧ RX K CR H0 p a vs ds H i ∧ i ≤ ds.length ∧ 1 ≤ n ∧ n ≤ 6 ∧ 1 ≤ m ∧ m ≤ 24 ∧
  (∀ rs j, rdPrs ds i m n = .ok (rs, j) → j ≤ ds.length → ∀ (H' : Hp) (u : Addr) (xs : List V), Kp p H H' → RX K CR H0 p a vs ds H' j → H0 u = none → H' u = some (.tup xs) → Prs H' xs rs → Q (.ref u) H') ∧ (∀ e : Nat, rdPrs ds i m n = .error e → PlRaised CC E H0 (e : Int))
theorem prsA_succ (ds : List PyData) (ht hp : Int) (n i : Nat) (lt lp : Int) (acc : List Pr) : prsA ds ht hp (n + 1) i lt lp acc = match tkD ds i (btw lt ht) with | none => .error i | some t => match tkD ds (i + 1) (btw (if t = lt then lp + 1 else 0) hp) with | none => .error (i + 1) | some x => prsA ds ht hp n (i + 2) t x (acc ++ [(t, x)]) := rfl
section
variable {P : Program} {w : World} {K : PySem.W.Frag} {mg : Str → Option Value} {base : Heap} {CR fRI fTk fTB : Addr} {fdRI fdTk fdTB : FuncData} {fII fIB fHO : Addr} {fdII fdIB fdHO : FuncData} {CC fCI : Addr} {fdCI : FuncData}
theorem prs_tailX {f : Addr} {cdv : Value} {A : Around} {outer : List Env} {s : Shared} {G0 : Hp} {E : XK} (hr : Room 4 (A.deeper (envOfC (Str.ofString "read_pairs") (defScope sRdPairs) s.heap.objs.size f cdv))) (R : TxtRd K mg CR fRI fTk fTB fdRI fdTk fdTB) (TF : TxtF K mg fII fIB fHO fdII fdIB fdHO) (T : TxtA mg) (TC : TxtPl K mg "InvalidCode" "InvalidCode.__init__" sICInit CC fCI fdCI) :
    ∃ tm, PSs (cxOf (L2.CX P w) P w K mg base nRPrs "read_pairs" (defScope sRdPairs) f cdv A outer s G0 E) (prsLoop.drop 2) tm ∧ ∀ (D : Ends) (σ : L2.St) (H H0 : Hp) (p a q : Addr) (vs : List V) (ds : List PyData) (i : Nat) (n : Int) (xs : List V) (rs : List Pr) (lo t : Int) (v1 v3 v5 v6 v7 v10 : Option V),
      σ = [some (.ref p), v1, some (.int n), v3, some (.ref q), v5, v6, v7, some (.int t), some (.int lo), v10] → RX K CR H0 p a vs ds H i → i ≤ ds.length → 0 ≤ lo → lo ≤ 1000 → 1 ≤ n → n ≤ 6 → H0 q = none → H q = some (.lst xs) → Prs H xs rs → xs.length ≤ 10 →
      (∀ (x : Int) (H' : Hp) (u : Addr), tkD ds i (btw lo (n - 1)) = some x → (∀ b o, b ≠ p → b ≠ q → H b = some o → H' b = some o) → RX K CR H0 p a vs ds H' (i + 1) → H' q = some (.lst (xs ++ [.ref u])) → Prs H' (xs ++ [.ref u]) (rs ++ [(t, x)]) → D.nx [some (.ref p), v1, some (.int n), v3, some (.ref q), some (.int t), some (.int x), v7, some (.int t), some (.int lo), some (.int x)] H') →
      (tkD ds i (btw lo (n - 1)) = none → PlRaised CC E H0 (i : Int)) → tm D σ H := by
  have GB : FnOk P w K mg base (L2.CX P w) 4 fTB fdTB ["self", "low", "high"] (spTakeBX K CR CC) := ok_takeBX R TF T TC
  refine ⟨_, by
    exact pss_cons (ps_set (i := 10) scReadPrs.nd rfl (.inl rfl) (pe_meth (pv 0) R.cl R.mTB GB hr R.bTB .nil (passes_call (takes_of rfl rfl rfl rfl) (fun _ _ _ _ h => h)) (pa_cons (pv 9) (pa_cons (pe_op op_sub (pv 2) pe_int) pa_nil))))
      (pss_cons (ps_expr (pe_bm PySem.F.plainAttrs_list PySem.F.slot_list_append PySem.F.type_list_append mt_append (pv 4) (pa_cons (pe_tup (pa_cons (pv 8) (pa_cons (pv 10) pa_nil))) pa_nil)))
      (pss_one (ps_par (i := 5) (j := 6) rfl scReadPrs.nd rfl rfl (by decide) rfl rfl (pa_cons (pv 8) (pa_cons (pv 10) pa_nil)) (by rfl)))), ?_⟩
  intro D σ H H0 p a q vs ds i n xs rs lo t v1 v3 v5 v6 v7 v10 hσ hR hi h0 h1 hn1 hn6 q0 eq hP hl k kx
  subst hσ
  obtain ⟨dx, e1⟩ := hR.rd.ex
  have npq : p ≠ q := fun e => by rw [e, eq] at e1; cases e1
  refine ⟨_, rfl, p, dx, _, rfl, e1, by rfl, _, rfl, _, rfl, _, _, rfl, rfl, H0, p, a, lo, n - 1, i, vs, ds, rfl, hR, hi, h0, h1, by omega, by omega, fun x ex H1 k1 hR1 => ?_, kx⟩
  have eq1 := k1 _ _ npq.symm eq
  have hP1 := hP.mono (fun t ys z => k1 t _ (fun e => by rw [e, e1] at z; cases z) z)
  refine ⟨_, rfl, .inl ⟨rfl, _, SqL.of eq1⟩, _, rfl, _, rfl, by show 2 ≤ sizeLine; decide, fun u hu => ?_⟩
  have s2 := same_upd (o := .tup [.int t, .int x]) hu
  have eu : (upd H1 u (.tup [.int t, .int x])) u = some (.tup [.int t, .int x]) := upd_same
  have eq2 := s2 _ _ eq1
  have hR2 := hR1.mono s2
  have hP2 : Prs (upd H1 u (.tup [.int t, .int x])) (xs ++ [.ref u]) (rs ++ [(t, x)]) := (hP1.mono fun t ys z => s2 _ _ z).app ⟨u, rfl, eu⟩
  generalize upd H1 u (.tup [.int t, .int x]) = H2 at s2 eu eq2 hR2 hP2
  refine ⟨q, _, _, rfl, rfl, eq2, Nat.lt_of_le_of_lt hl (by decide), ?_⟩
  have tK : ∀ t' ws, H2 t' = some (.tup ws) → (upd H2 q (.lst (xs ++ [V.ref u]))) t' = some (.tup ws) := fun t' ws h => by
    rw [upd_ne (fun z => by rw [z, eq2] at h; cases h)]; exact h
  exact ⟨_, rfl, _, rfl, _, _, rfl, k x _ u ex (fun b o n1 n2 eb => by rw [upd_ne n2]; exact s2 _ _ (k1 _ _ n1 eb)) (hR2.put q0 npq) upd_same (hP2.mono tK)⟩
theorem ok_readprsX {f : Addr} {fd : FuncData} (F : Fun K "read_pairs" "read_pairs" sRdPairs f fd) (R : TxtRd K mg CR fRI fTk fTB fdRI fdTk fdTB) (TF : TxtF K mg fII fIB fHO fdII fdIB fdHO) (T : TxtA mg) (TC : TxtPl K mg "InvalidCode" "InvalidCode.__init__" sICInit CC fCI fdCI) (hRem : ∃ t, mg "MOST_REMINDERS" = some (.int 10 t)) : FnOk P w K mg base (L2.CX P w) 5 f fd ["reader", "period", "persons"] (spReadPrsX K CR CC) := by
  have GB : FnOk P w K mg base (L2.CX P w) 4 fTB fdTB ["self", "low", "high"] (spTakeBX K CR CC) := ok_takeBX R TF T TC
  obtain ⟨t1, eM⟩ := hRem
  refine F.okX scReadPrs (fun vs H Q E h => ?_) (fun cdv A outer s H vs Q E hr h => ?_)
  · obtain ⟨H0, p, a, i, m, n, vs, ds, rfl, _⟩ := h
    rfl
  · obtain ⟨H0, p, a, i, m, n, vs, ds, rfl, hR, hi, hn1, hn6, hm1, hm24, k, kx⟩ := h
    obtain ⟨tI, pI, hI⟩ := prs_tailX (P := P) (w := w) (K := K) (mg := mg) (base := base) (CC := CC) (f := f) (cdv := cdv) (A := A) (outer := outer) (s := s) (G0 := H) (E := E) hr R TF T TC
    refine ⟨_, pss_cons (ps_set (i := 3) scReadPrs.nd rfl (.inl rfl) (pe_meth (pv 0) R.cl R.mTB GB hr R.bTB .nil (passes_call (takes_of rfl rfl rfl rfl) (fun _ _ _ _ h => h)) (pa_cons pe_int (pa_cons (pe_glob (v := .int 10) rfl eM ⟨_, rfl⟩) pa_nil))))
      (pss_cons (ps_set (i := 4) scReadPrs.nd rfl (.inl rfl) (pe_lst pa_nil))
      (pss_cons (ps_asg (pe_tup (pa_cons pe_int (pa_cons (pe_un un_neg pe_int) pa_nil))) (pg_tup rfl (pgs_cons (pg_name (i := 5) scReadPrs.nd rfl (.inl rfl)) (pgs_cons (pg_name (i := 6) scReadPrs.nd rfl (.inl rfl)) pgs_nil))))
      (pss_cons (ps_for (passes_of rfl) rfl (pi_range1 rfl T.range (pa_cons (pv 3) pa_nil)) (pg_name (i := 7) scReadPrs.nd rfl (.inl rfl))
        (pss_cons (ps_set (i := 8) scReadPrs.nd rfl (.inl rfl) (pe_meth (pv 0) R.cl R.mTB GB hr R.bTB .nil (passes_call (takes_of rfl rfl rfl rfl) (fun _ _ _ _ h => h)) (pa_cons (pv 5) (pa_cons (pe_op op_sub (pv 1) pe_int) pa_nil))))
        (pss_cons (ps_set (i := 9) scReadPrs.nd rfl (.inl rfl) (pe_ifExp (pt_cmpR op_eq (pv 8) (pv 5) (nomark _)) (pe_op op_add (pv 6) pe_int) pe_int)) pI)))
      (pss_one (ps_ret (pe_callTy call_tuple_of (by rfl) TF.tuple (by decide +kernel) (pa_cons (pv 4) pa_nil))))))), ?_⟩
    obtain ⟨dx, e1⟩ := hR.rd.ex
    refine ⟨_, rfl, p, dx, _, rfl, e1, by rfl, H0, p, a, 0, 10, i, vs, ds, rfl, hR, hi, by decide, by decide, by decide, by decide, fun c ec H1 k1 hR1 => ?_, fun en => kx i (by unfold rdPrs; rw [en])⟩
    obtain ⟨hil, hb, _⟩ := tkD_lt ec
    obtain ⟨hc0, hcn⟩ := btw_is hb
    have er : rdPrs ds i m n = prsA ds (m - 1) (n - 1) c.toNat (i + 1) 0 (-1) [] := by unfold rdPrs; rw [ec]
    rw [er] at k kx
    clear er ec hb
    refine ⟨Nat.zero_le _, fun q hq => ?_⟩
    have q0 : H0 q = none := hR1.s.free hq
    have s2 := same_upd (o := .lst []) hq
    have eq2 : (upd H1 q (.lst [])) q = some (.lst []) := upd_same
    have hR2 := hR1.mono s2
    obtain ⟨dx1, e11⟩ := hR1.rd.ex
    have npq : p ≠ q := ne_of_none e11 hq
    have hqH : H q = none := k1.free npq.symm hq
    have k2 : Kp p H (upd H1 q (.lst [])) := k1.trans (sKp s2)
    generalize upd H1 q (.lst []) = H2 at eq2 hR2 k2
    refine ⟨_, rfl, by show 2 ≤ sizeLine; decide, fun u0 hu0 => ⟨u0, _, rfl, SqT.of upd_same, rfl, _, _, rfl, _, _, rfl, rfl, ?_⟩⟩
    have s3 := same_upd (o := .tup [V.int 0, (fun i : Int => V.int (-i)) 1]) hu0
    have eq3 := s3 _ _ eq2
    have hR3 := hR2.mono s3
    have k3 : Kp p H (upd H2 u0 (.tup [V.int 0, (fun i : Int => V.int (-i)) 1])) := k2.trans (sKp s3)
    generalize upd H2 u0 (.tup [V.int 0, (fun i : Int => V.int (-i)) 1]) = H3 at eq3 hR3 k3
    clear eq2 hR2 k2 s2 s3 hu0
    refine ⟨_, rfl, c, rfl, by omega, by omega, for_range (lo := 0) (n := c.toNat)
      (fun j σ H4 => ∃ (rs : List Pr) (lt lp : Int) (v7 v8 v9 v10 : Option V) (xs : List V), σ = [some (.ref p), some (.int m), some (.int n), some (.int c), some (.ref q), some (.int lt), some (.int lp), v7, v8, v9, v10] ∧ Kp p H H4 ∧ RX K CR H0 p a vs ds H4 (i + 1 + 2 * j) ∧ i + 1 + 2 * j ≤ ds.length ∧ H4 q = some (.lst xs) ∧ Prs H4 xs rs ∧ rs.length = j ∧ 0 ≤ lt ∧ lt ≤ 24 ∧ -1 ≤ lp ∧ lp ≤ 6 ∧ prsA ds (m - 1) (n - 1) c.toNat (i + 1) 0 (-1) [] = prsA ds (m - 1) (n - 1) (c.toNat - j) (i + 1 + 2 * j) lt lp rs)
      ⟨[], 0, -1, _, _, _, _, [], rfl, k3, hR3, hil, eq3, .nil, rfl, by decide, by decide, by decide, by decide, rfl⟩ ?_ ?_⟩
    · rintro j σ H4 hj ⟨rs, lt, lp, v7, v8, v9, v10, xs, rfl, k4, hR4, hij, eq4, hP4, hrl, b1, b2, b3, b4, ea⟩
      obtain ⟨dx4, e4⟩ := hR4.rd.ex
      rw [show c.toNat - j = (c.toNat - (j + 1)) + 1 by omega, prsA_succ] at ea
      refine ⟨_, rfl, p, dx4, _, rfl, e4, by rfl, _, rfl, _, rfl, _, _, rfl, rfl, H0, p, a, lt, m - 1, i + 1 + 2 * j, vs, ds, rfl, hR4, hij, by omega, by omega, by omega, by omega, fun t et H5 k5 hR5 => ?_, fun en => ?_⟩
      · rw [et] at ea
        dsimp only at ea
        obtain ⟨hlt, hb, _⟩ := tkD_lt et
        obtain ⟨z1, z2⟩ := btw_is hb
        have eq5 := k5 _ _ npq.symm eq4
        have hP5 := hP4.mono (fun t ys z => k5 t _ (fun e => by rw [e, e4] at z; cases z) z)
        have hxl : xs.length ≤ 10 := by rw [hP4.len, hrl]; omega
        have fin : ∀ (lo : Int) (w9 : Option V), (if t = lt then lp + 1 else 0) = lo → ∀ (x : Int) (H' : Hp) (u : Addr), tkD ds (i + 1 + 2 * j + 1) (btw lo (n - 1)) = some x → (∀ b o, b ≠ p → b ≠ q → H5 b = some o → H' b = some o) → RX K CR H0 p a vs ds H' (i + 1 + 2 * j + 1 + 1) → H' q = some (.lst (xs ++ [.ref u])) → Prs H' (xs ++ [.ref u]) (rs ++ [(t, x)]) → 0 ≤ lo →
            ∃ (rs' : List Pr) (lt' lp' : Int) (v7 v8 v9 v10 : Option V) (xs' : List V), [some (.ref p), some (.int m), some (.int n), some (.int c), some (.ref q), some (.int t), some (.int x), some (.int ((0 : Int) + (j : Int))), some (.int t), w9, some (.int x)] = [some (.ref p), some (.int m), some (.int n), some (.int c), some (.ref q), some (.int lt'), some (.int lp'), v7, v8, v9, v10] ∧ Kp p H H' ∧ RX K CR H0 p a vs ds H' (i + 1 + 2 * (j + 1)) ∧ i + 1 + 2 * (j + 1) ≤ ds.length ∧ H' q = some (.lst xs') ∧ Prs H' xs' rs' ∧ rs'.length = j + 1 ∧ 0 ≤ lt' ∧ lt' ≤ 24 ∧ -1 ≤ lp' ∧ lp' ≤ 6 ∧ prsA ds (m - 1) (n - 1) c.toNat (i + 1) 0 (-1) [] = prsA ds (m - 1) (n - 1) (c.toNat - (j + 1)) (i + 1 + 2 * (j + 1)) lt' lp' rs' := fun lo w9 el x H' u ex kk hR' eq' hP' hlo => by
          rw [el, ex] at ea
          obtain ⟨hlt2, hb2, _⟩ := tkD_lt ex
          obtain ⟨y1, y2⟩ := btw_is hb2
          refine ⟨rs ++ [(t, x)], t, x, _, _, _, _, xs ++ [.ref u], rfl, fun b o nb eb => kk _ _ nb (ne_of_none eb hqH) (k5 _ _ nb (k4 _ _ nb eb)), ?_, by omega, eq', hP', by rw [List.length_append, hrl]; rfl, by omega, by omega, by omega, by omega, ?_⟩
          · rw [show i + 1 + 2 * (j + 1) = i + 1 + 2 * j + 1 + 1 by omega]; exact hR'
          · rw [ea, show i + 1 + 2 * (j + 1) = i + 1 + 2 * j + 2 by omega]
        refine ⟨_, rfl, _, rfl, rfl, _, rfl, ite2 (fun d => ?_) (fun d => ?_)⟩
        · have d := of_decide_eq_true d
          injection d with d
          refine ⟨_, rfl, _, _, rfl, rfl, ?_⟩
          have el : (if t = lt then lp + 1 else 0) = lp + 1 := if_pos d
          exact hI _ _ H5 H0 p a q vs ds (i + 1 + 2 * j + 1) n xs rs (lp + 1) t _ _ _ _ _ _ rfl hR5 (by omega) (by omega) (by omega) hn1 hn6 q0 eq5 hP5 hxl (fun x H' u ex kk hR' eq' hP' => fin _ _ el x H' u ex kk hR' eq' hP' (by omega)) fun en => kx (i + 1 + 2 * j + 1) (by rw [ea, el, en])
        · have d' : ¬ t = lt := fun z => d (decide_eq_true (congrArg V.int z))
          have el : (if t = lt then lp + 1 else 0) = 0 := if_neg d'
          exact hI _ _ H5 H0 p a q vs ds (i + 1 + 2 * j + 1) n xs rs 0 t _ _ _ _ _ _ rfl hR5 (by omega) (by decide) (by decide) hn1 hn6 q0 eq5 hP5 hxl (fun x H' u ex kk hR' eq' hP' => fin _ _ el x H' u ex kk hR' eq' hP' (by decide)) fun en => kx (i + 1 + 2 * j + 1) (by rw [ea, el, en])
      · rw [en] at ea
        exact kx (i + 1 + 2 * j) ea
    · rintro σ H4 ⟨rs, lt, lp, v7, v8, v9, v10, xs, rfl, k4, hR4, hij, eq4, hP4, hrl, b1, b2, b3, b4, ea⟩
      rw [Nat.sub_self] at ea
      refine ⟨_, rfl, q, _, rfl, .inl ⟨SqL.of eq4, fun u hu => ?_⟩⟩
      have s5 := same_upd (o := .tup xs) hu
      exact k rs (i + 1 + 2 * c.toNat) ea hij _ u xs (k4.trans (sKp s5)) (hR4.mono s5) (hR4.s.free hu) upd_same (hP4.mono fun t ys z => s5 _ _ z)
end
end Dk

set_option Elab.async false
set_option linter.all false
set_option maxRecDepth 100000
set_option maxHeartbeats 4000000
namespace Dk
open PySem PySem.Spec PyProof.Rows L2 TL
theorem SubAt.cons {ns xs : List Int} {x : Int} {i : Nat} (h : ns[i]? = some x) (t : SubAt ns (i + 1) xs) : SubAt ns i (x :: xs) := fun j y e => by
  cases j with
  | zero => simp at e; subst e; exact h
  | succ j => rw [show i + (j + 1) = i + 1 + j by omega]; exact t j y (by simpa using e)
theorem SubAt.tab {ns : List Int} {ts : List Str} {i j : Nat} {t : Str} (h : SubAt ns i (ts.flatMap tabB)) (e : ts[j]? = some t) : SubAt ns (i + ((ts.take j).flatMap tabB).length) (tabB t) := by
  obtain ⟨hj, ex⟩ := List.getElem?_eq_some_iff.mp e
  have e2 : ts = ts.take j ++ (t :: ts.drop (j + 1)) := by
    rw [← ex, ← List.drop_eq_getElem_cons hj, List.take_append_drop]
  have h2 : SubAt ns i ((ts.take j).flatMap tabB ++ (tabB t ++ (ts.drop (j + 1)).flatMap tabB)) := by
    have : ts.flatMap tabB = (ts.take j).flatMap tabB ++ (tabB t ++ (ts.drop (j + 1)).flatMap tabB) := by
      conv => lhs; rw [e2]
      rw [List.flatMap_append, List.flatMap_cons]
    rw [← this]; exact h
  exact h2.right.left
structure EncAt (ns : List Int) (ts : List Str) (kk : Int) (cs : List Int) (rs : List Pr) : Prop where
  hd : ns[0]? = some 75
  ps : ns[1]? = some (ts.length : Int)
  tb : SubAt ns 2 (ts.flatMap tabB)
  ky : ns[2 + (ts.flatMap tabB).length]? = some kk
  cr : SubAt ns (2 + (ts.flatMap tabB).length + 1) ((cs.length : Int) :: cs)
  rm : SubAt ns (2 + (ts.flatMap tabB).length + 1 + 1 + cs.length) ((rs.length : Int) :: rs.flatMap prB)
  ck : ns[2 + (ts.flatMap tabB).length + 1 + 1 + cs.length + 1 + (rs.flatMap prB).length]? = some ((encB ts kk cs rs).sum % 256)
  ln : (encB ts kk cs rs).length = 2 + (ts.flatMap tabB).length + 1 + 1 + cs.length + 1 + (rs.flatMap prB).length
theorem enc_at (ts : List Str) (kk : Int) (cs : List Int) (rs : List Pr) : EncAt (enc ts kk cs rs) ts kk cs rs := by
  have S0 : SubAt (enc ts kk cs rs) 0 (encB ts kk cs rs ++ [(encB ts kk cs rs).sum % 256]) := fun j x e => by rw [Nat.zero_add]; exact e
  have S1 : SubAt (enc ts kk cs rs) 0 ((encC ts kk cs ++ [(rs.length : Int)]) ++ rs.flatMap prB) := S0.left
  have S2 : SubAt (enc ts kk cs rs) 0 (encC ts kk cs ++ [(rs.length : Int)]) := S1.left
  have S3 : SubAt (enc ts kk cs rs) 0 ((encT ts ++ [kk]) ++ ((cs.length : Int) :: cs)) := S2.left
  have S4 : SubAt (enc ts kk cs rs) 0 (encT ts ++ [kk]) := S3.left
  have S5 : SubAt (enc ts kk cs rs) 0 ([75, (ts.length : Int)] ++ ts.flatMap tabB) := S4.left
  have lT : (encT ts).length = 2 + (ts.flatMap tabB).length := by unfold encT; rw [List.length_append]; rfl
  have lC : (encC ts kk cs).length = 2 + (ts.flatMap tabB).length + 1 + 1 + cs.length := by
    unfold encC; rw [List.length_append, List.length_append, lT, List.length_cons]; show _ + 1 + (_ + 1) = _; omega
  have lB : (encB ts kk cs rs).length = 2 + (ts.flatMap tabB).length + 1 + 1 + cs.length + 1 + (rs.flatMap prB).length := by
    unfold encB; rw [List.length_append, List.length_append, lC]; rfl
  refine ⟨S5.left.head, S5.left.tail.head, S5.right, ?_, ?_, ?_, ?_, lB⟩
  · have := S4.right.head; rw [lT, Nat.zero_add] at this; exact this
  · have := S3.right; rw [List.length_append, lT, Nat.zero_add] at this; exact this
  · have h1 := S2.right.head
    have h2 := S1.right
    rw [lC, Nat.zero_add] at h1
    rw [List.length_append, lC, Nat.zero_add] at h2
    exact .cons h1 h2
  · have := S0.right.head; rw [lB, Nat.zero_add] at this; exact this
theorem cut_to {xs : List V} {n : Nat} (h : n ≤ xs.length) : cutV xs none (some (n : Int)) = xs.take n := by
  unfold cutV
  rw [HT.sIx_none, HT.sIx_nat, Nat.min_eq_left h]
  rfl
def spDecode (K : PySem.W.Frag) (CH : Addr) : Sp := fun vs H Q _ => ∃ (a : Addr) (ts : List Str) (k : Int) (cs : List Int) (rs : List Pr), vs = [.ref a] ∧ H a = some (.lst ((enc ts k cs rs).map V.int)) ∧ Parts ts k cs rs ∧ ∀ (H' : Hp) (p : Addr), Same H H' → H p = none → HouseAt K CH H' p ts k cs rs → Q (.ref p) H'
structure TxtDc (K : PySem.W.Frag) (mg : Str → Option Value) (CR fRI fRT fRC fRP : Addr) (fdRT fdRC fdRP : FuncData) : Prop where
  gR : mg "Reader" = some (.ref CR)
  M : Mk K CR fRI
  gRT : mg "read_table" = some (.ref fRT)
  FRT : Fun K "read_table" "read_table" sRdTable fRT fdRT
  bRT : Binds K fdRT ["reader"] []
  gRC : mg "read_careful" = some (.ref fRC)
  FRC : Fun K "read_careful" "read_careful" sRdCareful fRC fdRC
  bRC : Binds K fdRC ["reader", "persons"] []
  gRP : mg "read_pairs" = some (.ref fRP)
  FRP : Fun K "read_pairs" "read_pairs" sRdPairs fRP fdRP
  bRP : Binds K fdRP ["reader", "period", "persons"] []
abbrev nDec : List Str := ["code", "reader", "persons", "tables", "keys", "careful", "reminders", "_"]
section
variable {P : Program} {w : World} {K : PySem.W.Frag} {mg : Str → Option Value} {base : Heap} {CR fRI fTk fTB : Addr} {fdRI fdTk fdTB : FuncData} {fII fIB fHO : Addr} {fdII fdIB fdHO : FuncData} {CH pPs gPs fSm : Addr} {fdPs fdSm : FuncData} {fRT fRC fRP : Addr} {fdRT fdRC fdRP : FuncData}
  {C fI : Addr} {fdI : FuncData} {fIT fIR fAs : Addr} {fdIT fdIR fdAs : FuncData} {fP fT fK fC fR : Addr} {fdP fdT fdK fdC fdR : FuncData} {fH : Addr} {fdH : FuncData} {dvs : List V}
theorem scDec : FnScope nDec ["code"] (defScope sDecode) := ⟨rfl, rfl, rfl, by decide +kernel, rfl, by decide +kernel, by decide +kernel⟩
theorem ok_decode {f : Addr} {fd : FuncData} (F : Fun K "decode" "decode" sDecode f fd) (R : TxtRd K mg CR fRI fTk fTB fdRI fdTk fdTB) (Dc : TxtDc K mg CR fRI fRT fRC fRP fdRT fdRC fdRP) (N : TxtEn K mg CH pPs gPs fSm fdPs fdSm) (T : TxtA mg) (TC : TxtC mg) (TF : TxtF K mg fII fIB fHO fdII fdIB fdHO) (TI : TxtI K mg fIT fIR fAs fdIT fdIR fdAs) (TH : TxtIH K mg C fI fdI)
    (TL' : TxtL K mg CH fP fT fK fC fR fdP fdT fdK fdC fdR) (FH : FunD K "__init__" "House.__init__" (defArgs sInit) (defBody sInit) (defScope sInit) dvs [] fH fdH) (bH : Binds K fdH ["self", "tables", "keys", "careful", "reminders"] []) (M : Mk K CH fH) (gH : mg "House" = some (.ref CH)) :
    FnOk P w K mg base CX0 7 f fd ["code"] (spDecode K CH) := by
  have GH : FnOk P w K mg base (L2.CX P w) 5 fH fdH ["self", "tables", "keys", "careful", "reminders"] (spInit K CH C) := ok_init FH T TC TF TI TH TL'
  have GI : FnOk P w K mg base CX0 1 fRI fdRI ["self", "code"] (spRInit CR) := ok_rinit R
  have GT : FnOk P w K mg base CX0 2 fTk fdTk ["self", "allowed"] (spTakeR K CR) := ok_takeR R TF T
  have GB : FnOk P w K mg base CX0 3 fTB fdTB ["self", "low", "high"] (spTakeB K CR) := ok_takeb R TF T
  have GRT : FnOk P w K mg base CX0 4 fRT fdRT ["reader"] (spReadTab CR) := ok_readtab Dc.FRT R N TF T
  have GRC : FnOk P w K mg base CX0 4 fRC fdRC ["reader", "persons"] (spReadCar CR) := ok_readcar Dc.FRC R TF T
  have GRP : FnOk P w K mg base CX0 4 fRP fdRP ["reader", "period", "persons"] (spReadPrs CR) := ok_readprs Dc.FRP R TF T TI.rems
  have GPer : FnOk P w K mg base CX0 1 fP fdP ["tables"] (spPeriod K) := ok_period TL'.FP T TC
  have GS : FnOk P w K mg base CX0 1 fSm fdSm ["code"] (spSum K) := ok_sum N
  obtain ⟨t1, eH⟩ := N.header
  obtain ⟨t2, eMP⟩ := TI.most
  obtain ⟨t3, eMK⟩ := TI.keys
  refine F.ok scDec (fun vs H Q E h => ?_) (fun cdv A outer s H vs Q E hr h => ?_)
  · obtain ⟨a, ts, k, cs, rs, rfl, _⟩ := h
    rfl
  · obtain ⟨a, ts, kk, cs, rs, rfl, ea, hP, k⟩ := h
    have hr4 : Room 4 (A.deeper (envOfC (Str.ofString "decode") (defScope sDecode) s.heap.objs.size f cdv)) := hr.mono (by decide)
    have hr3 : Room 3 (A.deeper (envOfC (Str.ofString "decode") (defScope sDecode) s.heap.objs.size f cdv)) := hr.mono (by decide)
    have hr2 : Room 2 (A.deeper (envOfC (Str.ofString "decode") (defScope sDecode) s.heap.objs.size f cdv)) := hr.mono (by decide)
    have hr1 : Room 1 (A.deeper (envOfC (Str.ofString "decode") (defScope sDecode) s.heap.objs.size f cdv)) := hr.mono (by decide)
    refine ⟨_, pss_cons (ps_if (pt_not (pt_val (pe_callB call_isi (by rfl) TF.isinstance (by decide +kernel) (pa_cons (pv 0) (pa_cons (pe_bltn (v := .ty "list") (by rfl) R.list (by decide +kernel) rfl) pa_nil))))) (pss_one ps_never) pss_nil)
      (pss_cons (ps_set (i := 1) scDec.nd rfl (.inr rfl) (pe_make Dc.M GI hr2 rfl Dc.gR R.bRI .nil pass0 (pa_cons (pv 0) pa_nil)))
      (pss_cons (ps_expr (pe_meth (pv 1) R.cl R.mTk GT hr2 R.bTk .nil pass0 (pa_cons (pe_lst (pa_cons (pe_glob (v := .int 75) rfl eH ⟨_, rfl⟩) pa_nil)) pa_nil)))
      (pss_cons (ps_set (i := 2) scDec.nd rfl (.inl rfl) (pe_meth (pv 1) R.cl R.mTB GB hr3 R.bTB .nil pass0 (pa_cons pe_int (pa_cons (pe_glob (v := .int 6) rfl eMP ⟨_, rfl⟩) pa_nil))))
      (pss_cons (ps_set (i := 3) scDec.nd rfl (.inl rfl) (pe_callTy call_tuple_of (by rfl) TF.tuple (by decide +kernel) (pa_cons (pe_lc (own := [("_", 7)]) (g := gName 7) (by rfl) scDec.nd (pi_range1 rfl T.range (pa_cons (pv 2) pa_nil)) (blkOk_by (N := nDec) (sc := defScope sDecode) (by decide +kernel))
          (fun _ _ _ _ _ => pg_name (i := 7) scDec.nd rfl (Or.inl rfl)) (fun _ _ _ _ _ => pts_nil) (fun _ _ _ _ _ => pe_call GRT hr4 rfl Dc.gRT Dc.FRT.kp Dc.bRT .nil pass0 (pa_cons (pv 1) pa_nil))) pa_nil)))
      (pss_cons (ps_set (i := 4) scDec.nd rfl (.inl rfl) (pe_meth (pv 1) R.cl R.mTB GB hr3 R.bTB .nil pass0 (pa_cons pe_int (pa_cons (pe_glob (v := .int 9) rfl eMK ⟨_, rfl⟩) pa_nil))))
      (pss_cons (ps_set (i := 5) scDec.nd rfl (.inl rfl) (pe_call GRC hr4 rfl Dc.gRC Dc.FRC.kp Dc.bRC .nil pass0 (pa_cons (pv 1) (pa_cons (pv 2) pa_nil))))
      (pss_cons (ps_set (i := 6) scDec.nd rfl (.inl rfl) (pe_call GRP hr4 rfl Dc.gRP Dc.FRP.kp Dc.bRP .nil pass0 (pa_cons (pv 1) (pa_cons (pe_call GPer hr1 rfl TL'.gP TL'.FP.kp TL'.bP .nil pass0 (pa_cons (pv 3) pa_nil)) (pa_cons (pv 2) pa_nil)))))
      (pss_cons (ps_expr (pe_meth (pv 1) R.cl R.mTk GT hr2 R.bTk .nil pass0 (pa_cons (pe_lst (pa_cons (pe_call GS hr1 rfl N.gSm N.FSm.kp N.bSm .nil pass0 (pa_cons (pe_slice sl_list (pv 0) po_none (po_some (pe_fld (pv 1) rfl))) pa_nil)) pa_nil)) pa_nil)))
      (pss_cons (ps_if (pt_cmpR op_lt (pe_fld (pv 1) rfl) (pe_callB call_len_seq (by rfl) T.len PySem.boot_len (pa_cons (pv 0) pa_nil)) (nomark _)) (pss_one ps_never) pss_nil)
      (pss_one (ps_ret (pe_make M GH hr rfl gH bH .nil passL (pa_cons (pv 3) (pa_cons (pv 4) (pa_cons (pv 5) (pa_cons (pv 6) pa_nil)))))))))))))))), ?_⟩
    have EA := enc_at ts kk cs rs
    generalize hns : enc ts kk cs rs = ns at ea EA
    have n6 := hP.n6
    have n1 := hP.n1
    refine ⟨_, rfl, _, _, _, _, _, rfl, .ty "list", tyx (.lst (SqL.of ea) (dpAll_ints ns)), kit_ty (kit_lst (.list (ns.map PyData.int))), _, rfl, iteF ?_⟩
    -- the reader
    refine ⟨_, rfl, fun p dx hpn hdx npd => ?_⟩
    have sN : Same H (upd (upd H dx (.own p)) p (.ins CR dx [])) := fun b o e => by
      rw [upd_ne (ne_of_none e hpn), upd_ne (ne_of_none e hdx)]; exact e
    refine ⟨p, dx, a, rfl, upd_same, fun H1 k1 hR1' => ⟨rfl, ?_⟩⟩
    have nap : a ≠ p := ne_of_none ea hpn
    have hR1 : RSt CR H1 p a ns 0 := ⟨hR1', k1 _ _ nap (sN _ _ ea)⟩
    have s1 : Same H H1 := fun b o e => k1 _ _ (ne_of_none e hpn) (sN _ _ e)
    clear k1 sN hdx npd
    -- the header
    obtain ⟨dx1, e11⟩ := hR1.rd.ex
    refine ⟨_, rfl, p, dx1, _, rfl, e11, by rfl, by show 1 ≤ sizeLine; decide, fun l hl => ?_⟩
    have s2 := same_upd (o := .lst [V.int 75]) hl
    have hR1b := hR1.mono s2
    refine ⟨p, a, l, 0, ns, [75], 75, rfl, hR1b.rd, SqL.of hR1b.ls, EA.hd, .inl (SqL.of upd_same), by decide, fun H2 k2 hR2' => ?_⟩
    have hR2 := hR1b.kp k2 hR2'
    have q12 : Kp p H1 H2 := (sKp s2).trans k2
    clear k2 hR2' hR1b s2 hl
    -- how many persons
    obtain ⟨dx2, e22⟩ := hR2.rd.ex
    refine ⟨_, rfl, p, dx2, _, rfl, e22, by rfl, p, a, 1, 6, 1, ns, (ts.length : Int), rfl, hR2.rd, SqL.of hR2.ls, EA.ps, by omega, by omega, by decide, by decide, fun H3 k3 hR3' => ?_⟩
    have hR3 := hR2.kp k3 hR3'
    have q13 := q12.trans k3
    obtain ⟨dx3, e33⟩ := hR3.rd.ex
    -- the timetables
    refine ⟨_, rfl, (ts.length : Int), rfl, by omega, by omega, fun D hD => lc_range (lo := 0) (n := ((ts.length : Nat) : Int).toNat)
      (fun j H4 => Kp p H3 H4 ∧ RSt CR H4 p a ns (2 + ((ts.take j).flatMap tabB).length) ∧ H4 D = some (.lst ((ts.take j).map V.str)))
      ⟨sKp (same_upd hD), hR3.mono (same_upd hD), upd_same⟩ ?_ ?_⟩
    · rintro j H4 hj ⟨k4, hR4, eD⟩
      have hj : j < ts.length := by omega
      have ht : ts[j]? = some ts[j] := List.getElem?_eq_getElem hj
      generalize ts[j] = t at ht
      have npD : p ≠ D := ne_of_none e33 hD
      have naD : a ≠ D := ne_of_none hR3.ls hD
      refine ⟨rfl, _, rfl, p, a, ns, _, t, rfl, hR4, hP.tabs t (List.mem_of_getElem? ht), EA.tb.tab ht, fun H5 k5 hR5 => ?_⟩
      refine ⟨_, k5 _ _ npD.symm eD, ?_, fun b o nb eb => ?_, ?_, ?_⟩
      · rw [List.length_map, List.length_take]
        exact Nat.lt_of_le_of_lt (Nat.le_trans (Nat.min_le_left _ _) (by omega : j ≤ 1000)) (by decide)
      · rw [upd_ne (ne_of_none eb hD)]; exact k5 _ _ nb (k4 _ _ nb eb)
      · rw [take_flat ht, List.length_append, ← Nat.add_assoc]; exact hR5.put npD naD
      · rw [upd_same, take_more ht, List.map_append]; rfl
    rintro H4 ⟨k4, hR4, eD⟩
    rw [Int.toNat_natCast, List.take_length] at hR4 eD
    refine ⟨D, _, rfl, .inl ⟨SqL.of eD, fun aT haT => ?_⟩⟩
    have s5 := same_upd (o := .tup (ts.map V.str)) haT
    have eT : (upd H4 aT (.tup (ts.map V.str))) aT = some (.tup (ts.map V.str)) := upd_same
    have hR5 := hR4.mono s5
    have q15 := (q13.trans k4).trans (sKp s5)
    generalize upd H4 aT (.tup (ts.map V.str)) = H5 at eT hR5 q15
    clear eD hD s5 haT k4 hR4 q13 k3 hR3' q12
    have pT : ∀ {H' : Hp} {i : Nat}, RSt CR H' p a ns i → ∀ t ys, H' t = some (.tup ys) → t ≠ p := fun hR t ys h e => by
      obtain ⟨dx', e'⟩ := hR.rd.ex
      rw [e, e'] at h; cases h
    -- the keys
    obtain ⟨dx5, e55⟩ := hR5.rd.ex
    have k9 := hP.k9
    refine ⟨_, rfl, p, dx5, _, rfl, e55, by rfl, p, a, 0, 9, _, ns, kk, rfl, hR5.rd, SqL.of hR5.ls, EA.ky, hP.k0, by omega, by decide, by decide, fun H6 k6 hR6' => ?_⟩
    have hR6 := hR5.kp k6 hR6'
    have eT6 := k6 _ _ (pT hR5 _ _ eT) eT
    have q16 := q15.trans k6
    -- the careful persons
    refine ⟨_, rfl, _, rfl, p, a, ns, _, ts.length, cs, rfl, n6, hR6, EA.cr, hP.cp, hP.cm, fun H7 aC k7 hR7 _ eC => ?_⟩
    have eT7 := k7 _ _ (pT hR6 _ _ eT6) eT6
    have q17 := q16.trans k7
    -- the reminders
    have h24 : per ts ≤ 24 := Nat.le_of_dvd (by decide) (per_24 hP.tabs)
    refine ⟨_, rfl, _, rfl, aT, ts, rfl, SqT.of eT7, hP.tabs, _, rfl, p, a, ns, _, ts.length, per ts, rs, rfl, n6, h24, hR7, EA.rm, hP.rp, hP.r10, hP.rm, fun H8 aR xs k8 hR8 _ eR hX => ?_⟩
    have eT8 := k8 _ _ (pT hR7 _ _ eT7) eT7
    have eC8 := k8 _ _ (pT hR7 _ _ eC) eC
    have q18 := q17.trans k8
    -- the last byte
    rw [← EA.ln] at hR8
    have eck := EA.ck
    rw [← EA.ln] at eck
    obtain ⟨dx8, e88⟩ := hR8.rd.ex
    have hlen : ns.length = (encB ts kk cs rs).length + 1 := by rw [← hns]; unfold enc; rw [List.length_append]; rfl
    have ecut : cutV (ns.map V.int) none (some (((encB ts kk cs rs).length : Nat) : Int)) = (encB ts kk cs rs).map V.int := by
      rw [cut_to (by rw [List.length_map, hlen]; omega), ← hns]
      unfold enc
      rw [List.map_append, List.take_left' (by rw [List.length_map])]
    refine ⟨_, rfl, p, dx8, _, rfl, e88, by rfl, _, rfl, _, rfl, p, CR, dx8, _, _, rfl, e88, R.cl, R.nP, rF_place _ _, _, rfl, a, _, rfl, SqL.of hR8.ls, fun l hl => ?_⟩
    rw [ecut]
    have s9 := same_upd (o := .lst ((encB ts kk cs rs).map V.int)) hl
    have el : (upd H8 l (.lst ((encB ts kk cs rs).map V.int))) l = some (.lst ((encB ts kk cs rs).map V.int)) := upd_same
    have hR9 := hR8.mono s9
    have q19 := q18.trans (sKp (l := p) s9)
    have eT9 := s9 _ _ eT8
    have eC9 := s9 _ _ eC8
    have eR9 := s9 _ _ eR
    have hX9 : Prs (upd H8 l (.lst ((encB ts kk cs rs).map V.int))) xs rs := hX.mono fun t ys z => s9 _ _ z
    generalize upd H8 l (.lst ((encB ts kk cs rs).map V.int)) = H9 at el hR9 q19 eT9 eC9 eR9 hX9
    refine ⟨l, encB ts kk cs rs, rfl, SqL.of el, by show 1 ≤ sizeLine; decide, fun l2 hl2 => ?_⟩
    have s10 := same_upd (o := .lst [V.int ((encB ts kk cs rs).sum % 256)]) hl2
    have hR10 := hR9.mono s10
    refine ⟨p, a, l2, _, ns, [(encB ts kk cs rs).sum % 256], (encB ts kk cs rs).sum % 256, rfl, hR10.rd, SqL.of hR10.ls, eck, .inl (SqL.of upd_same), by simp, fun H11 k11 hR11' => ?_⟩
    have hR11 := hR10.kp k11 hR11'
    have cK : ∀ t ys, H9 t = some (.tup ys) → H11 t = some (.tup ys) := fun t ys z => k11 _ _ (pT hR10 _ _ (s10 _ _ z)) (s10 _ _ z)
    have eT11 := cK _ _ eT9
    have eC11 := cK _ _ eC9
    have eR11 := cK _ _ eR9
    have hX11 := hX9.mono cK
    have q111 := (q19.trans (sKp (l := p) s10)).trans k11
    have s011 : Same H H11 := fun b o e => q111 _ _ (ne_of_none e hpn) (s1 _ _ e)
    obtain ⟨dx11, e1111⟩ := hR11.rd.ex
    refine ⟨_, rfl, p, CR, dx11, _, _, rfl, e1111, R.cl, R.nP, rF_place _ _, _, rfl, a, _, rfl, .inl (SqL.of hR11.ls), _, _, rfl, rfl, _, rfl, ite2 (fun c => ?_) (fun _ => ?_)⟩
    · have c := of_decide_eq_true c
      rw [List.length_map, hlen] at c
      exact absurd c (Int.lt_irrefl _)
    -- the house
    refine ⟨_, rfl, _, rfl, _, rfl, _, rfl, ?_⟩
    intro u dxn hun hdx nud
    have sN : Same H11 (upd (upd H11 dxn (.own u)) u (.ins CH dxn [])) := fun b o e => by
      rw [upd_ne (ne_of_none e hun), upd_ne (ne_of_none e hdx)]; exact e
    refine ⟨u, dxn, .ref aT, .int kk, .ref aC, .ref aR, dStrs ts, .int kk, dInts cs, dPrs rs, rfl,
      dpSame sN _ _ (.tup (SqT.of eT11) (dpAll_strs ts)), .int _, dpSame sN _ _ (.tup (SqT.of eC11) (dpAll_ints _)), dpSame sN _ _ (.tup (SqT.of eR11) (dpAll_prs hX11)), ?_, upd_same, fun hc H12 k12 e12 => ⟨rfl, ?_⟩, fun part i hc => ?_⟩
    · intro ds hds y hy
      cases hds
      obtain ⟨t, ht, rfl⟩ := List.mem_map.mp hy
      show t.length ≤ 100000
      have := (hP.tabs t ht).pos.2
      rw [len_tl t]; omega
    · have s12 : Same H11 H12 := fun b o e => k12 b o (ne_of_none e hun) (sN _ _ e)
      exact k H12 u (s011.trans s12) (s011.free hun) ⟨⟨dxn, aT, aC, aR, xs, e12, SqT.of (s12 _ _ eT11), SqT.of (s12 _ _ eC11), SqT.of (s12 _ _ eR11), hX11.mono fun t ys h => s12 _ _ h⟩⟩
    · rw [parts_is hP] at hc; cases hc
end
end Dk

set_option Elab.async false
set_option linter.all false
set_option maxRecDepth 100000
set_option maxHeartbeats 4000000
namespace Dk
open PySem PySem.Spec PyProof.Rows L2 TL
def tabA (ds : List PyData) : Nat → Nat → List Str → Except Nat (List Str × Nat)
  | 0, i, acc => .ok (acc, i)
  | n + 1, i, acc => match rdTab ds i with
    | .error e => .error e
    | .ok (bs, j) => tabA ds n j (acc ++ [tabStr bs])
theorem tabA_succ (ds : List PyData) (n i : Nat) (acc : List Str) : tabA ds (n + 1) i acc = match rdTab ds i with | .error e => .error e | .ok (bs, j) => tabA ds n j (acc ++ [tabStr bs]) := rfl
def intD : PyData → Int
  | .int x => x
  | _ => 0
def sumD (ds : List PyData) : Int := (ds.map intD).sum
structure Dec where
  ts : List Str
  kk : Int
  cs : List Int
  rs : List Pr
def decEnd (ds : List PyData) (k : Nat) (r : Dec) : Except Nat Dec := match tkD ds k (fun x => decide (x ∈ [sumD (ds.take k) % 256])) with
  | none => .error k
  | some _ => if k + 1 < ds.length then .error (k + 1) else .ok r
def decRem (ds : List PyData) (n : Int) (ts : List Str) (kk : Int) (cs : List Int) (j : Nat) : Except Nat Dec := match rdPrs ds j ((per ts : Nat) : Int) n with
  | .error e => .error e
  | .ok (rs, k) => decEnd ds k ⟨ts, kk, cs, rs⟩
def decKey (ds : List PyData) (n : Int) (ts : List Str) (i : Nat) : Except Nat Dec := match tkD ds i (btw 0 9) with
  | none => .error i
  | some kk => match rdCar ds (i + 1) n with
    | .error e => .error e
    | .ok (cs, j) => decRem ds n ts kk cs j
def decR (ds : List PyData) : Except Nat Dec := match tkD ds 0 (fun x => decide (x ∈ [75])) with
  | none => .error 0
  | some _ => match tkD ds 1 (btw 1 6) with
    | none => .error 1
    | some n => match tabA ds n.toNat 2 [] with
      | .error e => .error e
      | .ok (ts, i) => decKey ds n ts i
/-! ### what was read are numbers -/
def IntsTo (ds : List PyData) (i : Nat) : Prop := ∀ j, j < i → ∃ x, ds[j]? = some (.int x)
theorem IntsTo.step {ds : List PyData} {i : Nat} {ok : Int → Bool} {x : Int} (h : IntsTo ds i) (e : tkD ds i ok = some x) : IntsTo ds (i + 1) := fun j hj => by
  rcases Nat.lt_or_ge j i with z | z
  · exact h j z
  · have : j = i := by omega
    subst this
    exact ⟨x, (tkD_lt e).2.2⟩
theorem letA_ints {ds : List PyData} : ∀ (n i : Nat) (acc : List Int) (r : List Int × Nat), IntsTo ds i → letA ds n i acc = .ok r → IntsTo ds r.2 ∧ (∀ b ∈ r.1, b ∈ acc ∨ btw 0 1 b = true)
  | 0, i, acc, r, h, e => by cases e; exact ⟨h, fun b hb => .inl hb⟩
  | n + 1, i, acc, r, h, e => by
    rw [letA_succ] at e
    split at e
    · cases e
    · rename_i x ex
      obtain ⟨h1, h2⟩ := letA_ints n _ _ r (h.step ex) e
      refine ⟨h1, fun b hb => ?_⟩
      rcases h2 b hb with z | z
      · rcases List.mem_append.mp z with z | z
        · exact .inl z
        · rw [List.mem_singleton.mp z]; exact .inr (tkD_lt ex).2.1
      · exact .inr z
theorem tl_letS {x : Int} : tl (letS x) = [if x = 0 then 111 else 104] := by unfold letS; split <;> rfl
theorem tl_tabStr (bs : List Int) : tl (tabStr bs) = bs.map fun x => if x = 0 then 111 else 104 := by
  unfold tabStr
  rw [join_eq, tl_join, List.map_map]
  have e : tl Str.empty = [] := rfl
  rw [e]
  induction bs with
  | nil => rfl
  | cons b bs ih =>
    cases bs with
    | nil => show tl (letS b) = _; rw [tl_letS]; rfl
    | cons c bs =>
      show tl (letS b) ++ ([] ++ joinL [] (((c :: bs).map (tl ∘ letS)))) = _
      rw [List.nil_append, ih, tl_letS]; rfl
theorem rdTab_ok {ds : List PyData} {i : Nat} {bs : List Int} {j : Nat} (h : IntsTo ds i) (e : rdTab ds i = .ok (bs, j)) : IntsTo ds j ∧ IsTab (tabStr bs) := by
  unfold rdTab at e
  split at e
  · cases e
  · rename_i l el
    have hl := of_decide_eq_true (tkD_lt el).2.1
    obtain ⟨h1, h2⟩ := letA_ints l.toNat (i + 1) [] (bs, j) (h.step el) e
    obtain ⟨_, h3⟩ := letA_acc l.toNat (i + 1) [] (bs, j) e
    have h3 : bs.length = 0 + l.toNat := h3
    refine ⟨h1, ?_, fun c hc => ?_⟩
    · rw [tl_tabStr, List.length_map, h3]
      unfold lens8 at hl
      simp only [List.mem_cons, List.not_mem_nil, or_false] at hl ⊢
      omega
    · rw [tl_tabStr] at hc
      obtain ⟨x, _, rfl⟩ := List.mem_map.mp hc
      by_cases z : x = 0
      · rw [if_pos z]; exact .inr rfl
      · rw [if_neg z]; exact .inl rfl
theorem carA_ints {ds : List PyData} {hi : Int} : ∀ (n i : Nat) (last : Int) (acc : List Int) (r : List Int × Nat), IntsTo ds i → carA ds hi n i last acc = .ok r → IntsTo ds r.2
  | 0, i, last, acc, r, h, e => by cases e; exact h
  | n + 1, i, last, acc, r, h, e => by
    rw [carA_succ] at e
    split at e
    · cases e
    · rename_i x ex
      exact carA_ints n _ _ _ r (h.step ex) e
theorem rdCar_ints {ds : List PyData} {i : Nat} {n : Int} {cs : List Int} {j : Nat} (h : IntsTo ds i) (e : rdCar ds i n = .ok (cs, j)) : IntsTo ds j := by
  unfold rdCar at e
  split at e
  · cases e
  · rename_i x ex
    exact carA_ints _ _ _ _ _ (h.step ex) e
theorem prsA_ints {ds : List PyData} {ht hp : Int} : ∀ (n i : Nat) (lt lp : Int) (acc : List Pr) (r : List Pr × Nat), IntsTo ds i → prsA ds ht hp n i lt lp acc = .ok r → IntsTo ds r.2
  | 0, i, lt, lp, acc, r, h, e => by cases e; exact h
  | n + 1, i, lt, lp, acc, r, h, e => by
    rw [prsA_succ] at e
    split at e
    · cases e
    · rename_i t et
      split at e
      · cases e
      · rename_i x ex
        exact prsA_ints n _ _ _ _ r ((h.step et).step ex) e
theorem rdPrs_ints {ds : List PyData} {i : Nat} {m n : Int} {rs : List Pr} {j : Nat} (h : IntsTo ds i) (e : rdPrs ds i m n = .ok (rs, j)) : IntsTo ds j := by
  unfold rdPrs at e
  split at e
  · cases e
  · rename_i x ex
    exact prsA_ints _ _ _ _ _ _ (h.step ex) e
theorem dp_intIs {K : PySem.W.Frag} {H : Hp} {v : V} {x : Int} (h : Dp K H v (.int x)) : v = .int x := by cases h; rfl
theorem take_ints {K : PySem.W.Frag} {H : Hp} : ∀ {vs : List V} {ds : List PyData} (k : Nat), DpAll K H vs ds → IntsTo ds k → k ≤ ds.length → vs.take k = ((ds.take k).map intD).map V.int
  | _, _, 0, _, _, _ => by simp
  | [], [], k + 1, .nil, _, h => by simp at h
  | v :: vs, d :: ds, k + 1, .cons a b, hi, h => by
    obtain ⟨x, ex⟩ := hi 0 (Nat.succ_pos _)
    have ex : d = .int x := Option.some.inj ex
    subst ex
    rw [dp_intIs a, List.take_succ_cons, List.take_succ_cons, List.map_cons, List.map_cons, take_ints k b (fun j hj => by have := hi (j + 1) (by omega); simpa using this) (by simpa using h)]
    rfl
end Dk

set_option Elab.async false
set_option linter.all false
set_option maxRecDepth 100000
set_option maxHeartbeats 2000000
/-! A generator's body where the consumer may change objects of its own (the addresses ch) between two items. -/
namespace Gq
open PySem PySem.Spec PyProof.Rows GenW L2
/-- the consumer's objects: none of the generator's, younger than its call -/
structure Far (X : Cx) (ch : List Addr) : Prop where
  yg : ∀ b ∈ ch, X.s_0.heap.objs.size ≤ b
  fr : ∀ b ∈ ch, b ≠ X.env.locals
  cl : ∀ b ∈ ch, ∀ x c, X.env.cells.lookup x = some c → c ≠ b
  pn : ∀ b ∈ ch, ∀ p ∈ X.pn, p.1 ≠ b
/-- they stand, and are no cells -/
def Stand (ch : List Addr) (s : Shared) : Prop := ∀ b ∈ ch, ∃ o, s.heap.get? b = some o ∧ ∀ v, o.data ≠ .cell v
/-- the generator runs; the consumer's objects are as they were when it was woken (t) -/
structure Run (X : Cx) (ch : List Addr) (t : Shared) (σ : L2.St) (H : Hp) (s : Shared) : Prop where
  st : Stand ch t
  inv : Inv X (pinsAt ch t.heap) σ H s
/-- what the consumer does while the generator sleeps -/
structure Took (ch : List Addr) (s s' : Shared) : Prop where
  os : s'.os = s.os
  bare : AllBare s'.gens
  keep : ∀ b o, b ∉ ch → s.heap.get? b = some o → s'.heap.get? b = some o
  st : Stand ch s'
theorem Run.pin {X : Cx} {ch : List Addr} {t s : Shared} {σ : L2.St} {H : Hp} (r : Run X ch t σ H s) {b : Addr} (hb : b ∈ ch) : ∃ o, t.heap.get? b = some o ∧ s.heap.get? b = some o ∧ H b = none ∧ b ≠ X.env.locals ∧ b ∉ X.fs := by
  obtain ⟨o, e, _⟩ := r.st b hb
  obtain ⟨h1, h2, h3, h4, _⟩ := r.inv.pin (b, o) (List.mem_append_right _ (mem_pinsAt hb e))
  exact ⟨o, e, h1, h2, h3, h4⟩
theorem Run.woken {X : Cx} {ch : List Addr} {t s s' : Shared} {σ : L2.St} {H : Hp} (f : Far X ch) (r : Run X ch t σ H s) (k : Took ch s s') : Run X ch s' σ H s' := by
  have nH : ∀ b u, H b = some u → b ∉ ch := fun b u e hb => by
    obtain ⟨_, _, _, n, _⟩ := r.pin hb
    rw [n] at e; cases e
  have I0 : Inv X [] σ H s := r.inv.pins_of fun p hp => absurd hp (by simp)
  obtain ⟨hh, g, d, tk, o⟩ := s'
  have ho : o = s.os := k.os
  subst ho
  have J : Inv X [] σ H { s with heap := hh, gens := g, drawn := d, toks := tk } := by
    refine I0.step (g' := g) (t' := tk) (d' := d) (ch := ch) (fun b hb => ⟨.inr (f.yg b hb), f.fr b hb, f.cl b hb, fun p hp => ?_⟩) (fun b ob _ _ nc e _ => k.keep b ob nc e) (fun b ob _ _ nc e _ => ⟨ob.slots, k.keep b ob nc e⟩) (fun _ _ _ _ n => n)
      (fun b ob nc e => ⟨ob, k.keep b ob nc e⟩) (fun _ _ q => q) (fun _ _ _ q => q) (fun b ps q => ⟨#[], by rw [q]; simp⟩) (fun m hm => ?_) (fun b u q => ?_) k.bare
    · rcases List.mem_append.mp hp with hp | hp
      · exact f.pn b hb p hp
      · exact absurd hp (by simp)
    · obtain ⟨ob, es, ep, e, rr⟩ := hm
      exact ⟨ob, es, ep, k.keep _ ob (fun hb => f.fr _ hb rfl) e, rr⟩
    · refine (I0.hok b u q).stay (fun c v hc y => k.keep c v ?_ y) (fun _ y => y) fun _ _ y => y
      rcases hc with y | y
      · rw [y]; exact nH b u q
      · exact nH c _ y
  refine ⟨k.st, J.pins_of fun p hp => ?_⟩
  obtain ⟨hb, e⟩ := of_pinsAt hp
  obtain ⟨o, e', nc⟩ := k.st p.1 hb
  obtain ⟨_, _, _, n1, n2, n3⟩ := r.pin hb
  have eo : o = p.2 := Option.some.inj (e'.symm.trans e)
  subst eo
  exact ⟨e, n1, n2, n3, nc⟩
/-! ### statements -/
structure Ge where
  nx : List V → L2.St → Hp → Prop
  rt : List V → VK
  bk : List V → L2.St → Hp → Prop := fun _ _ _ => False
  ct : List V → L2.St → Hp → Prop := fun _ _ _ => False
def Ge.at (D : Ge) (ys : List V) : Ends := { nx := D.nx ys, rt := D.rt ys, bk := D.bk ys, ct := D.ct ys }
abbrev Tq := Ge → List V → L2.St → Hp → Prop
def Aft (X : Cx) (ch : List Addr) (t : Shared) (D : Ge) (ys : List V) : Flow → Shared → Prop
  | .next, s => ∃ σ H, Run X ch t σ H s ∧ D.nx ys σ H
  | .brk, s => ∃ σ H, Run X ch t σ H s ∧ D.bk ys σ H
  | .cont, s => ∃ σ H, Run X ch t σ H s ∧ D.ct ys σ H
  | .ret u, s => ∃ v σ H, Run X ch t σ H s ∧ RelV v u ∧ D.rt ys v H
section
variable (X : Cx) (ch : List Addr) (N : Nat) (Yl : List V → V → Hp → Prop)
/-- an item is handed out; Yl tells of it -/
def Yq : Protocol := fun n t v s kap => ∃ ys x σ H, n + 1 + ys.length = N ∧ RelV x v ∧ Run X ch t σ H s ∧ Yl ys x H ∧ ∀ s', Took ch s s' → kap (.send .none) s'
structure At (A : Around) (c : Code) (fs : List Frame) (gd : Bool → Bool) : Prop where
  far : Far X ch
  over : A.over c fs = X.A
  sp : splitAtGen fs = none
  gu : fs.any Frame.guarded = false
  gd : gd false = false
structure Then (A : Around) (R : GenEnd) (c : Code) (fs : List Frame) (K : Flow → Sem PySem.Fin) (J : Value → Sem PySem.Fin) (D : Ge) : Prop where
  ok : ∀ (n : Nat) (ys : List V) (t s : Shared) (f : Flow), n + ys.length = N → Aft X ch t D ys f s → Seg (model X.prog X.w) A R (Yq X ch N Yl) n t c (K f) fs s
  ex : ∀ (n : Nat) (t : Shared) (e : Value) (s : Shared), X.xe e s → Seg (model X.prog X.w) A R (Yq X ch N Yl) n t c (J e) fs s
structure Sq (st : Stmt) (q : Tq) : Prop where
  run : ∀ (A : Around) (R : GenEnd) (n : Nat) (ys : List V) (t : Shared) (c : Code) (fs : List Frame) (K : Flow → Sem PySem.Fin) (J : Value → Sem PySem.Fin) (gd : Bool → Bool) (lv : List Value → List Value) (s : Shared) (σ : L2.St) (H : Hp) (D : Ge),
    At X ch A c fs gd → n + ys.length = N → Then X ch N Yl A R c fs K J D → Run X ch t σ H s → q D ys σ H → Seg (model X.prog X.w) A R (Yq X ch N Yl) n t c ((exec st X.env).wrap K J gd lv) fs s
structure Sqs (st : List Stmt) (q : Tq) : Prop where
  run : ∀ (A : Around) (R : GenEnd) (n : Nat) (ys : List V) (t : Shared) (c : Code) (fs : List Frame) (K : Flow → Sem PySem.Fin) (J : Value → Sem PySem.Fin) (gd : Bool → Bool) (lv : List Value → List Value) (s : Shared) (σ : L2.St) (H : Hp) (D : Ge),
    At X ch A c fs gd → n + ys.length = N → Then X ch N Yl A R c fs K J D → Run X ch t σ H s → q D ys σ H → Seg (model X.prog X.w) A R (Yq X ch N Yl) n t c ((execs st X.env).wrap K J gd lv) fs s
end
section
variable {X : Cx} {ch : List Addr} {N : Nat} {Yl : List V → V → Hp → Prop} {st : Stmt} {rest : List Stmt}
def qP (u : TS) : Tq := fun D ys σ H => u (D.at ys) σ H
theorem aft_of {t s : Shared} {D : Ge} {ys : List V} {f : Flow} (h0 : Stand ch t) (h : SP X (pinsAt ch t.heap) (D.at ys) f s) : Aft X ch t D ys f s := by
  cases f with
  | next => obtain ⟨σ, H, I, q⟩ := h; exact ⟨σ, H, ⟨h0, I⟩, q⟩
  | brk => obtain ⟨σ, H, I, q⟩ := h; exact ⟨σ, H, ⟨h0, I⟩, q⟩
  | cont => obtain ⟨σ, H, I, q⟩ := h; exact ⟨σ, H, ⟨h0, I⟩, q⟩
  | ret u => obtain ⟨v, σ, H, I, r, q⟩ := h; exact ⟨v, σ, H, ⟨h0, I⟩, r, q⟩
theorem sq_ps {u : TS} (h : PS X st u) : Sq X ch N Yl st (qP u) := by
  refine ⟨fun A R n ys t c fs K J gd lv s σ H D a hn k r hu => seg_wrap ?_⟩
  rw [a.over]
  exact wpAny_mono (h.run _ s σ H (D.at ys) r.inv hu) (fun f s' q => k.ok n ys t s' f hn (aft_of r.st q)) fun e s' q => k.ex n t e s' q
theorem sqs_nil : Sqs X ch N Yl [] (fun D ys σ H => D.nx ys σ H) :=
  ⟨fun A R n ys t c fs K J gd lv s σ H D a hn k r hu => seg_execs_nil (k.ok n ys t s .next hn ⟨σ, H, r, hu⟩)⟩
theorem sqs_cons {q1 q2 : Tq} (h1 : Sq X ch N Yl st q1) (h2 : Sqs X ch N Yl rest q2) : Sqs X ch N Yl (st :: rest) (fun D ys σ H => q1 { D with nx := fun ys' σ' H' => q2 D ys' σ' H' } ys σ H) := by
  refine ⟨fun A R n ys t c fs K J gd lv s σ H D a hn k r hu => seg_execs_cons ?_⟩
  refine h1.run A R n ys t c fs _ J gd lv s σ H _ a hn ⟨fun n' ys' t' s' f hn' hf => ?_, k.ex⟩ r hu
  cases f with
  | next =>
    obtain ⟨σ', H', r', hq⟩ := hf
    exact h2.run A R n' ys' t' c fs K J gd lv s' σ' H' D a hn' k r' hq
  | brk => exact k.ok n' ys' t' s' .brk hn' hf
  | cont => exact k.ok n' ys' t' s' .cont hn' hf
  | ret u => exact k.ok n' ys' t' s' (.ret u) hn' hf
/-- yield e -/
def qY (N : Nat) (Yl : List V → V → Hp → Prop) (te : TE) : Tq := fun D ys σ H => ys.length < N ∧ te σ H fun x H1 => Yl ys x H1 ∧ D.nx (ys ++ [x]) σ H1
theorem sq_yield {e : Expr} {te : TE} {yp pos : Pos} (he : PE X e te) (hco : X.env.scope.isCoroutine = false := by rfl) (hi : interactive X.env = false := by rfl) : Sq X ch N Yl (.Expr (.Yield (some e) yp) pos) (qY N Yl te) := by
  refine ⟨fun A R n ys t c fs K J gd lv s σ H D a hn k r hu => ?_⟩
  obtain ⟨hl, hu⟩ := hu
  obtain ⟨m, rfl⟩ : ∃ m, n = m + 1 := ⟨n - 1, by omega⟩
  refine seg_Expr_Yield a.sp a.gd a.gu ?_ hco hi
  rw [a.over]
  refine wpAny_mono (he.run _ s σ H _ r.inv hu) (fun v s' hv => ?_) fun x s' hx => k.ex _ t x s' hx
  obtain ⟨x, H1, I1, rv, hy, hq⟩ := hv
  have r1 : Run X ch t σ H1 s' := ⟨r.st, I1⟩
  intro kap hk
  refine ⟨ys, x, σ, H1, hn, rv, r1, hy, fun s'' z => hk .none s'' ?_⟩
  refine k.ok m (ys ++ [x]) s'' s'' .next ?_ ⟨σ, H1, r1.woken a.far z, hq⟩
  rw [List.length_append, List.length_singleton]; omega
end
end Gq

set_option Elab.async false
set_option linter.all false
set_option maxRecDepth 100000
set_option maxHeartbeats 2000000
namespace Gq
open PySem PySem.Spec PyProof.Rows GenW L2
section
variable {X : Cx} {ch : List Addr} {N : Nat} {Yl : List V → V → Hp → Prop}
theorem at_in {A : Around} {c c' : Code} {fs : List Frame} {gd : Bool → Bool} {k : Result → Sem PySem.Fin} {l kp : List Value} {p : Pos} (a : At X ch A c fs gd) (hw : c'.weight = 0) (hu : c'.cUnits = 0) : At X ch A c' (.ret k none (gd false) l c p kp :: fs) id := by
  refine ⟨a.far, (over_loop hw hu).trans a.over, ?_, ?_, rfl⟩
  · show (splitAtGen fs).map _ = none
    simp [a.sp]
  · show (gd false || fs.any Frame.guarded) = false
    simp [a.gd, a.gu]
/-- what stands behind a loop -/
abbrev outK (X : Cx) (K : Flow → Sem PySem.Fin) (J : Value → Sem PySem.Fin) (gd : Bool → Bool) (lv : List Value → List Value) : Result → Sem PySem.Fin :=
  fun r => ((match r with
    | .ok f => (.pure f : Sem Flow)
    | .error e => .raise e).onRaise (cameBack X.env)).wrap K J gd lv
/-- an exception that came back out of a loop -/
theorem back_seg {A : Around} {R : GenEnd} {c : Code} {fs : List Frame} {K : Flow → Sem PySem.Fin} {J : Value → Sem PySem.Fin} {gd : Bool → Bool} {lv : List Value → List Value} {D : Ge} {n : Nat} {t s : Shared} {e : Value} (a : At X ch A c fs gd) (k : Then X ch N Yl A R c fs K J D)
    (h : cameBackBy (model X.prog X.w) X.A X.env X.xe e s) : Seg (model X.prog X.w) A R (Yq X ch N Yl) n t c (outK X K J gd lv (.error e)) fs s := by
  show Seg _ _ _ _ _ _ _ (((cameBack X.env e).bind fun _ => Sem.raise (α := Flow) e).wrap K J gd lv) _ _
  rw [Sem.bind_eq_wrap, Sem.wrap_wrap]
  refine seg_wrap ?_
  rw [a.over]
  exact wpAny_mono h (fun _ s' q => k.ex n t e s' q) fun y s' q => k.ex n t y s' q
def qW (tc : TT) (tb : Tq) : Tq := fun D ys σ H => ∃ W : Nat → List V → L2.St → Hp → Prop, (∃ m, W m ys σ H) ∧
  ∀ m ys σ H, W m ys σ H → tc σ H fun b H1 => if b = true then ∃ Nx : List V → L2.St → Hp → Prop, (∀ ys' σ' H', Nx ys' σ' H' → ∃ m', m' < m ∧ W m' ys' σ' H') ∧ tb { D with nx := Nx, ct := Nx, bk := D.nx } ys σ H1 else D.nx ys σ H1
theorem sq_while {test : Expr} {body : List Stmt} {pos : Pos} {tc : TT} {tb : Tq} (hp : PassesOwn (model X.prog X.w) X.A X.env X.xe) (hc : PT X test tc) (hb : Sqs X ch N Yl body tb) : Sq X ch N Yl (.While test body [] pos) (qW tc tb) := by
  refine ⟨fun A R n ys t c fs K J gd lv s σ H D a hn k r hu => ?_⟩
  obtain ⟨W, ⟨m0, w0⟩, turn⟩ := hu
  refine seg_While fun p => ?_
  have inn := fun (kk : Result → Sem PySem.Fin) => at_in (k := kk) (c' := .whileLoop test body [] X.env) (l := lv []) (kp := []) (p := p) a rfl rfl
  have all : ∀ (m n : Nat) (ys : List V) (t s : Shared) (σ : L2.St) (H : Hp), n + ys.length = N → W m ys σ H → Run X ch t σ H s →
      Seg (model X.prog X.w) A R (Yq X ch N Yl) n t (.whileLoop test body [] X.env) ((model X.prog X.w).den (.whileLoop test body [] X.env)) (.ret (outK X K J gd lv) none (gd false) (lv []) c p [] :: fs) s := by
    intro m
    induction m using Nat.strongRecOn with
    | ind m ih =>
      intro n ys t s σ H hn w r
      have out : ∀ (n : Nat) (t : Shared) (x : Value) (s' : Shared), X.xe x s' → Seg (model X.prog X.w) A R (Yq X ch N Yl) n t (.whileLoop test body [] X.env)
          ((do noteFrame x X.env; theTreesLotGoes x : Sem Unit).wrap (fun _ => .raise x) .raise id id) (.ret (outK X K J gd lv) none (gd false) (lv []) c p [] :: fs) s' := by
        intro n t x s' hx
        refine seg_wrap ?_
        rw [(inn _).over]
        refine wpAny_bind (wpAny_mono (hp x s' hx) (fun _ s2 q => wpAny_theTreesLotGoes (seg_leaf (.error x) (back_seg a k q))) fun y s2 q => seg_leaf (.error y) (back_seg a k q))
      refine seg_whileLoop ?_
      rw [(inn _).over]
      refine wpAny_mono (hc.run _ s σ H _ r.inv (turn m ys σ H w)) (fun b s' hb' => ?_) fun x s' hx => out n t x s' hx
      obtain ⟨H2, I2, q2⟩ := hb'
      have r2 : Run X ch t σ H2 s' := ⟨r.st, I2⟩
      by_cases cb : b = true
      · subst cb
        rw [if_pos rfl] at q2 ⊢
        obtain ⟨Nx, hNx, q2⟩ := q2
        refine hb.run A R n ys t _ _ _ _ id id s' σ H2 _ (inn _) hn ⟨fun n' ys' t' s3 f hn' hf => ?_, fun n' t' x s3 hx => out n' t' x s3 hx⟩ r2 q2
        have more : ∀ {ys' : List V} {σ3 : L2.St} {H3 : Hp} {n' : Nat} {t' s3 : Shared}, n' + ys'.length = N → Run X ch t' σ3 H3 s3 → Nx ys' σ3 H3 → Seg (model X.prog X.w) A R (Yq X ch N Yl) n' t' (.whileLoop test body [] X.env) (.pure (.again (.whileLoop test body [] X.env))) (.ret (outK X K J gd lv) none (gd false) (lv []) c p [] :: fs) s3 := by
          intro ys' σ3 H3 n' t' s3 hn' r3 hx
          obtain ⟨m', hm, w'⟩ := hNx ys' σ3 H3 hx
          exact seg_again rfl (ih m' hm n' ys' t' s3 σ3 H3 hn' w' r3)
        cases f with
        | next => obtain ⟨σ3, H3, r3, q3⟩ := hf; exact more hn' r3 q3
        | cont => obtain ⟨σ3, H3, r3, q3⟩ := hf; exact more hn' r3 q3
        | brk => exact seg_leaf (.ok .next) (k.ok n' ys' t' s3 .next hn' hf)
        | ret v => exact seg_leaf (.ok (.ret v)) (k.ok n' ys' t' s3 (.ret v) hn' hf)
      · rw [if_neg cb] at q2 ⊢
        exact seg_execs_nil (seg_leaf (.ok .next) (k.ok n ys t s' .next hn ⟨σ, H2, r2, q2⟩))
  exact all m0 n ys t s σ H hn w0 r
end
end Gq

set_option autoImplicit false
set_option Elab.async false
set_option linter.all false
set_option maxRecDepth 100000
set_option maxHeartbeats 2000000
namespace Gq
open PySem PySem.Spec PyProof.Rows GenW L2
/-- what the def's state and the consumer's objects are, seen from outside -/
structure Seen (P : Program) (w : World) (outer : List Env) (H : Hp) (s0 : Shared) (ch : List Addr) (t : Shared) (H' : Hp) (s : Shared) : Prop where
  os : s.os = s0.os
  bare : AllBare s.gens
  lim : s.heap.NoLimit
  un : Un (frs outer) [] H H' s0.heap s.heap
  ok : HOk P w H' s.heap
  mine : ∀ b ∈ ch, H' b = none ∧ ∃ o, t.heap.get? b = some o ∧ s.heap.get? b = some o
/-- an item, seen from outside -/
def Item (P : Program) (w : World) (outer : List Env) (H : Hp) (s0 : Shared) (ch : List Addr) (N : Nat) (Yl : List V → V → Hp → Prop) (a : Addr) (g : Nat) : Protocol := fun n t v s kap =>
  ∃ ys x H', n + 1 + ys.length = N ∧ RelV x v ∧ Seen P w outer H s0 ch t H' s ∧ s.heap.IsGen a g ∧ Yl ys x H' ∧ ∀ s', Took ch s s' → kap (.send .none) s'
/-- the end, seen from outside: nothing is let out -/
def Over (P : Program) (w : World) (outer : List Env) (H : Hp) (s0 : Shared) (ch : List Addr) (N : Nat) (Q : List V → Hp → Prop) : GenEnd := fun n t r s =>
  (r = .ok (.ret .none) ∨ r = .ok .next) ∧ ∃ ys H', n + ys.length = N ∧ Seen P w outer H s0 ch t H' s ∧ Q ys H'
/-- a generator that has not begun -/
def Born (P : Program) (w : World) (k : Nat) (outer : List Env) (H : Hp) (s0 : Shared) (N : Nat) (Yl : List V → V → Hp → Prop) (Q : List V → Hp → Prop) (u : Value) (s' : Shared) : Prop :=
  ∃ (a : Addr) (g : Nat) (c : Code), u = .ref a ∧ s0.heap.objs.size ≤ a ∧ a < s'.heap.objs.size ∧ s'.heap.IsGen a g ∧ s'.gens[g]? = some (.fresh c) ∧ s'.os = s0.os ∧ AllBare s'.gens ∧ s'.heap.NoLimit ∧ (∀ b o, s0.heap.get? b = some o → s'.heap.get? b = some o) ∧
    ∀ (A : Around) (ch : List Addr) (s2 : Shared), Room k A → A.frames = some outer → (∀ b ∈ ch, s'.heap.objs.size ≤ b) → (∀ b o, s'.heap.get? b = some o → s2.heap.get? b = some o) → Stand ch s2 → s2.os = s0.os → AllBare s2.gens →
      Seg (model P w) A (Over P w outer H s0 ch N Q) (Item P w outer H s0 ch N Yl a g) N s2 c ((model P w).den c) [] s2
abbrev SpQ := List V → Hp → Nat → (List V → V → Hp → Prop) → (List V → Hp → Prop) → Prop
structure GdOk (P : Program) (w : World) (K : PySem.W.Frag) (mg : Str → Option Value) (base : Heap) (k : Nat) (f : Addr) (fd : FuncData) (ps : List Str) (sp : SpQ) : Prop where
  len : ∀ vs H N Yl Q, sp vs H N Yl Q → vs.length = ps.length
  run : ∀ (A : Around) (outer : List Env) (s : Shared) (H : Hp) (args : Args) (us : List Value) (vs : List V) (N : Nat) (Yl : List V → V → Hp → Prop) (Q : List V → Hp → Prop), Room k A → Env0 P w K mg base A outer s H → BindsTo s fd args (ps.zip us) → Vals vs us → sp vs H N Yl Q →
    codeAny (model P w) A (.call (.ref f) args) (fun r s' => match r with
      | .ok (.ret u) => Born P w k outer H s N Yl Q u s'
      | _ => False) s
theorem gd_of {P : Program} {w : World} {K : PySem.W.Frag} {mg : Str → Option Value} {base : Heap} {k : Nat} {f : Addr} {name qual : Str} {params : Arguments} {body : List Stmt} {scope : Scope} {dV kV doc pm cdv ct oc : Value} {an od : Option Addr} {osl : Array (Option Value)} {Ns ps : List Str} {sp : SpQ}
    (lk : K.lookup f = some ⟨oc, od, .func (PySem.W.fnOf name qual params body scope dV kV doc pm an cdv ct), osl⟩) (hcd : PySem.W.codeIn K cdv qual = true) (S : GScope Ns ps scope) (len : ∀ vs H N Yl Q, sp vs H N Yl Q → vs.length = ps.length)
    (hbody : ∀ (A : Around) (outer : List Env) (s : Shared) (H : Hp) (vs : List V) (N : Nat) (Yl : List V → V → Hp → Prop) (Q : List V → Hp → Prop) (pn : List (Addr × Obj)) (ch : List Addr), Room k (A.deeper (envOfC qual scope s.heap.objs.size f cdv)) → sp vs H N Yl Q →
      ∃ q, Sqs (gcxOf P w K mg base Ns qual scope f cdv A outer s H E0 pn) ch N Yl body q ∧ q { nx := fun ys _ H' => Q ys H', rt := fun ys v H' => v = .non ∧ Q ys H' } [] (start Ns vs) H) :
    GdOk P w K mg base (k + 1) f (PySem.W.fnOf name qual params body scope dV kV doc pm an cdv ct) ps sp := by
  refine ⟨len, fun A outer s H args us vs N Yl Q hr e0 hb rv hsp => ?_⟩
  have hl := len _ _ _ _ _ hsp
  have KX : K.In s.heap := e0.mod.kin.keeps fun b o e => (e0.bs b o e).1
  have lim : s.heap.NoLimit := e0.mod.nolimit.keeps fun b o e => (e0.bs b o e).1
  have hk : ∀ y ∈ ps.zip us, scope.names.lookup y.1 = some .local ∨ (scope.names.lookup y.1 = some .cell ∧ ((cellsFrom (s.heap.objs.size + 1) scope.names []).lookup y.1).isSome = true) := by
    rintro ⟨x, v⟩ hy
    rcases S.par x (List.of_mem_zip hy).1 with q | q
    · exact .inl q
    · exact .inr ⟨q, PySem.W.cellsFrom_some _ _ _ (.inl q)⟩
  refine codeAny_call_generator hr.depth (KX _ _ lk) rfl S.co S.gen rfl (PySem.W.codeRec_of KX hcd) (hb _ _ _ _ (wpAny_newFunctionEnv_cells S.kind hk fun env he s1 x => ?_))
  subst he
  have lim1 : s1.heap.NoLimit := lim.keeps x.toInCall.keep
  refine ⟨lim1, ?_⟩
  obtain ⟨h1, tk, es, hk1⟩ := x.done
  have os1 : s1.os = s.os := by rw [es]
  have gs1 : s1.gens = s.gens := by rw [es]
  have lt1 : s.heap.objs.size < s1.heap.objs.size := x.toInCall.ns.lt
  have kp1 : ∀ b o, s.heap.get? b = some o → s1.heap.get? b = some o := x.toInCall.keep
  have go : ∀ (ob : Obj) (nm qn : Value) (tk2 : Nat), ob.cls = .type "generator" → ob.data = .fields #[.int s1.gens.size 0, nm, qn] → ob.slots = #[] → (∀ h : Heap, (h.push ob).get? h.objs.size = some ob) →
      Born P w (k + 1) outer H s N Yl Q (.ref s1.heap.objs.size) { s1 with gens := s1.gens.push (.fresh (.func body (envOfC qual scope s.heap.objs.size f cdv))), toks := tk2, heap := s1.heap.push ob } := by
    intro ob nm qn tk2 oc od osl' op
    have isg : ∀ h : Heap, h.get? s1.heap.objs.size = some ob → h.IsGen s1.heap.objs.size s1.gens.size := fun h e => ⟨ob, nm, qn, e, oc, od, osl'⟩
    refine ⟨s1.heap.objs.size, s1.gens.size, _, rfl, Nat.le_of_lt lt1, ?_, isg _ (op _), Array.getElem?_push_size .., os1, AllBare.push (by rw [gs1]; exact e0.bare) rfl, lim1.keeps fun b o e => Heap.get?_push_of_some _ e, fun b o e => Heap.get?_push_of_some _ (kp1 b o e), ?_⟩
    · show _ < (s1.heap.push _).objs.size
      rw [Heap.size_push]; exact Nat.lt_succ_self _
    intro Aw ch s2 hrw hfr hch hk2 hst hos hba
    have e0w : Env0 P w K mg base Aw outer s H := ⟨hfr, e0.mod, e0.bs, e0.bsz, e0.funs, e0.frf, e0.hok, e0.bare⟩
    obtain ⟨q, hq, hqr⟩ := hbody Aw outer s H vs N Yl Q [(s1.heap.objs.size, ob)] ch (hrw.deeper _) hsp
    have I1 : Inv (gcxOf P w K mg base Ns qual scope f cdv Aw outer s H E0 []) [] (start Ns vs) H s1 := inv_startG S hrw.hd e0w hl rv x
    have kp2 : ∀ b o, s1.heap.get? b = some o → s2.heap.get? b = some o := fun b o e => hk2 b o (Heap.get?_push_of_some _ e)
    have I2 : Inv (gcxOf P w K mg base Ns qual scope f cdv Aw outer s H E0 []) [] (start Ns vs) H s2 :=
      I1.call' (ch := []) (hos.trans os1.symm) (Un.kept kp2) (I1.hok.kept kp2) hba fun b z => by simp at z
    have hch2 : ∀ b ∈ ch, s1.heap.objs.size < b := fun b hb' => by
      have z : (s1.heap.push ob).objs.size ≤ b := hch b hb'
      rw [Heap.size_push] at z
      exact z
    have eob : s2.heap.get? s1.heap.objs.size = some ob := hk2 _ ob (op _)
    have nod : ∀ v, ob.data ≠ .cell v := fun v z => by rw [od] at z; cases z
    have yng : ∀ b, s1.heap.objs.size ≤ b → H b = none ∧ b ≠ s.heap.objs.size ∧ b ∉ frs outer ∧ s.heap.objs.size ≤ b ∧ ∀ y c, (cellsFrom (s.heap.objs.size + 1) scope.names []).lookup y = some c → c ≠ b := fun b hb' => by
      refine ⟨I1.hok.fresh hb', Nat.ne_of_gt (Nat.lt_of_lt_of_le lt1 hb'), I1.nofs hb', Nat.le_trans (Nat.le_of_lt lt1) hb', fun y c e z => ?_⟩
      obtain ⟨v, o', ho, _⟩ := I1.cell y c e
      have hlt := Heap.lt_size ho
      rw [z] at hlt
      exact absurd (Nat.lt_of_lt_of_le hlt hb') (Nat.lt_irrefl _)
    have far : Far (gcxOf P w K mg base Ns qual scope f cdv Aw outer s H E0 [(s1.heap.objs.size, ob)]) ch :=
      ⟨fun b hb' => (yng b (Nat.le_of_lt (hch2 b hb'))).2.2.2.1, fun b hb' => (yng b (Nat.le_of_lt (hch2 b hb'))).2.1, fun b hb' => (yng b (Nat.le_of_lt (hch2 b hb'))).2.2.2.2, fun b hb' p hp => by
        rw [List.mem_singleton.mp hp]; exact Nat.ne_of_lt (hch2 b hb')⟩
    have r0 : Run (gcxOf P w K mg base Ns qual scope f cdv Aw outer s H E0 [(s1.heap.objs.size, ob)]) ch s2 (start Ns vs) H s2 := by
      refine ⟨hst, Inv.pinnedG I2 fun p hp => ?_⟩
      rcases List.mem_append.mp hp with z | z
      · rw [List.mem_singleton.mp z]
        obtain ⟨y1, y2, y3, _, _⟩ := yng s1.heap.objs.size (Nat.le_refl _)
        exact ⟨eob, y1, y2, y3, nod⟩
      · obtain ⟨hb', e⟩ := of_pinsAt z
        obtain ⟨o', e', nc⟩ := hst p.1 hb'
        have : o' = p.2 := Option.some.inj (e'.symm.trans e)
        subst this
        obtain ⟨y1, y2, y3, _, _⟩ := yng p.1 (Nat.le_of_lt (hch2 _ hb'))
        exact ⟨e, y1, y2, y3, nc⟩
    have seen : ∀ {t s' : Shared} {σ' : L2.St} {H' : Hp}, Run (gcxOf P w K mg base Ns qual scope f cdv Aw outer s H E0 [(s1.heap.objs.size, ob)]) ch t σ' H' s' → Seen P w outer H s ch t H' s' ∧ s'.heap.IsGen s1.heap.objs.size s1.gens.size := fun {t s' σ' H'} r =>
      ⟨⟨r.inv.os, r.inv.bare, r.inv.nolimit, r.inv.base, r.inv.hok, fun b hb' => by obtain ⟨o', q1, q2, q3, _, _⟩ := r.pin hb'; exact ⟨q3, o', q1, q2⟩⟩, isg _ (r.inv.pin (s1.heap.objs.size, ob) (List.mem_append_left _ (List.mem_singleton.mpr rfl))).1⟩
    refine seg_func ?_
    refine seg_imp (R := fun n t r s' => ∃ u, r = .ok (.ret u) ∧ ∃ ys v σ' H', n + ys.length = N ∧ Run (gcxOf P w K mg base Ns qual scope f cdv Aw outer s H E0 [(s1.heap.objs.size, ob)]) ch t σ' H' s' ∧ RelV v u ∧ v = .non ∧ Q ys H') (Y := Yq (gcxOf P w K mg base Ns qual scope f cdv Aw outer s H E0 [(s1.heap.objs.size, ob)]) ch N Yl)
      (fun n t r s' h => ?_) (fun n t v s' kap kap' hkk hY => ?_) N ?_
    · obtain ⟨u, rfl, ys, v, σ', H', hn, r, ru, ev, hQ⟩ := h
      subst ev
      have eu : u = Value.none := ru
      subst eu
      exact ⟨.inl rfl, ys, H', hn, (seen r).1, hQ⟩
    · obtain ⟨ys, x, σ', H', hn, rx, r, hy, h3⟩ := hY
      exact ⟨ys, x, H', hn, rx, (seen r).1, (seen r).2, hy, fun s'' z => hkk _ _ (h3 s'' z)⟩
    · refine hq.run Aw _ N [] s2 _ [] _ _ id id s2 (start Ns vs) H _ ⟨far, over_func, rfl, rfl, rfl⟩ (Nat.add_zero _) ⟨fun n ys t s' fl hn hs => ?_, fun n t e s' hx => ?_⟩ r0 hqr
      · cases fl with
        | next =>
          obtain ⟨σ', H', r, hQ⟩ := hs
          exact seg_end (.ok (.ret .none)) ⟨_, rfl, ys, .non, σ', H', hn, r, rfl, rfl, hQ⟩
        | brk => obtain ⟨_, _, _, z⟩ := hs; exact z.elim
        | cont => obtain ⟨_, _, _, z⟩ := hs; exact z.elim
        | ret u =>
          obtain ⟨v, σ', H', r, ru, ev, hQ⟩ := hs
          exact seg_end (.ok (.ret u)) ⟨_, rfl, ys, v, σ', H', hn, r, ru, ev, hQ⟩
      · refine seg_wrap ?_
        rw [over_func]
        refine wpAny_mono (show wpAny (model P w) (Aw.deeper (envOfC qual scope s.heap.objs.size f cdv)) (leaving (envOfC qual scope s.heap.objs.size f cdv) e) (fun _ s'' => L2.CX P w outer H s E0 e s'' ∧ ∀ p ∈ [(s1.heap.objs.size, ob)], s''.heap.get? p.1 = some p.2) (fun _ _ => False) s' from hx) (fun _ s'' z => ?_) fun _ s'' z => z.elim
        obtain ⟨⟨_, _, _, _, _, _, _, _, _, _, _, _, z⟩, _⟩ := z
        exact False.elim z
  exact go _ _ _ _ rfl rfl rfl fun h => Heap.get?_push_size _ rfl
end Gq

set_option Elab.async false
set_option linter.all false
set_option maxRecDepth 100000
set_option maxHeartbeats 4000000
namespace Dk
open PySem PySem.Spec PyProof.Rows L2 TL
open Dn (NXs DnO KAt0 KAt)
/-- scenes_of, told item by item -/
def spScQ (K : PySem.W.Frag) (CH : Addr) : Gq.SpQ := fun vs H N Yl Q => ∃ (hp : Addr) (h : Hd), vs = [.ref hp] ∧ HoAt K CH H hp h ∧ Tabs h.ts ∧ h.ts.length ≤ 6 ∧ N = 200000 ∧
  (∀ (H' : Hp) (ys : List V) (a : Addr) (n : Nat), Same H H' → n ≤ 196608 → Scs H' h ys (List.range n) → ScAt H' a (scn h n) → Yl ys (.ref a) H') ∧
  ∀ (H' : Hp) (ys : List V) (n : Nat), Same H H' → IsRep h n → n ≤ 196608 → Scs H' h ys (List.range (n + 1)) → Q ys H'
section
variable {P : Program} {w : World} {K : PySem.W.Frag} {mg : Str → Option Value} {base : Heap} {CC CH fCi fAd fSn : Addr} {fdCi fdAd fdSn : FuncData}
end
end Dk

set_option autoImplicit false
set_option Elab.async false
set_option linter.all false
set_option maxRecDepth 100000
set_option maxHeartbeats 2000000
/-! A generator's body where the consumer may store into its own frame F (which is older than the generator's call) and change younger objects of its own (ch) between two items. -/
namespace Gr
open PySem PySem.Spec PyProof.Rows GenW L2
open Gq (Stand Ge Tq qP)
/-- the context over another base -/
abbrev rb (X : L2.Cx) (h : Heap) : L2.Cx := { X with s_0 := { X.s_0 with heap := h } }
/-- the base, with the consumer's frame as it stood when the generator was woken -/
structure Dc (s0 : Heap) (F : Addr) (h : Heap) (t : Heap) : Prop where
  sz : h.objs.size = s0.objs.size
  ot : ∀ b, b ≠ F → h.get? b = s0.get? b
  at_ : h.get? F = t.get? F
/-- the consumer's objects -/
structure Far (X : Cx) (F : Addr) (ch : List Addr) : Prop where
  yg : ∀ b ∈ ch, X.s_0.heap.objs.size ≤ b
  fr : ∀ b ∈ ch, b ≠ X.env.locals
  cl : ∀ b ∈ ch, ∀ x c, X.env.cells.lookup x = some c → c ≠ b
  pn : ∀ b ∈ ch, ∀ p ∈ X.pn, p.1 ≠ b
  ff : F ∈ X.fs
  fo : F < X.s_0.heap.objs.size
  fc : ∀ x c, X.env.cells.lookup x = some c → c ≠ F
structure Run (X : Cx) (F : Addr) (ch : List Addr) (t : Shared) (σ : L2.St) (H : Hp) (s : Shared) : Prop where
  st : Stand ch t
  inv : ∃ h, Dc X.s_0.heap F h t.heap ∧ Inv (rb X h) (pinsAt ch t.heap) σ H s
/-- what the consumer does while the generator sleeps -/
structure Took (F : Addr) (ch : List Addr) (s s' : Shared) : Prop where
  os : s'.os = s.os
  bare : AllBare s'.gens
  keep : ∀ b o, b ∉ ch → b ≠ F → s.heap.get? b = some o → s'.heap.get? b = some o
  st : Stand ch s'
  ns : ∃ m, s'.heap.Ns F m
theorem Run.pin {X : Cx} {F : Addr} {ch : List Addr} {t s : Shared} {σ : L2.St} {H : Hp} (r : Run X F ch t σ H s) {b : Addr} (hb : b ∈ ch) : ∃ o, t.heap.get? b = some o ∧ s.heap.get? b = some o ∧ H b = none ∧ b ≠ X.env.locals ∧ b ∉ X.fs := by
  obtain ⟨o, e, _⟩ := r.st b hb
  obtain ⟨h, _, I⟩ := r.inv
  obtain ⟨h1, h2, h3, h4, _⟩ := I.pin (b, o) (List.mem_append_right _ (mem_pinsAt hb e))
  exact ⟨o, e, h1, h2, h3, h4⟩
theorem Run.woken {X : Cx} {F : Addr} {ch : List Addr} {t s s' : Shared} {σ : L2.St} {H : Hp} (f : Far X F ch) (r : Run X F ch t σ H s) (k : Took F ch s s') : Run X F ch s' σ H s' := by
  have pin := fun {b : Addr} (hb : b ∈ ch) => r.pin hb
  obtain ⟨h, dc, I1⟩ := r.inv
  have nH : ∀ b u, H b = some u → b ∉ ch := fun b u e hb => by
    obtain ⟨_, _, _, n, _⟩ := pin hb
    rw [n] at e; cases e
  have FnL : F ≠ X.env.locals := Nat.ne_of_lt (Nat.lt_of_lt_of_le f.fo (by have := I1.ok.above; rw [show (rb X h).s_0.heap.objs.size = h.objs.size from rfl, dc.sz] at this; exact this))
  obtain ⟨oF0, hF0⟩ : ∃ o, h.get? F = some o := by
    obtain ⟨_, o, e, _⟩ := I1.ok.funs.mem (show F ∈ _ from f.ff)
    exact ⟨o, e⟩
  have HF : H F = none := I1.base.free F oF0 hF0 (I1.ok.frf F f.ff) (fun z => I1.ok.exfs F z f.ff)
  have HF0 : X.H_0 F = none := I1.ok.frf F f.ff
  obtain ⟨m, hm⟩ := k.ns
  obtain ⟨oF, es, ep, eF, dF, rF⟩ := id hm
  generalize hh' : h.update F (fun _ => oF) = h'
  have zz : h'.objs.size = h.objs.size := by
    rw [← hh']
    unfold Heap.update
    first | simp | (split <;> simp) | rfl
  have hFn : h'.get? F = some oF := by
    rw [← hh']
    exact Heap.get?_update_self _ hF0 (Heap.get?_some_iff.mp eF).2
  have hO : ∀ b, b ≠ F → h'.get? b = h.get? b := fun b n => by
    rw [← hh']; exact Heap.get?_update_other _ _ (Ne.symm n)
  have sb : Heap.SameBut F h h' := ⟨zz, hO⟩
  have nsF : h'.Ns F m := ⟨oF, es, ep, hFn, dF, rF⟩
  have dc' : Dc X.s_0.heap F h' s'.heap := ⟨zz.trans dc.sz, fun b n => (hO b n).trans (dc.ot b n), hFn.trans eF.symm⟩
  have nbs : ∀ b o, X.base.get? b = some o → b ≠ F := fun b o e z => by
    subst z
    exact I1.ok.nofr e f.ff
  have ok : (rb X h').Ok := ⟨I1.ok.mod, I1.ok.kind, I1.ok.glob, I1.ok.blt, by show h'.objs.size ≤ _; rw [zz]; exact I1.ok.above, I1.ok.inj, I1.ok.has, fun x c e1 e2 => by show h'.objs.size ≤ c; rw [zz]; exact I1.ok.cab x c e1 e2, I1.ok.hd, I1.ok.frames, I1.ok.stk, I1.ok.exf,
    fun b o e => ⟨(hO b (nbs b o e)).trans (I1.ok.bs b o e).1, (I1.ok.bs b o e).2⟩, by show _ ≤ h'.objs.size; rw [zz]; exact I1.ok.bsz, I1.ok.noex, I1.ok.exfs, PySem.Heap.FunFrames.sameBut sb nsF I1.ok.funs, I1.ok.frf⟩
  have low : ∀ {b : Addr} {o : Obj}, h'.get? b = some o → b ∉ ch := fun {b o} e hb => by
    have := Heap.lt_size e
    rw [zz, dc.sz] at this
    exact absurd (Nat.lt_of_lt_of_le this (f.yg b hb)) (Nat.lt_irrefl _)
  have kc : ∀ {x : Str} {c : Addr} {v : Option Value}, X.env.cells.lookup x = some c → s.heap.IsCell c v → s'.heap.IsCell c v := fun {x c v} e ⟨o, ho, hd⟩ =>
    ⟨o, k.keep c o (fun hb => f.cl c hb x c e rfl) (f.fc x c e) ho, hd⟩
  refine ⟨k.st, h', dc', ⟨ok, k.os.trans I1.os, k.bare, ⟨fun b o e n hb hx => ?_, fun b o e n hb hx => ?_, fun b o e n hx => ?_, fun b o e hx => ?_, I1.base.tups, I1.base.frzs, I1.base.tbls⟩, ?_, fun x c e => ?_, I1.free, I1.freeC, fun p hp => ?_, ?_, I1.len⟩⟩
  · have nF : b ≠ F := fun z => hb (by rw [z]; exact f.ff)
    exact k.keep b o (low e) nF (I1.base.keep b o ((hO b nF).symm.trans e) n hb hx)
  · by_cases z : b = F
    · subst z
      have e : h'.get? b = some o := e
      rw [hFn] at e
      cases e
      exact ⟨oF.slots, eF⟩
    · obtain ⟨sl, q⟩ := I1.base.slot b o ((hO b z).symm.trans e) n hb hx
      exact ⟨sl, k.keep b _ (low e) z q⟩
  · by_cases z : b = F
    · rw [z]; exact HF
    · exact I1.base.free b o ((hO b z).symm.trans e) n hx
  · by_cases z : b = F
    · exact ⟨oF, by rw [z]; exact eF⟩
    · obtain ⟨o', q⟩ := I1.base.there b o ((hO b z).symm.trans e) hx
      exact ⟨o', k.keep b _ (low e) z q⟩
  · obtain ⟨m1, hn, hl⟩ := I1.loc
    refine ⟨m1, ?_, fun i x v e1 e2 e3 => ?_⟩
    · obtain ⟨ob, es1, ep1, e, rr⟩ := hn
      exact ⟨ob, es1, ep1, k.keep _ ob (fun hb => f.fr _ hb rfl) (Ne.symm FnL) e, rr⟩
    · obtain ⟨u, ru, l⟩ := hl i x v e1 e2 e3
      refine ⟨u, ru, ?_⟩
      rcases l with l | ⟨l1, c, l2, l3⟩
      · exact .inl l
      · exact .inr ⟨l1, c, l2, kc l2 l3⟩
  · obtain ⟨v, z⟩ := I1.cell x c e
    exact ⟨v, kc e z⟩
  · rcases List.mem_append.mp hp with z | z
    · obtain ⟨q1, q2, q3, q4, q5⟩ := I1.pin p (List.mem_append_left _ z)
      exact ⟨k.keep _ _ (fun hb => f.pn _ hb p z rfl) (fun e => q4 (by rw [e]; exact f.ff)) q1, q2, q3, q4, q5⟩
    · obtain ⟨hb, e⟩ := of_pinsAt z
      obtain ⟨o, e', nc⟩ := k.st p.1 hb
      obtain ⟨_, _, _, n1, n2, n3⟩ := pin hb
      have eo : o = p.2 := Option.some.inj (e'.symm.trans e)
      subst eo
      exact ⟨e, n1, n2, n3, nc⟩
  · intro b u q
    refine (I1.hok b u q).stay (fun c v hc y => k.keep c v ?_ ?_ y) (fun _ y => y) fun _ _ y => y
    · rcases hc with y | y
      · rw [y]; exact nH b u q
      · exact nH c _ y
    · rintro rfl
      rcases hc with y | y
      · rw [y] at HF; rw [HF] at q; cases q
      · rw [HF] at y; cases y
/-! ### statements -/
def Aft (X : Cx) (F : Addr) (ch : List Addr) (t : Shared) (D : Ge) (ys : List V) : Flow → Shared → Prop
  | .next, s => ∃ σ H, Run X F ch t σ H s ∧ D.nx ys σ H
  | .brk, s => ∃ σ H, Run X F ch t σ H s ∧ D.bk ys σ H
  | .cont, s => ∃ σ H, Run X F ch t σ H s ∧ D.ct ys σ H
  | .ret u, s => ∃ v σ H, Run X F ch t σ H s ∧ RelV v u ∧ D.rt ys v H
section
variable (X : Cx) (F : Addr) (ch : List Addr) (N : Nat) (Yl : List V → V → Hp → Prop)
def Yq : Protocol := fun n t v s kap => ∃ ys x σ H, n + 1 + ys.length = N ∧ RelV x v ∧ Run X F ch t σ H s ∧ Yl ys x H ∧ ∀ s', Took F ch s s' → kap (.send .none) s'
structure At (A : Around) (c : Code) (fs : List Frame) (gd : Bool → Bool) : Prop where
  far : Far X F ch
  over : A.over c fs = X.A
  sp : splitAtGen fs = none
  gu : fs.any Frame.guarded = false
  gd : gd false = false
structure Then (A : Around) (R : GenEnd) (c : Code) (fs : List Frame) (K : Flow → Sem PySem.Fin) (J : Value → Sem PySem.Fin) (D : Ge) : Prop where
  ok : ∀ (n : Nat) (ys : List V) (t s : Shared) (f : Flow), n + ys.length = N → Aft X F ch t D ys f s → Seg (model X.prog X.w) A R (Yq X F ch N Yl) n t c (K f) fs s
  ex : ∀ (n : Nat) (t : Shared) (e : Value) (s : Shared), X.xe e s → Seg (model X.prog X.w) A R (Yq X F ch N Yl) n t c (J e) fs s
structure Sq (st : Stmt) (q : Tq) : Prop where
  run : ∀ (A : Around) (R : GenEnd) (n : Nat) (ys : List V) (t : Shared) (c : Code) (fs : List Frame) (K : Flow → Sem PySem.Fin) (J : Value → Sem PySem.Fin) (gd : Bool → Bool) (lv : List Value → List Value) (s : Shared) (σ : L2.St) (H : Hp) (D : Ge),
    At X F ch A c fs gd → n + ys.length = N → Then X F ch N Yl A R c fs K J D → Run X F ch t σ H s → q D ys σ H → Seg (model X.prog X.w) A R (Yq X F ch N Yl) n t c ((exec st X.env).wrap K J gd lv) fs s
structure Sqs (st : List Stmt) (q : Tq) : Prop where
  run : ∀ (A : Around) (R : GenEnd) (n : Nat) (ys : List V) (t : Shared) (c : Code) (fs : List Frame) (K : Flow → Sem PySem.Fin) (J : Value → Sem PySem.Fin) (gd : Bool → Bool) (lv : List Value → List Value) (s : Shared) (σ : L2.St) (H : Hp) (D : Ge),
    At X F ch A c fs gd → n + ys.length = N → Then X F ch N Yl A R c fs K J D → Run X F ch t σ H s → q D ys σ H → Seg (model X.prog X.w) A R (Yq X F ch N Yl) n t c ((execs st X.env).wrap K J gd lv) fs s
end
section
variable {X : Cx} {F : Addr} {ch : List Addr} {N : Nat} {Yl : List V → V → Hp → Prop} {st : Stmt} {rest : List Stmt}
theorem aft_of {t s : Shared} {h : Heap} {D : Ge} {ys : List V} {f : Flow} (h0 : Stand ch t) (dc : Dc X.s_0.heap F h t.heap) (q : SP (rb X h) (pinsAt ch t.heap) (D.at ys) f s) : Aft X F ch t D ys f s := by
  cases f with
  | next => obtain ⟨σ, H, I, q⟩ := q; exact ⟨σ, H, ⟨h0, h, dc, I⟩, q⟩
  | brk => obtain ⟨σ, H, I, q⟩ := q; exact ⟨σ, H, ⟨h0, h, dc, I⟩, q⟩
  | cont => obtain ⟨σ, H, I, q⟩ := q; exact ⟨σ, H, ⟨h0, h, dc, I⟩, q⟩
  | ret u => obtain ⟨v, σ, H, I, r, q⟩ := q; exact ⟨v, σ, H, ⟨h0, h, dc, I⟩, r, q⟩
theorem sq_ps {u : TS} (h : ∀ h, PS (rb X h) st u) : Sq X F ch N Yl st (qP u) := by
  refine ⟨fun A R n ys t c fs K J gd lv s σ H D a hn k r hu => seg_wrap ?_⟩
  rw [a.over]
  obtain ⟨h0, dc, I⟩ := r.inv
  exact wpAny_mono ((h h0).run _ s σ H (D.at ys) I hu) (fun f s' q => k.ok n ys t s' f hn (aft_of r.st dc q)) fun e s' q => k.ex n t e s' q
theorem sqs_nil : Sqs X F ch N Yl [] (fun D ys σ H => D.nx ys σ H) :=
  ⟨fun A R n ys t c fs K J gd lv s σ H D a hn k r hu => seg_execs_nil (k.ok n ys t s .next hn ⟨σ, H, r, hu⟩)⟩
theorem sqs_cons {q1 q2 : Tq} (h1 : Sq X F ch N Yl st q1) (h2 : Sqs X F ch N Yl rest q2) : Sqs X F ch N Yl (st :: rest) (fun D ys σ H => q1 { D with nx := fun ys' σ' H' => q2 D ys' σ' H' } ys σ H) := by
  refine ⟨fun A R n ys t c fs K J gd lv s σ H D a hn k r hu => seg_execs_cons ?_⟩
  refine h1.run A R n ys t c fs _ J gd lv s σ H _ a hn ⟨fun n' ys' t' s' f hn' hf => ?_, k.ex⟩ r hu
  cases f with
  | next =>
    obtain ⟨σ', H', r', hq⟩ := hf
    exact h2.run A R n' ys' t' c fs K J gd lv s' σ' H' D a hn' k r' hq
  | brk => exact k.ok n' ys' t' s' .brk hn' hf
  | cont => exact k.ok n' ys' t' s' .cont hn' hf
  | ret u => exact k.ok n' ys' t' s' (.ret u) hn' hf
theorem sq_yield {e : Expr} {te : TE} {yp pos : Pos} (he : ∀ h, PE (rb X h) e te) (hco : X.env.scope.isCoroutine = false := by rfl) (hi : interactive X.env = false := by rfl) : Sq X F ch N Yl (.Expr (.Yield (some e) yp) pos) (Gq.qY N Yl te) := by
  refine ⟨fun A R n ys t c fs K J gd lv s σ H D a hn k r hu => ?_⟩
  obtain ⟨hl, hu⟩ := hu
  obtain ⟨m, rfl⟩ : ∃ m, n = m + 1 := ⟨n - 1, by omega⟩
  refine seg_Expr_Yield a.sp a.gd a.gu ?_ hco hi
  rw [a.over]
  obtain ⟨h0, dc, I⟩ := r.inv
  refine wpAny_mono ((he h0).run _ s σ H _ I hu) (fun v s' hv => ?_) fun x s' hx => k.ex _ t x s' hx
  obtain ⟨x, H1, I1, rv, hy, hq⟩ := hv
  have r1 : Run X F ch t σ H1 s' := ⟨r.st, h0, dc, I1⟩
  intro kap hk
  refine ⟨ys, x, σ, H1, hn, rv, r1, hy, fun s'' z => hk .none s'' ?_⟩
  refine k.ok m (ys ++ [x]) s'' s'' .next ?_ ⟨σ, H1, r1.woken a.far z, hq⟩
  rw [List.length_append, List.length_singleton]; omega
end
end Gr

set_option Elab.async false
set_option linter.all false
set_option maxRecDepth 100000
set_option maxHeartbeats 2000000
namespace Gr
open PySem PySem.Spec PyProof.Rows GenW L2
open Gq (Stand Ge Tq qW outK)
section
variable {X : Cx} {F : Addr} {ch : List Addr} {N : Nat} {Yl : List V → V → Hp → Prop}
theorem at_in {A : Around} {c c' : Code} {fs : List Frame} {gd : Bool → Bool} {k : Result → Sem PySem.Fin} {l kp : List Value} {p : Pos} (a : At X F ch A c fs gd) (hw : c'.weight = 0) (hu : c'.cUnits = 0) : At X F ch A c' (.ret k none (gd false) l c p kp :: fs) id := by
  refine ⟨a.far, (over_loop hw hu).trans a.over, ?_, ?_, rfl⟩
  · show (splitAtGen fs).map _ = none
    simp [a.sp]
  · show (gd false || fs.any Frame.guarded) = false
    simp [a.gd, a.gu]
/-- an exception that came back out of a loop -/
theorem back_seg {A : Around} {R : GenEnd} {c : Code} {fs : List Frame} {K : Flow → Sem PySem.Fin} {J : Value → Sem PySem.Fin} {gd : Bool → Bool} {lv : List Value → List Value} {D : Ge} {n : Nat} {t s : Shared} {e : Value} (a : At X F ch A c fs gd) (k : Then X F ch N Yl A R c fs K J D)
    (h : cameBackBy (model X.prog X.w) X.A X.env X.xe e s) : Seg (model X.prog X.w) A R (Yq X F ch N Yl) n t c (outK X K J gd lv (.error e)) fs s := by
  show Seg _ _ _ _ _ _ _ (((cameBack X.env e).bind fun _ => Sem.raise (α := Flow) e).wrap K J gd lv) _ _
  rw [Sem.bind_eq_wrap, Sem.wrap_wrap]
  refine seg_wrap ?_
  rw [a.over]
  exact wpAny_mono h (fun _ s' q => k.ex n t e s' q) fun y s' q => k.ex n t y s' q
theorem sq_while {test : Expr} {body : List Stmt} {pos : Pos} {tc : TT} {tb : Tq} (hp : PassesOwn (model X.prog X.w) X.A X.env X.xe) (hc : ∀ h, PT (rb X h) test tc) (hb : Sqs X F ch N Yl body tb) : Sq X F ch N Yl (.While test body [] pos) (qW tc tb) := by
  refine ⟨fun A R n ys t c fs K J gd lv s σ H D a hn k r hu => ?_⟩
  obtain ⟨W, ⟨m0, w0⟩, turn⟩ := hu
  refine seg_While fun p => ?_
  have inn := fun (kk : Result → Sem PySem.Fin) => at_in (k := kk) (c' := .whileLoop test body [] X.env) (l := lv []) (kp := []) (p := p) a rfl rfl
  have all : ∀ (m n : Nat) (ys : List V) (t s : Shared) (σ : L2.St) (H : Hp), n + ys.length = N → W m ys σ H → Run X F ch t σ H s →
      Seg (model X.prog X.w) A R (Yq X F ch N Yl) n t (.whileLoop test body [] X.env) ((model X.prog X.w).den (.whileLoop test body [] X.env)) (.ret (outK X K J gd lv) none (gd false) (lv []) c p [] :: fs) s := by
    intro m
    induction m using Nat.strongRecOn with
    | ind m ih =>
      intro n ys t s σ H hn w r
      have out : ∀ (n : Nat) (t : Shared) (x : Value) (s' : Shared), X.xe x s' → Seg (model X.prog X.w) A R (Yq X F ch N Yl) n t (.whileLoop test body [] X.env)
          ((do noteFrame x X.env; theTreesLotGoes x : Sem Unit).wrap (fun _ => .raise x) .raise id id) (.ret (outK X K J gd lv) none (gd false) (lv []) c p [] :: fs) s' := by
        intro n t x s' hx
        refine seg_wrap ?_
        rw [(inn _).over]
        refine wpAny_bind (wpAny_mono (hp x s' hx) (fun _ s2 q => wpAny_theTreesLotGoes (seg_leaf (.error x) (back_seg a k q))) fun y s2 q => seg_leaf (.error y) (back_seg a k q))
      refine seg_whileLoop ?_
      rw [(inn _).over]
      obtain ⟨h0, dc, I0⟩ := r.inv
      refine wpAny_mono ((hc h0).run _ s σ H _ I0 (turn m ys σ H w)) (fun b s' hb' => ?_) fun x s' hx => out n t x s' hx
      obtain ⟨H2, I2, q2⟩ := hb'
      have r2 : Run X F ch t σ H2 s' := ⟨r.st, h0, dc, I2⟩
      by_cases cb : b = true
      · subst cb
        rw [if_pos rfl] at q2 ⊢
        obtain ⟨Nx, hNx, q2⟩ := q2
        refine hb.run A R n ys t _ _ _ _ id id s' σ H2 _ (inn _) hn ⟨fun n' ys' t' s3 f hn' hf => ?_, fun n' t' x s3 hx => out n' t' x s3 hx⟩ r2 q2
        have more : ∀ {ys' : List V} {σ3 : L2.St} {H3 : Hp} {n' : Nat} {t' s3 : Shared}, n' + ys'.length = N → Run X F ch t' σ3 H3 s3 → Nx ys' σ3 H3 → Seg (model X.prog X.w) A R (Yq X F ch N Yl) n' t' (.whileLoop test body [] X.env) (.pure (.again (.whileLoop test body [] X.env))) (.ret (outK X K J gd lv) none (gd false) (lv []) c p [] :: fs) s3 := by
          intro ys' σ3 H3 n' t' s3 hn' r3 hx
          obtain ⟨m', hm, w'⟩ := hNx ys' σ3 H3 hx
          exact seg_again rfl (ih m' hm n' ys' t' s3 σ3 H3 hn' w' r3)
        cases f with
        | next => obtain ⟨σ3, H3, r3, q3⟩ := hf; exact more hn' r3 q3
        | cont => obtain ⟨σ3, H3, r3, q3⟩ := hf; exact more hn' r3 q3
        | brk => exact seg_leaf (.ok .next) (k.ok n' ys' t' s3 .next hn' hf)
        | ret v => exact seg_leaf (.ok (.ret v)) (k.ok n' ys' t' s3 (.ret v) hn' hf)
      · rw [if_neg cb] at q2 ⊢
        exact seg_execs_nil (seg_leaf (.ok .next) (k.ok n ys t s' .next hn ⟨σ, H2, r2, q2⟩))
  exact all m0 n ys t s σ H hn w0 r
end
end Gr

set_option autoImplicit false
set_option Elab.async false
set_option linter.all false
set_option maxRecDepth 100000
set_option maxHeartbeats 2000000
namespace Gr
open PySem PySem.Spec PyProof.Rows GenW L2
open Gq (Stand Ge Tq SpQ)
/-- what the def's state and the consumer's objects are, seen from outside -/
structure Seen (P : Program) (w : World) (outer : List Env) (H : Hp) (s0 : Shared) (F : Addr) (ch : List Addr) (t : Shared) (H' : Hp) (s : Shared) : Prop where
  os : s.os = s0.os
  bare : AllBare s.gens
  lim : s.heap.NoLimit
  un : ∃ h, Dc s0.heap F h t.heap ∧ Un (frs outer) [] H H' h s.heap
  ok : HOk P w H' s.heap
  mine : ∀ b ∈ ch, H' b = none ∧ ∃ o, t.heap.get? b = some o ∧ s.heap.get? b = some o
/-- an item, seen from outside -/
def Item (P : Program) (w : World) (outer : List Env) (H : Hp) (s0 : Shared) (F : Addr) (ch : List Addr) (N : Nat) (Yl : List V → V → Hp → Prop) (a : Addr) (g : Nat) : Protocol := fun n t v s kap =>
  ∃ ys x H', n + 1 + ys.length = N ∧ RelV x v ∧ Seen P w outer H s0 F ch t H' s ∧ s.heap.IsGen a g ∧ Yl ys x H' ∧ ∀ s', Took F ch s s' → kap (.send .none) s'
/-- the end, seen from outside: nothing is let out -/
def Over (P : Program) (w : World) (outer : List Env) (H : Hp) (s0 : Shared) (F : Addr) (ch : List Addr) (N : Nat) (Q : List V → Hp → Prop) : GenEnd := fun n t r s =>
  (r = .ok (.ret .none) ∨ r = .ok .next) ∧ ∃ ys H', n + ys.length = N ∧ Seen P w outer H s0 F ch t H' s ∧ Q ys H'
/-- a generator that has not begun -/
def Born (P : Program) (w : World) (k : Nat) (outer : List Env) (H : Hp) (s0 : Shared) (N : Nat) (Yl : List V → V → Hp → Prop) (Q : List V → Hp → Prop) (u : Value) (s' : Shared) : Prop :=
  ∃ (a : Addr) (g : Nat) (c : Code), u = .ref a ∧ s0.heap.objs.size ≤ a ∧ a < s'.heap.objs.size ∧ s'.heap.IsGen a g ∧ s'.gens[g]? = some (.fresh c) ∧ s'.os = s0.os ∧ AllBare s'.gens ∧ s'.heap.NoLimit ∧ (∀ b o, s0.heap.get? b = some o → s'.heap.get? b = some o) ∧
    ∀ (A : Around) (F : Addr) (ch : List Addr) (s2 : Shared), Room k A → A.frames = some outer → F ∈ frs outer → (∀ b ∈ ch, s'.heap.objs.size ≤ b) → (∀ b o, s'.heap.get? b = some o → s2.heap.get? b = some o) → Stand ch s2 → s2.os = s0.os → AllBare s2.gens →
      Seg (model P w) A (Over P w outer H s0 F ch N Q) (Item P w outer H s0 F ch N Yl a g) N s2 c ((model P w).den c) [] s2
structure GdOk (P : Program) (w : World) (K : PySem.W.Frag) (mg : Str → Option Value) (base : Heap) (k : Nat) (f : Addr) (fd : FuncData) (ps : List Str) (sp : SpQ) : Prop where
  len : ∀ vs H N Yl Q, sp vs H N Yl Q → vs.length = ps.length
  run : ∀ (A : Around) (outer : List Env) (s : Shared) (H : Hp) (args : Args) (us : List Value) (vs : List V) (N : Nat) (Yl : List V → V → Hp → Prop) (Q : List V → Hp → Prop), Room k A → Env0 P w K mg base A outer s H → BindsTo s fd args (ps.zip us) → Vals vs us → sp vs H N Yl Q →
    codeAny (model P w) A (.call (.ref f) args) (fun r s' => match r with
      | .ok (.ret u) => Born P w k outer H s N Yl Q u s'
      | _ => False) s
theorem gd_of {P : Program} {w : World} {K : PySem.W.Frag} {mg : Str → Option Value} {base : Heap} {k : Nat} {f : Addr} {name qual : Str} {params : Arguments} {body : List Stmt} {scope : Scope} {dV kV doc pm cdv ct oc : Value} {an od : Option Addr} {osl : Array (Option Value)} {Ns ps : List Str} {sp : SpQ}
    (lk : K.lookup f = some ⟨oc, od, .func (PySem.W.fnOf name qual params body scope dV kV doc pm an cdv ct), osl⟩) (hcd : PySem.W.codeIn K cdv qual = true) (S : GScope Ns ps scope) (len : ∀ vs H N Yl Q, sp vs H N Yl Q → vs.length = ps.length)
    (hbody : ∀ (A : Around) (outer : List Env) (s : Shared) (H : Hp) (vs : List V) (N : Nat) (Yl : List V → V → Hp → Prop) (Q : List V → Hp → Prop) (pn : List (Addr × Obj)) (F : Addr) (ch : List Addr), Room k (A.deeper (envOfC qual scope s.heap.objs.size f cdv)) → sp vs H N Yl Q →
      ∃ q, Sqs (gcxOf P w K mg base Ns qual scope f cdv A outer s H E0 pn) F ch N Yl body q ∧ q { nx := fun ys _ H' => Q ys H', rt := fun ys v H' => v = .non ∧ Q ys H' } [] (start Ns vs) H) :
    GdOk P w K mg base (k + 1) f (PySem.W.fnOf name qual params body scope dV kV doc pm an cdv ct) ps sp := by
  refine ⟨len, fun A outer s H args us vs N Yl Q hr e0 hb rv hsp => ?_⟩
  have hl := len _ _ _ _ _ hsp
  have KX : K.In s.heap := e0.mod.kin.keeps fun b o e => (e0.bs b o e).1
  have lim : s.heap.NoLimit := e0.mod.nolimit.keeps fun b o e => (e0.bs b o e).1
  have hk : ∀ y ∈ ps.zip us, scope.names.lookup y.1 = some .local ∨ (scope.names.lookup y.1 = some .cell ∧ ((cellsFrom (s.heap.objs.size + 1) scope.names []).lookup y.1).isSome = true) := by
    rintro ⟨x, v⟩ hy
    rcases S.par x (List.of_mem_zip hy).1 with q | q
    · exact .inl q
    · exact .inr ⟨q, PySem.W.cellsFrom_some _ _ _ (.inl q)⟩
  refine codeAny_call_generator hr.depth (KX _ _ lk) rfl S.co S.gen rfl (PySem.W.codeRec_of KX hcd) (hb _ _ _ _ (wpAny_newFunctionEnv_cells S.kind hk fun env he s1 x => ?_))
  subst he
  have lim1 : s1.heap.NoLimit := lim.keeps x.toInCall.keep
  refine ⟨lim1, ?_⟩
  obtain ⟨h1, tk, es, hk1⟩ := x.done
  have os1 : s1.os = s.os := by rw [es]
  have gs1 : s1.gens = s.gens := by rw [es]
  have lt1 : s.heap.objs.size < s1.heap.objs.size := x.toInCall.ns.lt
  have kp1 : ∀ b o, s.heap.get? b = some o → s1.heap.get? b = some o := x.toInCall.keep
  have go : ∀ (ob : Obj) (nm qn : Value) (tk2 : Nat), ob.cls = .type "generator" → ob.data = .fields #[.int s1.gens.size 0, nm, qn] → ob.slots = #[] → (∀ h : Heap, (h.push ob).get? h.objs.size = some ob) →
      Born P w (k + 1) outer H s N Yl Q (.ref s1.heap.objs.size) { s1 with gens := s1.gens.push (.fresh (.func body (envOfC qual scope s.heap.objs.size f cdv))), toks := tk2, heap := s1.heap.push ob } := by
    intro ob nm qn tk2 oc od osl' op
    have isg : ∀ h : Heap, h.get? s1.heap.objs.size = some ob → h.IsGen s1.heap.objs.size s1.gens.size := fun h e => ⟨ob, nm, qn, e, oc, od, osl'⟩
    refine ⟨s1.heap.objs.size, s1.gens.size, _, rfl, Nat.le_of_lt lt1, ?_, isg _ (op _), Array.getElem?_push_size .., os1, AllBare.push (by rw [gs1]; exact e0.bare) rfl, lim1.keeps fun b o e => Heap.get?_push_of_some _ e, fun b o e => Heap.get?_push_of_some _ (kp1 b o e), ?_⟩
    · show _ < (s1.heap.push _).objs.size
      rw [Heap.size_push]; exact Nat.lt_succ_self _
    intro Aw F ch s2 hrw hfr hFF hch hk2 hst hos hba
    have e0w : Env0 P w K mg base Aw outer s H := ⟨hfr, e0.mod, e0.bs, e0.bsz, e0.funs, e0.frf, e0.hok, e0.bare⟩
    obtain ⟨q, hq, hqr⟩ := hbody Aw outer s H vs N Yl Q [(s1.heap.objs.size, ob)] F ch (hrw.deeper _) hsp
    have I1 : Inv (gcxOf P w K mg base Ns qual scope f cdv Aw outer s H E0 []) [] (start Ns vs) H s1 := inv_startG S hrw.hd e0w hl rv x
    have kp2 : ∀ b o, s1.heap.get? b = some o → s2.heap.get? b = some o := fun b o e => hk2 b o (Heap.get?_push_of_some _ e)
    have I2 : Inv (gcxOf P w K mg base Ns qual scope f cdv Aw outer s H E0 []) [] (start Ns vs) H s2 :=
      I1.call' (ch := []) (hos.trans os1.symm) (Un.kept kp2) (I1.hok.kept kp2) hba fun b z => by simp at z
    have hch2 : ∀ b ∈ ch, s1.heap.objs.size < b := fun b hb' => by
      have z : (s1.heap.push ob).objs.size ≤ b := hch b hb'
      rw [Heap.size_push] at z
      exact z
    have eob : s2.heap.get? s1.heap.objs.size = some ob := hk2 _ ob (op _)
    have nod : ∀ v, ob.data ≠ .cell v := fun v z => by rw [od] at z; cases z
    have yng : ∀ b, s1.heap.objs.size ≤ b → H b = none ∧ b ≠ s.heap.objs.size ∧ b ∉ frs outer ∧ s.heap.objs.size ≤ b ∧ ∀ y c, (cellsFrom (s.heap.objs.size + 1) scope.names []).lookup y = some c → c ≠ b := fun b hb' => by
      refine ⟨I1.hok.fresh hb', Nat.ne_of_gt (Nat.lt_of_lt_of_le lt1 hb'), I1.nofs hb', Nat.le_trans (Nat.le_of_lt lt1) hb', fun y c e z => ?_⟩
      obtain ⟨v, o', ho, _⟩ := I1.cell y c e
      have hlt := Heap.lt_size ho
      rw [z] at hlt
      exact absurd (Nat.lt_of_lt_of_le hlt hb') (Nat.lt_irrefl _)
    obtain ⟨oF, eF⟩ : ∃ o, s.heap.get? F = some o := by
      obtain ⟨_, o, e, _⟩ := e0.funs.mem hFF
      exact ⟨o, e⟩
    have hFs : F < s.heap.objs.size := Heap.lt_size eF
    have far : Far (gcxOf P w K mg base Ns qual scope f cdv Aw outer s H E0 [(s1.heap.objs.size, ob)]) F ch :=
      ⟨fun b hb' => (yng b (Nat.le_of_lt (hch2 b hb'))).2.2.2.1, fun b hb' => (yng b (Nat.le_of_lt (hch2 b hb'))).2.1, fun b hb' => (yng b (Nat.le_of_lt (hch2 b hb'))).2.2.2.2, fun b hb' p hp => by
        rw [List.mem_singleton.mp hp]; exact Nat.ne_of_lt (hch2 b hb'), hFF, hFs, fun y c e z => by
        have := x.above y c (PySem.mem_of_lookup e)
        rw [z] at this
        exact absurd (Nat.lt_of_le_of_lt (Nat.le_of_lt this) hFs) (Nat.lt_irrefl _)⟩
    have r0 : Run (gcxOf P w K mg base Ns qual scope f cdv Aw outer s H E0 [(s1.heap.objs.size, ob)]) F ch s2 (start Ns vs) H s2 := by
      refine ⟨hst, s.heap, ⟨rfl, fun _ _ => rfl, eF.trans (kp2 F oF (kp1 F oF eF)).symm⟩, Inv.pinnedG I2 fun p hp => ?_⟩
      rcases List.mem_append.mp hp with z | z
      · rw [List.mem_singleton.mp z]
        obtain ⟨y1, y2, y3, _, _⟩ := yng s1.heap.objs.size (Nat.le_refl _)
        exact ⟨eob, y1, y2, y3, nod⟩
      · obtain ⟨hb', e⟩ := of_pinsAt z
        obtain ⟨o', e', nc⟩ := hst p.1 hb'
        have : o' = p.2 := Option.some.inj (e'.symm.trans e)
        subst this
        obtain ⟨y1, y2, y3, _, _⟩ := yng p.1 (Nat.le_of_lt (hch2 _ hb'))
        exact ⟨e, y1, y2, y3, nc⟩
    have seen : ∀ {t s' : Shared} {σ' : L2.St} {H' : Hp}, Run (gcxOf P w K mg base Ns qual scope f cdv Aw outer s H E0 [(s1.heap.objs.size, ob)]) F ch t σ' H' s' → Seen P w outer H s F ch t H' s' ∧ s'.heap.IsGen s1.heap.objs.size s1.gens.size := fun {t s' σ' H'} r =>
      by
      obtain ⟨h, dc, I⟩ := r.inv
      exact ⟨⟨I.os, I.bare, I.nolimit, ⟨h, dc, I.base⟩, I.hok, fun b hb' => by obtain ⟨o', q1, q2, q3, _, _⟩ := r.pin hb'; exact ⟨q3, o', q1, q2⟩⟩, isg _ (I.pin (s1.heap.objs.size, ob) (List.mem_append_left _ (List.mem_singleton.mpr rfl))).1⟩
    refine seg_func ?_
    refine seg_imp (R := fun n t r s' => ∃ u, r = .ok (.ret u) ∧ ∃ ys v σ' H', n + ys.length = N ∧ Run (gcxOf P w K mg base Ns qual scope f cdv Aw outer s H E0 [(s1.heap.objs.size, ob)]) F ch t σ' H' s' ∧ RelV v u ∧ v = .non ∧ Q ys H') (Y := Yq (gcxOf P w K mg base Ns qual scope f cdv Aw outer s H E0 [(s1.heap.objs.size, ob)]) F ch N Yl)
      (fun n t r s' h => ?_) (fun n t v s' kap kap' hkk hY => ?_) N ?_
    · obtain ⟨u, rfl, ys, v, σ', H', hn, r, ru, ev, hQ⟩ := h
      subst ev
      have eu : u = Value.none := ru
      subst eu
      exact ⟨.inl rfl, ys, H', hn, (seen r).1, hQ⟩
    · obtain ⟨ys, x, σ', H', hn, rx, r, hy, h3⟩ := hY
      exact ⟨ys, x, H', hn, rx, (seen r).1, (seen r).2, hy, fun s'' z => hkk _ _ (h3 s'' z)⟩
    · refine hq.run Aw _ N [] s2 _ [] _ _ id id s2 (start Ns vs) H _ ⟨far, over_func, rfl, rfl, rfl⟩ (Nat.add_zero _) ⟨fun n ys t s' fl hn hs => ?_, fun n t e s' hx => ?_⟩ r0 hqr
      · cases fl with
        | next =>
          obtain ⟨σ', H', r, hQ⟩ := hs
          exact seg_end (.ok (.ret .none)) ⟨_, rfl, ys, .non, σ', H', hn, r, rfl, rfl, hQ⟩
        | brk => obtain ⟨_, _, _, z⟩ := hs; exact z.elim
        | cont => obtain ⟨_, _, _, z⟩ := hs; exact z.elim
        | ret u =>
          obtain ⟨v, σ', H', r, ru, ev, hQ⟩ := hs
          exact seg_end (.ok (.ret u)) ⟨_, rfl, ys, v, σ', H', hn, r, ru, ev, hQ⟩
      · refine seg_wrap ?_
        rw [over_func]
        refine wpAny_mono (show wpAny (model P w) (Aw.deeper (envOfC qual scope s.heap.objs.size f cdv)) (leaving (envOfC qual scope s.heap.objs.size f cdv) e) (fun _ s'' => L2.CX P w outer H s E0 e s'' ∧ ∀ p ∈ [(s1.heap.objs.size, ob)], s''.heap.get? p.1 = some p.2) (fun _ _ => False) s' from hx) (fun _ s'' z => ?_) fun _ s'' z => z.elim
        obtain ⟨⟨_, _, _, _, _, _, _, _, _, _, _, _, z⟩, _⟩ := z
        exact False.elim z
  exact go _ _ _ _ rfl rfl rfl fun h => Heap.get?_push_size _ rfl
end Gr

set_option Elab.async false
set_option linter.all false
set_option maxRecDepth 100000
set_option maxHeartbeats 4000000
namespace Dk
open PySem PySem.Spec PyProof.Rows L2 TL
open Dn (NXs DnO KAt0 KAt)
section
variable {P : Program} {w : World} {K : PySem.W.Frag} {mg : Str → Option Value} {base : Heap} {CC CH fCi fAd fSn : Addr} {fdCi fdAd fdSn : FuncData}
end
end Dk

set_option Elab.async false
set_option linter.all false
set_option maxRecDepth 100000
set_option maxHeartbeats 2000000
set_option autoImplicit false
namespace Gq
open PySem PySem.Spec PyProof.Rows GenW L2
/-- an expression whose value is told with the state left as it is -/
structure Ex1 (X : Cx) (e : Expr) (te : L2.St → Hp → V → Prop) : Prop where
  run : ∀ (pins : List (Addr × Obj)) (σ : L2.St) (H : Hp) (s : Shared) (x : V), Inv X pins σ H s → te σ H x → ∃ u, RelV x u ∧ ∀ (Q : Value → Shared → Prop) (E : Value → Shared → Prop), Q u s → wpAny (model X.prog X.w) X.A (eval e X.env) Q E s
section
variable {X : Cx}
theorem ex_var {i : Nat} {x : Str} {pos : Pos} (hN : X.N[i]? = some x) (hv : Vis X.env.scope x) (hd : (x == ("__debug__" : Str)) = false := by decide) (hcd : (x == ("__classdict__" : Str)) = false := by decide) : Ex1 X (.Name x pos) (fun σ _ v => σ[i]? = some (some v)) := by
  refine ⟨fun pins σ H s v I h => ?_⟩
  obtain ⟨m, hn, hl⟩ := I.loc
  obtain ⟨u, r, l⟩ := hl i x v hN h hv
  refine ⟨u, r, fun Q E q => ?_⟩
  rcases l with ⟨hk, hm⟩ | ⟨hk, c, hc, hcell⟩
  · exact wpAny_Name (wpAny_loadName_local I.ok.kind hk hn hm q) hd
  · rcases hk with hk | hk
    · exact wpAny_Name (wpAny_loadName_cell I.ok.kind hk hc hcell q) hd
    · exact wpAny_Name (wpAny_loadName_free I.ok.kind hk hc hcell q hcd) hd
theorem ex_glob {x : Str} {v : V} {u : Value} {pos : Pos} (hg : Gl X x) (hm : X.mg x = some u) (r : RelV v u) (hd : (x == ("__debug__" : Str)) = false := by decide) : Ex1 X (.Name x pos) (fun _ _ y => y = v) :=
  ⟨fun pins σ H s y I e => ⟨u, by rw [e]; exact r, fun Q E q => ld_glob I hg hm q hd⟩⟩
theorem ex_ixT {K : PySem.W.Frag} {a b : Expr} {pos : Pos} {ta tb : L2.St → Hp → V → Prop} (hK : X.K = K) (ha : Ex1 X a ta) (hb : Ex1 X b tb) (hs : PlainIx b) : Ex1 X (.Subscript a b pos) (fun σ H y => ∃ p xs i, ta σ H (.ref p) ∧ tb σ H (.int i) ∧ SqT K H p xs ∧ atI xs i = some y) := by
  subst hK
  refine ⟨fun pins σ H s y I h => ?_⟩
  obtain ⟨p, xs, i, h1, h2, h3, h4⟩ := h
  obtain ⟨u1, r1, q1⟩ := ha.run pins σ H s _ I h1
  obtain ⟨u2, r2, q2⟩ := hb.run pins σ H s _ I h2
  cases r1
  obtain ⟨t, rfl⟩ := r2
  obtain ⟨its, r, pl, hz⟩ := I.tuple h3
  obtain ⟨j, g1, g2, g3, g4, g5⟩ := atI_get h4
  obtain ⟨w, ew, rw'⟩ := r.get g2
  have hl := r.length
  have hn := line63
  refine ⟨w, rw', fun Q E q => ?_⟩
  refine Subscript_ (q1 _ _ (q2 _ _ ?_))
  exact subscriptTail_builtinR (x := w) pl.typeIs slot_tuple_getitem.lookup (getItem_tuple (j := j) (Q := fun r s' => r = w ∧ Q r s') pl (by omega) (by omega) (by rw [List.size_toArray, ← hl]; exact g1) (by simpa using ew) ⟨rfl, q⟩) (hs _ _)
end
end Gq

set_option Elab.async false
set_option linter.all false
set_option maxRecDepth 100000
set_option maxHeartbeats 2000000
set_option autoImplicit false
namespace Gq
open PySem PySem.Spec PyProof.Rows GenW L2
/-- an address that stands for nothing below the heap's size -/
def Dead (b : Addr) (h : Heap) : Prop := b < h.objs.size ∧ h.get? b = none
theorem dead_push {b : Addr} {h : Heap} {o : Obj} (d : Dead b h) : Dead b (h.push o) := by
  refine ⟨by rw [Heap.size_push]; exact Nat.lt_succ_of_lt d.1, ?_⟩
  cases q : (h.push o).get? b with
  | none => rfl
  | some u =>
    obtain ⟨e1, e2⟩ := Heap.get?_some_iff.mp q
    have e3 : h.objs[b]? = some u := by
      have e4 : (h.push o).objs = h.objs.push o := by cases h; rfl
      rw [e4, Array.getElem?_push_lt d.1] at e1
      rw [Array.getElem?_eq_getElem d.1]; exact e1
    have := Heap.get?_some_iff.mpr ⟨e3, e2⟩
    rw [d.2] at this; cases this
theorem dead_update {b a : Addr} {h : Heap} {f : Obj → Obj} (d : Dead b h) (ha : (h.get? a).isSome = true) : Dead b (h.update a f) := by
  have n : a ≠ b := fun z => by rw [z, d.2] at ha; cases ha
  refine ⟨?_, by rw [Heap.get?_update_other _ _ n]; exact d.2⟩
  have e : (h.update a f).objs.size = h.objs.size := by
    unfold Heap.update
    first | simp | (split <;> simp) | rfl
  rw [e]; exact d.1
theorem runs_dead {M : Model} {b : Addr} {Γ : PySem.Ctx} {p : Pos} {t : Sem PySem.Fin} {fs : List Frame} {s s' : Shared} {e : End} (h : Runs M Γ p t fs s e s') : Dead b s.heap → Dead b s'.heap := by
  induction h with
  | update ha _ ih => exact fun d => ih (dead_update d ha)
  | alloc _ ih => exact fun d => ih (dead_push d)
  | call _ _ ih1 ih2 => exact fun d => ih2 (ih1 d)
  | resumeFresh _ _ _ _ ih1 ih2 => exact fun d => ih2 (ih1 d)
  | resumeSuspended _ _ _ _ ih1 ih2 => exact fun d => ih2 (ih1 d)
  | segRet _ _ ih1 ih2 => exact fun d => ih2 (ih1 d)
  | segGen _ _ ih1 ih2 => exact fun d => ih2 (ih1 d)
  | segSuspGen _ _ _ _ ih1 ih2 => exact fun d => ih2 (ih1 d)
  | _ => first | exact id | assumption
end Gq
namespace Gq
open PySem PySem.Spec PyProof.Rows GenW L2
theorem codeAny_dead {M : Model} {A : Around} {c : Code} {R : Result → Shared → Prop} {s : Shared} (h : codeAny M A c R s) : codeAny M A c (fun r s' => (∀ b, Dead b s.heap → Dead b s'.heap) ∧ R r s') s := by
  intro Γ p hc hΓ
  obtain ⟨r, s', hr, hR⟩ := h Γ p hc hΓ
  exact ⟨r, s', hr, fun b d => runs_dead hr d, hR⟩
end Gq

set_option Elab.async false
set_option linter.all false
set_option maxRecDepth 100000
set_option maxHeartbeats 2000000
set_option autoImplicit false
namespace Gq
open PySem PySem.Spec PyProof.Rows GenW L2
/-- what stands now and didn't then is younger -/
def Young (sc s : Shared) : Prop := ∀ b o, s.heap.get? b = some o → sc.heap.get? b = none → sc.heap.objs.size ≤ b
theorem young_of {sc s : Shared} (h : ∀ b, Dead b sc.heap → Dead b s.heap) : Young sc s := fun b o e n => by
  by_cases c : sc.heap.objs.size ≤ b
  · exact c
  · have := (h b ⟨Nat.lt_of_not_le c, n⟩).2
    rw [e] at this; cases this
/-- an expression whose value is a generator that has not begun -/
abbrev TGq := L2.St → Hp → Nat → (List V → V → Hp → Prop) → (List V → Hp → Prop) → (Hp → Prop) → Prop
structure PGq (X : Cx) (k : Nat) (e : Expr) (tg : TGq) : Prop where
  run : ∀ (pins : List (Addr × Obj)) (s : Shared) (σ : L2.St) (H : Hp) (N : Nat) (Yl : List V → V → Hp → Prop) (Q : List V → Hp → Prop) (K : Hp → Prop), Inv X pins σ H s → tg σ H N Yl Q K →
    wpAny (model X.prog X.w) X.A (eval e X.env) (fun u s' => ∃ H1 sc, K H1 ∧ Inv X pins σ H1 sc ∧ Born X.prog X.w k X.stack H1 sc N Yl Q u s' ∧ Young sc s') X.xe s
section
variable {X : Cx} {k : Nat} {f : Addr} {fd : FuncData} {ps : List Str} {sp : SpQ}
theorem run_gd {pins : List (Addr × Obj)} {σ : L2.St} {H : Hp} {s : Shared} {us : List Value} {vs : List V} {N : Nat} {Yl : List V → V → Hp → Prop} {Q : List V → Hp → Prop} {E1 : Value → Shared → Prop} (F : GdOk X.prog X.w X.K X.mg X.base k f fd ps sp) (hr : Room k X.A) (hb : Binds X.K fd ps [])
    (I : Inv X pins σ H s) (r : Vals vs us) (h : sp vs H N Yl Q) : wpAny (model X.prog X.w) X.A (call (.ref f) us) (fun u s' => Born X.prog X.w k X.stack H s N Yl Q u s' ∧ Young s s') E1 s := by
  have hl : us.length = ps.length := by rw [← r.length]; exact F.len _ _ _ _ _ h
  have hb' : BindsTo s fd ⟨us, []⟩ (ps.zip us) := by
    have z := hb s us I.kIn (by rw [List.append_nil]; exact hl)
    rw [List.append_nil] at z
    exact z
  refine wpAny_call (codeAny_mono (codeAny_dead (F.run X.A X.stack s H ⟨us, []⟩ us vs N Yl Q hr I.env0 hb' r h)) fun res s' hq => ?_)
  obtain ⟨hd, hq⟩ := hq
  cases res with
  | error e => exact hq.elim
  | ok fl =>
    cases fl with
    | ret u => exact ⟨hq, young_of hd⟩
    | next => exact hq.elim
    | brk => exact hq.elim
    | cont => exact hq.elim
def tCq (sp : SpQ) (t : TA) : TGq := fun σ H N Yl Q K => t σ H fun vs H1 => K H1 ∧ sp vs H1 N Yl Q
theorem pgq_call {x : Str} {p pos : Pos} {e : Expr} {es : List Expr} {t : TA} (F : GdOk X.prog X.w X.K X.mg X.base k f fd ps sp) (hr : Room k X.A) (hg : Gl X x) (hm : X.mg x = some (.ref f)) (hk : PySem.W.keepIn X.K (.ref f) = true) (hb : Binds X.K fd ps []) (ha : PA X (e :: es) t)
    (hd : (x == ("__debug__" : Str)) = false := by decide) (he : starEach (e :: es) X.env = (false, eval e X.env) :: starEach es X.env := by rfl) (hp : (backTo pos (starEach es X.env)).any (·.1) = false := by rfl) : PGq X k (.Call (.Name x p) (e :: es) [] pos) (tCq sp t) := by
  refine ⟨fun pins s σ H N Yl Q K I h => ?_⟩
  refine wpAny_Call_Name_kw (ld_glob I hg hm ?_ hd)
  exact PySem.W.callWith_K (h₀ := X.base) I.ok.mod.kin hk (thn (ha.run pos pins s σ H _ I h) fun us s1 ⟨vs, H1, I1, r, qk, q⟩ => ⟨I1.kIn, thn (run_gd F hr hb I1 r q) fun u s' z => ⟨H1, s1, qk, I1, z.1, z.2⟩⟩) he hp
/-- behind the call: the caller's state stands -/
theorem born_inv {pins : List (Addr × Obj)} {σ : L2.St} {H : Hp} {sc s' : Shared} (I : Inv X pins σ H sc) (os : s'.os = sc.os) (ba : AllBare s'.gens) (kp : ∀ b o, sc.heap.get? b = some o → s'.heap.get? b = some o) : Inv X pins σ H s' :=
  I.call' (ch := []) os (Un.kept kp) (I.hok.kept kp) ba fun b z => by simp at z
end
end Gq

set_option Elab.async false
set_option linter.all false
set_option maxRecDepth 100000
set_option maxHeartbeats 2000000
set_option autoImplicit false
namespace Gr
open PySem PySem.Spec PyProof.Rows GenW L2
open Gq (Stand Ge Tq SpQ Young young_of TGq tCq born_inv codeAny_dead)
/-- an expression whose value is a generator that has not begun -/
structure PGq (X : Cx) (k : Nat) (e : Expr) (tg : TGq) : Prop where
  run : ∀ (pins : List (Addr × Obj)) (s : Shared) (σ : L2.St) (H : Hp) (N : Nat) (Yl : List V → V → Hp → Prop) (Q : List V → Hp → Prop) (K : Hp → Prop), Inv X pins σ H s → tg σ H N Yl Q K →
    wpAny (model X.prog X.w) X.A (eval e X.env) (fun u s' => ∃ H1 sc, K H1 ∧ Inv X pins σ H1 sc ∧ Born X.prog X.w k X.stack H1 sc N Yl Q u s' ∧ Young sc s') X.xe s
section
variable {X : Cx} {k : Nat} {f : Addr} {fd : FuncData} {ps : List Str} {sp : SpQ}
theorem run_gd {pins : List (Addr × Obj)} {σ : L2.St} {H : Hp} {s : Shared} {us : List Value} {vs : List V} {N : Nat} {Yl : List V → V → Hp → Prop} {Q : List V → Hp → Prop} {E1 : Value → Shared → Prop} (F : GdOk X.prog X.w X.K X.mg X.base k f fd ps sp) (hr : Room k X.A) (hb : Binds X.K fd ps [])
    (I : Inv X pins σ H s) (r : Vals vs us) (h : sp vs H N Yl Q) : wpAny (model X.prog X.w) X.A (call (.ref f) us) (fun u s' => Born X.prog X.w k X.stack H s N Yl Q u s' ∧ Young s s') E1 s := by
  have hl : us.length = ps.length := by rw [← r.length]; exact F.len _ _ _ _ _ h
  have hb' : BindsTo s fd ⟨us, []⟩ (ps.zip us) := by
    have z := hb s us I.kIn (by rw [List.append_nil]; exact hl)
    rw [List.append_nil] at z
    exact z
  refine wpAny_call (codeAny_mono (codeAny_dead (F.run X.A X.stack s H ⟨us, []⟩ us vs N Yl Q hr I.env0 hb' r h)) fun res s' hq => ?_)
  obtain ⟨hd, hq⟩ := hq
  cases res with
  | error e => exact hq.elim
  | ok fl =>
    cases fl with
    | ret u => exact ⟨hq, young_of hd⟩
    | next => exact hq.elim
    | brk => exact hq.elim
    | cont => exact hq.elim
theorem pgq_call {x : Str} {p pos : Pos} {e : Expr} {es : List Expr} {t : TA} (F : GdOk X.prog X.w X.K X.mg X.base k f fd ps sp) (hr : Room k X.A) (hg : Gl X x) (hm : X.mg x = some (.ref f)) (hk : PySem.W.keepIn X.K (.ref f) = true) (hb : Binds X.K fd ps []) (ha : PA X (e :: es) t)
    (hd : (x == ("__debug__" : Str)) = false := by decide) (he : starEach (e :: es) X.env = (false, eval e X.env) :: starEach es X.env := by rfl) (hp : (backTo pos (starEach es X.env)).any (·.1) = false := by rfl) : PGq X k (.Call (.Name x p) (e :: es) [] pos) (tCq sp t) := by
  refine ⟨fun pins s σ H N Yl Q K I h => ?_⟩
  refine wpAny_Call_Name_kw (ld_glob I hg hm ?_ hd)
  exact PySem.W.callWith_K (h₀ := X.base) I.ok.mod.kin hk (thn (ha.run pos pins s σ H _ I h) fun us s1 ⟨vs, H1, I1, r, qk, q⟩ => ⟨I1.kIn, thn (run_gd F hr hb I1 r q) fun u s' z => ⟨H1, s1, qk, I1, z.1, z.2⟩⟩) he hp
end
end Gr

set_option Elab.async false
set_option linter.all false
set_option maxRecDepth 100000
set_option maxHeartbeats 2000000
set_option autoImplicit false
namespace Gq
open PySem PySem.Spec PyProof.Rows GenW L2
/-- the block's Inv once the generator has run on -/
theorem turn_inv {B : Cx} {st : List Env} {σ : L2.St} {H1 Hg Hg' : Hp} {D : Addr} {rs : List V} {sc s5 s6 t : Shared}
    (hst : B.fs = frs st) (hpn : B.pn = []) (hH : ∀ b, b ≠ D → B.H_0 b = H1 b) (hD0 : ∀ u, B.H_0 D = some u → ∃ xs, u = .lst xs) (hDn : B.H_0 D ≠ none) (k3 : ∀ b o, sc.heap.get? b = some o → B.s_0.heap.get? b = some o) (y3 : ∀ b o, B.s_0.heap.get? b = some o → sc.heap.get? b = none → b = D ∨ b ∈ B.ex)
    (o3 : B.s_0.os = sc.os) (hc : ∀ x c, B.env.cells.lookup x = some c → ∃ v, sc.heap.IsCell c v) (I5 : Inv B [] σ (upd Hg D (.lst rs)) s5) (nD : H1 D = none) (U5 : Un (frs st) [] H1 Hg sc.heap s5.heap) (S5 : Same H1 Hg)
    (sn : Seen B.prog B.w st H1 sc [D, B.env.locals] t Hg' s6) (ht : t.heap = s5.heap) : Inv B [] σ (upd Hg' D (.lst rs)) s6 := by
  obtain ⟨gD, oD, tD, s6D⟩ := sn.mine D (by simp)
  obtain ⟨gL, oL, tL, s6L⟩ := sn.mine B.env.locals (by simp)
  rw [ht] at tD tL
  have un := sn.un
  have nL : B.env.locals ≠ D := fun z => by
    have := I5.free
    rw [z, upd_same] at this; cases this
  have cellc : ∀ {c : Addr} {v : Option Value}, (∃ x, B.env.cells.lookup x = some c) → s5.heap.IsCell c v → s6.heap.IsCell c v := by
    rintro c v ⟨x, e⟩ h5
    obtain ⟨v0, ob, ho, hd⟩ := hc x c e
    have nc : H1 c = none := by
      have z := I5.freeC x c e
      cases q : H1 c with
      | none => rfl
      | some u =>
        have z2 := S5 _ _ q
        have : c ≠ D := fun w => by rw [w, nD] at q; cases q
        rw [upd_ne this, z2] at z; cases z
    obtain ⟨sl5, e5⟩ := U5.any ho nc (by simp)
    obtain ⟨sl6, e6⟩ := un.any ho nc (by simp)
    obtain ⟨ob5, ho5, hd5⟩ := h5
    rw [e5] at ho5
    cases ho5
    exact ⟨_, e6, hd5⟩
  refine ⟨I5.ok, by rw [sn.os, o3], sn.bare, ?_, ?_, fun x c e => ?_, by rw [upd_ne nL]; exact gL, fun x c e => ?_, fun p hp => ?_, fun b u q => ?_, I5.len⟩
  · rw [hst]
    have insc : ∀ b o, B.s_0.heap.get? b = some o → b ≠ D → b ∉ B.ex → sc.heap.get? b = some o := fun b o e n1 n2 => by
      cases q : sc.heap.get? b with
      | none => exact ((y3 b o e q).elim n1 n2).elim
      | some o' => rw [k3 b o' q] at e; exact e
    have nd : ∀ b, B.H_0 b = none → b ≠ D := fun b n z => hDn (by rw [← z]; exact n)
    refine ⟨fun b o e n hb hx => ?_, fun b o e n hb hx => ?_, fun b o e n hx => ?_, fun b o e hx => ?_, fun b xs e => ?_, fun b o u e => ?_, fun b ps e => ?_⟩
    · exact un.keep b o (insc b o e (nd b n) hx) (by rw [← hH b (nd b n)]; exact n) hb (by simp)
    · exact un.slot b o (insc b o e (nd b n) hx) (by rw [← hH b (nd b n)]; exact n) hb (by simp)
    · rw [upd_ne (nd b n)]; exact un.free b o (insc b o e (nd b n) hx) (by rw [← hH b (nd b n)]; exact n) (by simp)
    · by_cases z : b = D
      · subst z; exact ⟨_, s6D⟩
      · exact un.there b o (insc b o e z hx) (by simp)
    · have z : b ≠ D := fun z => by rw [z] at e; obtain ⟨_, w⟩ := hD0 _ e; cases w
      rw [upd_ne z]; exact un.tups b xs (by rw [← hH b z]; exact e)
    · have z : b ≠ D := fun z => by rw [z] at e; obtain ⟨_, w⟩ := hD0 _ e; cases w
      rw [upd_ne z]; exact un.frzs b o u (by rw [← hH b z]; exact e)
    · have z : b ≠ D := fun z => by rw [z] at e; obtain ⟨_, w⟩ := hD0 _ e; cases w
      rw [upd_ne z]; exact un.tbls b ps (by rw [← hH b z]; exact e)
  · obtain ⟨m, hn, hl⟩ := I5.loc
    refine ⟨m, ?_, fun i x v e1 e2 e3 => ?_⟩
    · obtain ⟨ob, es, ep, ho, r⟩ := hn
      rw [tL] at ho
      cases ho
      exact ⟨_, es, ep, s6L, r⟩
    · obtain ⟨u, r, l⟩ := hl i x v e1 e2 e3
      refine ⟨u, r, ?_⟩
      rcases l with l | ⟨l1, c, l2, l3⟩
      · exact .inl l
      · exact .inr ⟨l1, c, l2, cellc ⟨x, l2⟩ l3⟩
  · obtain ⟨v, h5⟩ := I5.cell x c e
    exact ⟨v, cellc ⟨x, e⟩ h5⟩
  · obtain ⟨v0, ob, ho, hd⟩ := hc x c e
    have z := I5.freeC x c e
    have cD : c ≠ D := fun w => by rw [w, upd_same] at z; cases z
    rw [upd_ne cD] at z ⊢
    have nc : H1 c = none := by
      cases q : H1 c with
      | none => rfl
      | some u => rw [S5 _ _ q] at z; cases z
    exact un.free c ob ho nc (by simp)
  · rw [hpn] at hp; simp at hp
  · by_cases z : b = D
    · subst z
      rw [upd_same] at q
      cases q
      obtain ⟨hz, its, n, rv, e⟩ := I5.hok b _ upd_same
      rw [tD] at e
      cases e
      exact ⟨hz, its, n, rv, s6D⟩
    · rw [upd_ne z] at q
      exact (sn.ok b u q).stay (fun _ _ _ w => w) (fun d w => by rw [upd_ne (ne_of_none w gD)]; exact w) fun d xs w => by rw [upd_ne (ne_of_none w gD)]; exact w
end Gq

set_option Elab.async false
set_option linter.all false
set_option maxRecDepth 100000
set_option maxHeartbeats 2000000
set_option autoImplicit false
namespace Gq
open PySem PySem.Spec PyProof.Rows GenW L2
section
variable {X : Cx}
/-- a local name is set: the state told exactly -/
theorem named {pins : List (Addr × Obj)} {σ : L2.St} {H : Hp} {s : Shared} {i : Nat} {x : Str} {v : V} {u : Value} {m : Str → Option Value} {h' : Heap} {tk : Nat} (I : Inv X pins σ H s) (hN : X.N.Nodup) (hi : X.N[i]? = some x) (hk : X.env.scope.names.lookup x = some .local) (r : RelV v u)
    (hm : s.heap.Ns X.env.locals m) (hl : ∀ (j : Nat) (y : Str) (v' : V), X.N[j]? = some y → σ[j]? = some (some v') → Vis X.env.scope y → ∃ u', RelV v' u' ∧ Look X.env s.heap m y u')
    (hn : h'.Ns X.env.locals (fun y => if y = x then some u else m y)) (sb : Heap.SameBut X.env.locals s.heap h') : Inv X pins (σ.set i (some v)) H { s with heap := h', toks := tk } := by
  have same : ∀ {b : Addr} {o : Obj}, b ≠ X.env.locals → s.heap.get? b = some o → h'.get? b = some o := fun n e => (sb.2 _ n).trans e
  have low : ∀ {b : Addr} {o : Obj}, X.s_0.heap.get? b = some o → b ≠ X.env.locals := fun e => Nat.ne_of_lt (Nat.lt_of_lt_of_le (Heap.lt_size e) I.ok.above)
  have nl : ∀ {b : Addr} {w : HO}, H b = some w → b ≠ X.env.locals := fun {b w} e z => by
    have := I.free
    rw [← z, e] at this; cases this
  have iz : i < σ.length := by rw [I.len]; exact (List.getElem?_eq_some_iff.mp hi).1
  refine ⟨I.ok, I.os, I.bare, ⟨fun b o e n hb hx => same (low e) (I.base.keep b o e n hb hx), fun b o e n hb hx => ?_, I.base.free, fun b o e hx => ?_, I.base.tups, I.base.frzs, I.base.tbls⟩,
    ⟨_, hn, fun j y v' e1 e2 e3 => ?_⟩, fun y c e => ?_, I.free, I.freeC, fun p hp => ?_, fun b w e => ?_, by simpa using I.len⟩
  · obtain ⟨sl, e1⟩ := I.base.slot b o e n hb hx
    exact ⟨sl, same (low e) e1⟩
  · obtain ⟨o', e1⟩ := I.base.there b o e hx
    exact ⟨o', same (low e) e1⟩
  · by_cases hj : j = i
    · subst hj
      rw [hi] at e1; cases e1
      rw [List.getElem?_set_self iz] at e2
      cases e2
      exact ⟨u, r, .inl ⟨hk, by simp⟩⟩
    · rw [List.getElem?_set_ne (Ne.symm hj)] at e2
      obtain ⟨u', r', q⟩ := hl j y v' e1 e2 e3
      refine ⟨u', r', ?_⟩
      rcases q with ⟨k, e⟩ | ⟨k, c, e, z⟩
      · have : y ≠ x := fun e => hj (nodup_ix hN e1 (e ▸ hi))
        exact .inl ⟨k, by simp [this, e]⟩
      · exact .inr ⟨k, c, e, z.sameBut sb (I.cne y c e)⟩
  · obtain ⟨w', z⟩ := I.cell y c e
    exact ⟨w', z.sameBut sb (I.cne y c e)⟩
  · obtain ⟨e, n, ne, nf, d⟩ := I.pin p hp
    exact ⟨same ne e, n, ne, nf, d⟩
  · refine (I.hok b w e).stay (fun c w' hc q => (sb.2 c ?_).trans q) (fun _ q => q) fun _ _ q => q
    rintro rfl
    rcases hc with rfl | hc
    · exact nl e rfl
    · exact nl hc rfl
/-- one turn's work in a comprehension: the item under its name, elt, the append -/
theorem turn_work {pins : List (Addr × Obj)} {σ : L2.St} {H : Hp} {s : Shared} {i : Nat} {x : Str} {px : Pos} {v y : V} {u : Value} {elt : Expr} {te : L2.St → Hp → V → Prop} {D : Addr} {rs : List V} {Q : Shared → Prop} {E E2 E3 : Value → Shared → Prop}
    (I : Inv X pins σ H s) (hN : X.N.Nodup) (hi : X.N[i]? = some x) (hk : X.env.scope.names.lookup x = some .local) (r : RelV v u) (he : Ex1 X elt te)
    (hD : H D = some (.lst rs)) (hz : rs.length < sizeLine) (ht : te (σ.set i (some v)) H y)
    (h : ∀ s', Inv X pins (σ.set i (some v)) (upd H D (.lst (rs ++ [y]))) s' → s'.gens = s.gens → s'.os = s.os → (∀ b o, b ∉ [D, X.env.locals] → s.heap.get? b = some o → s'.heap.get? b = some o) →
      (∃ its n, s'.heap.get? D = some { cls := .type "list", data := .seq its n }) → Q s') :
    wpAny (model X.prog X.w) X.A (assign (.Name x px) X.env u) (fun _ s2 => wpAny (model X.prog X.w) X.A (eval elt X.env) (fun z s4 => wpAny (model X.prog X.w) X.A (call (.builtin "list.append") [.ref D, z]) (fun _ s5 => Q s5) E3 s4) E2 s2) E s := by
  obtain ⟨m, hn, hl⟩ := id I.loc
  have hcls : (X.env.scope.kind == .class || (X.env.scope.kind == .module && X.env.locals != X.env.globals)) = false := by rw [I.ok.kind]; rfl
  refine wpAny_assign_Name (wpAny_storeName_local hk hn (fun h' hn' sb => ?_) hcls)
  have I2 := named (tk := s.toks + 1) I hN hi hk r hn hl hn' sb
  obtain ⟨w, rw', q⟩ := he.run pins _ H _ y I2 ht
  refine q _ _ ?_
  obtain ⟨hz', its, n, ri, e⟩ := I2.hok D _ hD
  have hlen := ri.length
  refine append_at (hsz := by rw [List.size_toArray]; omega) e fun h2 sb2 ho' => ?_
  refine h _ (I2.write (t' := s.toks + 1) (by rw [hD]; trivial) (.inl rfl) (fun b u hb q => (sb2.2 b hb).trans q) ⟨_, ho'⟩ ⟨by rw [List.length_append]; exact hz, its ++ [w], n + 1, ri.append (.cons rw' .nil), ?_⟩) rfl rfl (fun b o nb e0 => ?_) ⟨_, _, ho'⟩
  · rw [ho']
    simp
  · have n1 : b ≠ D := fun z => nb (by simp [z])
    have n2 : b ≠ X.env.locals := fun z => nb (by simp [z])
    exact (sb2.2 b n1).trans ((sb.2 b n2).trans e0)
end
end Gq

set_option Elab.async false
set_option linter.all false
set_option maxRecDepth 100000
set_option maxHeartbeats 2000000
set_option autoImplicit false
namespace Gq
open PySem PySem.Spec PyProof.Rows GenW L2
/-- the new list and the block's frame stand, and are no cells -/
theorem stand_of {B : Cx} {pins : List (Addr × Obj)} {σ : L2.St} {H : Hp} {s : Shared} {D : Addr} {rs : List V} (I : Inv B pins σ H s) (hD : H D = some (.lst rs)) : Stand [D, B.env.locals] s := by
  intro b hb
  rcases List.mem_cons.mp hb with z | z
  · subst z
    obtain ⟨_, its, n, _, e⟩ := I.hok _ _ hD
    exact ⟨_, e, fun v h => by cases h⟩
  · have z : b = B.env.locals := by simpa using z
    subst z
    obtain ⟨m, hn, _⟩ := I.loc
    obtain ⟨ob, es, ep, ho, hd, _⟩ := hn
    exact ⟨ob, ho, fun v h => by rw [hd] at h; cases h⟩
/-- gens, heap by what stood: the block's state stays -/
theorem regen {B : Cx} {σ : L2.St} {H : Hp} {s s' : Shared} (I : Inv B [] σ H s) (os : s'.os = s.os) (ba : AllBare s'.gens) (kp : ∀ b o, s.heap.get? b = some o → s'.heap.get? b = some o) : Inv B [] σ H s' :=
  I.call' (ch := []) os (Un.kept kp) (I.hok.kept kp) ba fun b z => by simp at z
/-- what next() of the generator is told with -/
abbrev R0 (P : Program) (w : World) (st : List Env) (H1 : Hp) (sc : Shared) (ch : List Addr) (N : Nat) (Q : List V → Hp → Prop) : GenEnd := fun n t r s =>
  ((r = .ok (.ret .none) ∨ r = .ok .next) ∧ ∃ ys H', n + ys.length = N ∧ Seen P w st H1 sc ch t H' s ∧ Q ys H') ∨ ∃ e, r = .error e ∧ (fun (_ : Value) (_ : Shared) => False) e s
/-- before a turn: n items may come yet -/
structure Bt (B : Cx) (st : List Env) (H1 : Hp) (sc : Shared) (N : Nat) (Yl : List V → V → Hp → Prop) (Q : List V → Hp → Prop) (a D : Addr) (g : Nat) (σ : L2.St) (Wn : Nat → List V → Prop) (n : Nat) (Hg : Hp) (rs : List V) (gs : GenState) (s : Shared) : Prop where
  le : n ≤ N
  inv : Inv B [] σ (upd Hg D (.lst rs)) s
  isg : s.heap.IsGen a g
  at_ : s.gens[g]? = some gs
  go : gs.Goes (model B.prog B.w) B.A.in1 (R0 B.prog B.w st H1 sc [D, B.env.locals] N Q) (Item B.prog B.w st H1 sc [D, B.env.locals] N Yl a g) n (.send .none) (s.setGen g .running)
  un : Un (frs st) [] H1 Hg sc.heap s.heap
  same : Same H1 Hg
  w : Wn (N - n) rs
theorem gq_loop {B : Cx} {st : List Env} {H1 : Hp} {sc : Shared} {N : Nat} {Yl : List V → V → Hp → Prop} {Q : List V → Hp → Prop} {a D : Addr} {g i : Nat} {σ : L2.St} {Wn : Nat → List V → Prop} {x : Str} {px pos : Pos} {elt iter : Expr} {scope : Scope} {te : L2.St → Hp → V → Prop} {R : Result → Shared → Prop}
    (hh : B.A.handled = none) (hd : B.A.depth < recursionLimit) (hN : B.N.Nodup) (hi : B.N[i]? = some x) (hk : B.env.scope.names.lookup x = some .local) (hw : ∀ v, σ[i]? ≠ some (some v)) (he : Ex1 B elt te)
    (hst : B.fs = frs st) (hpn : B.pn = []) (hH : ∀ b, b ≠ D → B.H_0 b = H1 b) (hD0 : ∀ u, B.H_0 D = some u → ∃ xs, u = .lst xs) (hDn : B.H_0 D ≠ none) (k3 : ∀ b o, sc.heap.get? b = some o → B.s_0.heap.get? b = some o) (y3 : ∀ b o, B.s_0.heap.get? b = some o → sc.heap.get? b = none → b = D ∨ b ∈ B.ex)
    (o3 : B.s_0.os = sc.os) (hc : ∀ x c, B.env.cells.lookup x = some c → ∃ v, sc.heap.IsCell c v) (nD : H1 D = none) (nsD : sc.heap.get? D = none) (nsC : sc.heap.get? B.env.locals = none) (aD : a ≠ D) (aC : a ≠ B.env.locals)
    (hs : ∀ ys x Hg rs, ys.length < N → Yl ys x Hg → Hg D = none → Wn ys.length rs → Same H1 Hg ∧ rs.length < sizeLine ∧ ∃ y, te (σ.set i (some x)) (upd Hg D (.lst rs)) y ∧ Wn (ys.length + 1) (rs ++ [y]))
    (hend : ∀ ys Hg rs s', ys.length ≤ N → Q ys Hg → Wn ys.length rs → Hg D = none → Inv B [] σ (upd Hg D (.lst rs)) s' → Un (frs st) [] H1 Hg sc.heap s'.heap → R (.ok .next) s')
    (n : Nat) {Hg : Hp} {rs : List V} {gs : GenState} {s : Shared} (b0 : Bt B st H1 sc N Yl Q a D g σ Wn n Hg rs gs s) :
    codeAny (model B.prog B.w) B.A (.compLoop (.ListComp elt [⟨.Name x px, iter, [], 0⟩] scope pos) 0 (.ref a) (.ref D) B.env) R s := by
  refine compLoop_any (fun n s' => ∃ Hg rs gs, Bt B st H1 sc N Yl Q a D g σ Wn n Hg rs gs s') (fun n s5 hb => ?_) n ⟨Hg, rs, gs, b0⟩
  obtain ⟨Hg, rs, gs, b⟩ := hb
  have hgl : g + 1 ≤ s5.gens.size := (Array.getElem?_eq_some_iff.mp b.at_).1
  refine wpAny_gsz hgl (next_genG (Er := fun _ _ => False) hh b.inv.nolimit hd b.isg b.at_ b.go (fun v s1 gs' hbare hv => ?_) (fun s1 hp h' hk' => ?_) fun e s1 he' => he'.elim)
  · intro hsz
    obtain ⟨ys, xv, Hg', hn, rx, sn, hg1, hy, hk'⟩ := hv
    have I6 := turn_inv (t := s5.setGen g .running) hst hpn hH hD0 hDn k3 y3 o3 hc b.inv nD b.un b.same sn rfl
    have gD : Hg' D = none := (sn.mine D (by simp)).1
    have hlt : ys.length < N := by omega
    have I6' : Inv B [] σ (upd Hg' D (.lst rs)) (s1.setGen g gs') := regen I6 rfl (allBare_setGen sn.bare hbare) fun _ _ e => e
    cases n with
    | zero => exact (hk' s1 ⟨rfl, sn.bare, fun _ _ _ e => e, stand_of I6 upd_same⟩).elim
    | succ m =>
      have hm : m + 1 + ys.length = N := by simpa using hn
      have ew : N - (m + 1) = ys.length := by omega
      have wn : Wn ys.length rs := by have := b.w; rw [ew] at this; exact this
      obtain ⟨sm, hz, y, ht, wy⟩ := hs ys xv Hg' rs hlt hy gD wn
      obtain ⟨o, nm, qn, ho, oc, od, osl⟩ := hg1
      refine go_of (s := s1.setGen g gs') ho oc od (by decide) ?_
      refine thn (turn_work I6' hN hi hk rx he upd_same hz ht fun s8 I8 e1 e2 kp hDl => ?_) fun _ s2 h2 => wpAny_tests_nil (by rw [if_pos rfl]; exact h2)
      have I8 : Inv B [] (σ.set i (some xv)) (upd Hg' D (.lst (rs ++ [y]))) s8 := by
        have q := I8
        have : upd (upd Hg' D (.lst rs)) D (.lst (rs ++ [y])) = upd Hg' D (.lst (rs ++ [y])) := by
          funext c
          by_cases z : c = D
          · subst z; rw [upd_same, upd_same]
          · rw [upd_ne z, upd_ne z, upd_ne z]
        rw [this] at q
        exact q
      have hi1 : i < σ.length := by
        have := I6.len
        rw [this]; exact (List.getElem?_eq_some_iff.mp hi).1
      have I9 : Inv B [] σ (upd Hg' D (.lst (rs ++ [y]))) s8 := I8.weak (by simp) fun j v e => by
        by_cases z : j = i
        · subst z; exact absurd e (hw v)
        · rw [List.getElem?_set_ne (Ne.symm z)]; exact e
      have kp1 : ∀ c oo, c ∉ [D, B.env.locals] → s1.heap.get? c = some oo → s8.heap.get? c = some oo := kp
      have hsz1 : g < s1.gens.size := by
        have q : (s1.setGen g gs').gens.size = s1.gens.size := setGen_size _ _ _
        have hsz' : g + 1 ≤ (s1.setGen g gs').gens.size := hsz
        omega
      have g8 : s8.gens[g]? = some gs' := by rw [e1]; exact setGen_at hsz1
      have st8 : Stand [D, B.env.locals] s8 := stand_of I9 upd_same
      refine ⟨m, Nat.lt_succ_self _, Hg', rs ++ [y], gs', by omega, I9, ⟨o, nm, qn, kp1 a o (by simp [aD, aC]) ho, oc, od, osl⟩, g8, ?_, ?_, sm, ?_⟩
      · exact hk' (s8.setGen g .running) ⟨e2, allBare_setGen I9.bare rfl, kp1, st8⟩
      · have out : ∀ {c : Addr} {oo : Obj}, sc.heap.get? c = some oo → c ∉ [D, B.env.locals] := fun {c oo} e z => by
          rcases List.mem_cons.mp z with z | z
          · rw [z, nsD] at e; cases e
          · have z : c = B.env.locals := by simpa using z
            rw [z, nsC] at e; cases e
        refine ⟨fun c oo e n1 h1 h2 => kp1 c _ (out e) (sn.un.keep c oo e n1 h1 h2), fun c oo e n1 h1 h2 => ?_, sn.un.free, fun c oo e h2 => ?_, sn.un.tups, sn.un.frzs, sn.un.tbls⟩
        · obtain ⟨sl, q⟩ := sn.un.slot c oo e n1 h1 h2
          exact ⟨sl, kp1 c _ (out e) q⟩
        · obtain ⟨o', q⟩ := sn.un.there c oo e h2
          exact ⟨o', kp1 c _ (out e) q⟩
      · have : N - m = ys.length + 1 := by omega
        rw [this]; exact wy
  · intro hsz
    obtain ⟨ys, Hg', hn, sn, hQ⟩ := hp
    have I6 := turn_inv (t := s5.setGen g .running) hst hpn hH hD0 hDn k3 y3 o3 hc b.inv nD b.un b.same sn rfl
    have gD : Hg' D = none := (sn.mine D (by simp)).1
    have ew : N - n = ys.length := by omega
    have wn : Wn ys.length rs := by have := b.w; rw [ew] at this; exact this
    exact hend ys Hg' rs _ (by omega) hQ wn gD (regen I6 rfl (allBare_setGen sn.bare rfl) hk') (sn.un.trans (Un.kept hk'))
end Gq

set_option Elab.async false
set_option linter.all false
set_option maxRecDepth 100000
set_option maxHeartbeats 2000000
set_option autoImplicit false
namespace Gq
open PySem PySem.Spec PyProof.Rows GenW L2
section
variable {X : Cx} {k : Nat}
/-- [elt for x in g(..)]: Wn by the number of items and the results so far -/
def tGc (tg : TGq) (te : L2.St → Hp → V → Prop) (i : Nat) (vs : List Nat) : TE := fun σ H Qv => ∃ (N : Nat) (Yl : List V → V → Hp → Prop) (Qe : List V → Hp → Prop) (K : Hp → Prop), tg σ H N Yl Qe K ∧ ∀ H1, K H1 → ∀ D, H1 D = none → ∃ Wn : Nat → List V → Prop, Wn 0 [] ∧
  (∀ ys x Hg rs, ys.length < N → Yl ys x Hg → Hg D = none → Wn ys.length rs → Same H1 Hg ∧ rs.length < sizeLine ∧ ∃ y, te ((wipe σ vs).set i (some x)) (upd Hg D (.lst rs)) y ∧ Wn (ys.length + 1) (rs ++ [y])) ∧
  ∀ ys Hg rs, ys.length ≤ N → Qe ys Hg → Wn ys.length rs → Hg D = none → Qv (.ref D) (upd Hg D (.lst rs))
theorem gc_core {pins : List (Addr × Obj)} {s : Shared} {σ : L2.St} {H : Hp} {Qv : VK} {use : Option (Value → Sem Unit)} {Qf : Value → Shared → Prop} {pos' : Pos} {elt iter : Expr} {x : Str} {i : Nat} {px pos : Pos} {scope : Scope} {own : List (Str × Nat)} {tg : TGq} {te : L2.St → Hp → V → Prop} (I : Inv X pins σ H s) (hr : Room (k + 1) X.A) (hN : X.N.Nodup) (hg : PGq X k iter tg) (ok : BlkOk X.N X.env.scope scope own)
    (hi : X.N[i]? = some x) (hix : i ∈ own.map (·.2)) (hk : scope.names.lookup x = some .local) (hnc : ∀ y ∈ scope.names, y.2 ≠ .cell)
    (he : ∀ (s : Shared) (H : Hp) (C : Addr) (cl : List (Str × Addr)) (fp : List Addr), Ex1 (X.blk s H scope (compEnvC scope cl C X.env) fp) elt te) (hs : ∀ x, foldedSetIterable iter X.env x = pure x)
    (h : tGc tg te i (own.map (·.2)) σ H Qv)
    (hRR : ∀ D C s' m H', Inv X pins σ H' s' → Qv (.ref D) H' → s'.heap.Ns C m → FpOk X pins H' C → compPost (model X.prog X.w) X.A X.xe use Qf (.ref D) C (.ok .next) s') :
    wpAny (model X.prog X.w) X.A (comprehension (.ListComp elt [⟨.Name x px, iter, [], 0⟩] scope pos) scope X.env pos' (newList []) false (eval iter X.env) use) Qf X.xe s := by
  obtain ⟨N, Yl, Qe, K, htg, hcon⟩ := h
  have hfree : ∀ y ∈ scope.names, y.2 = .free → ∃ c, X.env.cells.lookup y.1 = some c := fun y hy e => by
    rcases ok.free y hy e with k | k
    · exact I.ok.has _ (.inl k)
    · exact I.ok.has _ (.inr k)
  refine wpAny_comprehension_free (use := use) rfl hs (closure_ok hfree) ok.kind (fun y hy e => by rw [ok.uniq y hy, e])
    (thn (hg.run pins s σ H N Yl Qe K I htg) fun u s1 hx => ?_)
  obtain ⟨H1, sc, hK, Isc, born, young⟩ := hx
  obtain ⟨a, g, c, rfl, ha1, ha2, hisg, hgs, hos, hba, hlim, hkp, wake⟩ := born
  refine wpAny_pyIter_gen hisg ?_
  have I1 : Inv X pins σ H1 s1 := born_inv Isc hos hba hkp
  refine wpAny_newObj_type (newEnv_comp ?_) (by show 0 ≤ sizeLine; decide)
  generalize hD : s1.heap.objs.size = D
  have hDn : H1 D = none := I1.hok.fresh (Nat.le_of_eq hD)
  obtain ⟨Wn, w0, hstep, hfin⟩ := hcon H1 hK D hDn
  generalize hs3 : ({ s1 with heap := s1.heap.push { cls := .type "list", data := .seq ([] : List Value).toArray } } : Shared) = s3
  have h3 : s3.heap = s1.heap.push { cls := .type "list", data := .seq ([] : List Value).toArray } := by rw [← hs3]
  have I3 : Inv X pins σ (upd H1 D (.lst [])) s3 := by
    rw [← hs3]
    refine I1.laid (t' := s1.toks) (fun b o e => Heap.get?_push_of_some _ e) (Nat.le_of_eq hD) ⟨Nat.zero_le _, [], 0, .nil, ?_⟩
    rw [← hD]
    exact Heap.get?_push_size _ rfl
  have z3 : s3.heap.objs.size = D + 1 := by rw [h3, Heap.size_push, hD]
  have scD : sc.heap.objs.size ≤ D := by
    rw [← hD]
    exact Nat.le_of_lt (Nat.lt_of_le_of_lt ha1 ha2)
  have haD : a < D := by rw [← hD]; exact ha2
  -- what the call made
  generalize hfp : (List.range s3.heap.objs.size).filter (fun b => decide (sc.heap.objs.size ≤ b) && decide (b ≠ D)) = fp
  have mfp : ∀ b, b ∈ fp ↔ (b < s3.heap.objs.size ∧ sc.heap.objs.size ≤ b ∧ b ≠ D) := fun b => by
    rw [← hfp, List.mem_filter, List.mem_range, Bool.and_eq_true, decide_eq_true_eq, decide_eq_true_eq]
  have f3 : ∀ b ∈ fp, FpOk X pins (upd H1 D (.lst [])) b ∧ b < s3.heap.objs.size := fun b hb => by
    obtain ⟨q1, q2, q3⟩ := (mfp b).mp hb
    refine ⟨Isc.fpOk q2 ?_, q1⟩
    rw [upd_ne q3]
    exact Isc.hok.fresh q2
  have I4 := block_start I3 ok hN f3
  have pe := he s3 (upd H1 D (.lst [])) s3.heap.objs.size (cellsFrom (s3.heap.objs.size + 1) scope.names (cloFrom X.env.cells scope.names [])) fp
  show codeAny _ _ (.compStart (.ListComp elt [⟨.Name x px, iter, [], 0⟩] scope pos) 0 (.ref a) (.ref D) (compEnvC scope (cellsFrom (s3.heap.objs.size + 1) scope.names (cloFrom X.env.cells scope.names [])) s3.heap.objs.size X.env)) (compPost (model X.prog X.w) X.A X.xe use Qf (.ref D) s3.heap.objs.size) { s3 with heap := pushCells (s3.heap.push { cls := .type "dict", data := .dict #[] }) scope.names }
  have kp4 : ∀ b o, s1.heap.get? b = some o → (pushCells (s3.heap.push { cls := .type "dict", data := .dict #[] }) scope.names).get? b = some o := fun b o e =>
    pushCells_keeps _ _ _ _ (Heap.get?_push_of_some _ (by rw [h3]; exact Heap.get?_push_of_some _ e))
  have hce' : ∀ y c, (cellsFrom (s3.heap.objs.size + 1) scope.names (cloFrom X.env.cells scope.names [])).lookup y = some c → ∃ v, sc.heap.IsCell c v := fun y c e => by
    rw [← Heap.size_push s3.heap { cls := .type "dict", data := .dict #[] }] at e
    rcases cells_mem (PySem.mem_of_lookup e) with z | ⟨z, _, _⟩
    · rcases cloFrom_mem z with z | ⟨z1, z2⟩
      · simp at z
      · obtain ⟨c', e'⟩ := hfree _ z1 rfl
        have e' : X.env.cells.lookup y = some c' := e'
        rw [e'] at z2
        have z2 : c = c' := z2
        rw [z2]
        exact Isc.cell y c' e'
    · exact absurd rfl (hnc _ z)
  have hkr : (relS scope X.env.scope).names.lookup x = some .local := lookup_relS_keep (by intro h; cases h) hk
  generalize hce : compEnvC scope (cellsFrom (s3.heap.objs.size + 1) scope.names (cloFrom X.env.cells scope.names [])) s3.heap.objs.size X.env = ce at I4 pe ⊢
  have cL : ce.locals = s3.heap.objs.size := by subst hce; rfl
  have cC : ce.cells = cellsFrom (s3.heap.objs.size + 1) scope.names (cloFrom X.env.cells scope.names []) := by subst hce; rfl
  have cS : ce.scope = relS scope X.env.scope := by subst hce; rfl
  generalize hs4 : ({ s3 with heap := pushCells (s3.heap.push { cls := .type "dict", data := .dict #[] }) scope.names } : Shared) = s4 at I4 ⊢
  have g4 : s4.gens = s1.gens := by rw [← hs4, ← hs3]
  have o4 : s4.os = s1.os := by rw [← hs4, ← hs3]
  have kp4 : ∀ b o, s1.heap.get? b = some o → s4.heap.get? b = some o := fun b o e => by rw [← hs4]; exact kp4 b o e
  have gnone : ∀ b, sc.heap.objs.size ≤ b → sc.heap.get? b = none := fun b hb => by
    cases q : sc.heap.get? b with
    | none => rfl
    | some o => exact absurd (Nat.lt_of_lt_of_le (Heap.lt_size q) hb) (Nat.lt_irrefl _)
  have hupd : ∀ b, b ≠ D → (upd H1 D (.lst [])) b = H1 b := fun b n => upd_ne n
  have loop : codeAny (model X.prog X.w) X.A (.compLoop (.ListComp elt [⟨.Name x px, iter, [], 0⟩] scope pos) 0 (.ref a) (.ref D) ce) (compPost (model X.prog X.w) X.A X.xe use Qf (.ref D) s3.heap.objs.size) s4 := by
    refine gq_loop (B := X.blk s3 (upd H1 D (.lst [])) scope ce fp) (st := X.stack) (H1 := H1) (sc := sc) (N := N) (Yl := Yl) (Q := Qe) (g := g) (σ := wipe σ (own.map (·.2))) (Wn := Wn) (te := te) hr.hd (by have := hr.dp; show X.A.depth < _; omega) hN hi
      (by show ce.scope.names.lookup x = _; rw [cS]; exact hkr) (fun v e => (wipe_some e).2 hix) pe rfl rfl hupd (fun u e => ⟨[], by have e : (upd H1 D (.lst [])) D = some u := e; rw [upd_same] at e; exact (Option.some.inj e).symm⟩) (by show (upd H1 D (.lst [])) D ≠ none; rw [upd_same]; intro h; cases h)
      (fun b o e => by show s3.heap.get? b = some o; rw [h3]; exact Heap.get?_push_of_some _ (hkp b o e)) (fun b o e n => ?_) (by show s3.os = sc.os; rw [← hs3]; exact hos) (fun y c e => hce' y c (by rw [← cC]; exact e)) hDn (gnone D scD) (gnone _ (by show _ ≤ ce.locals; rw [cL, z3]; exact Nat.le_succ_of_le scD)) (Nat.ne_of_lt haD) (by show a ≠ ce.locals; rw [cL, z3]; exact Nat.ne_of_lt (Nat.lt_succ_of_lt haD))
      (fun ys xv Hg rs q1 q2 q3 q4 => hstep ys xv Hg rs q1 q2 q3 q4) (fun ys Hg rs s6 q1 q2 q3 q4 I6 un6 => ?_) N (Hg := H1) (rs := []) (gs := .fresh c) ?_
    · have e : s3.heap.get? b = some o := e
      by_cases z : b = D
      · exact .inl z
      · refine .inr ((mfp b).mpr ⟨Heap.lt_size e, ?_, z⟩)
        have e1 : s1.heap.get? b = some o := by
          rw [h3] at e
          exact (Heap.get?_push_ne _ _ _ (by rw [hD]; exact z)).symm.trans e
        exact young b o e1 n
    · have I7 : Inv X pins σ (upd Hg D (.lst rs)) s6 := I3.call' (ch := fp) I6.os I6.base I6.hok I6.bare fun b hb => ⟨(f3 b hb).1.2.2.2.1, (f3 b hb).1.2.1, (f3 b hb).1.2.2.2.2.1, (f3 b hb).1.2.2.2.2.2⟩
      have nC : (upd Hg D (.lst rs)) s3.heap.objs.size = none := by
        have z : (upd Hg D (.lst rs)) ce.locals = none := I6.free
        rw [cL] at z
        exact z
      obtain ⟨m, hn, _⟩ := I6.loc
      have hn : s6.heap.Ns ce.locals m := hn
      rw [cL] at hn
      exact hRR D _ s6 m _ I7 (hfin ys Hg rs q1 q2 q3 q4) hn (I3.fpOk (Nat.le_refl _) nC)
    · have st4 : Stand [D, ce.locals] s4 := stand_of I4 upd_same
      refine ⟨Nat.le_refl _, I4, hisg.keeps kp4, by rw [g4]; exact hgs, ⟨rfl, ?_⟩, Un.kept fun b o e => kp4 b o (hkp b o e), fun _ _ e => e, by rw [Nat.sub_self]; exact w0⟩
      refine seg_imp (fun n t r s' z => ?_) (fun n t v s' kap kap' hkk hY => ?_) N (wake X.A.in1 [D, ce.locals] (s4.setGen g .running) hr.in1 I.env0.1 (fun b hb => ?_) kp4 st4 (o4.trans hos) (allBare_setGen (by rw [g4]; exact hba) rfl))
      · exact .inl z
      · obtain ⟨ys, xv, H', q1, q2, q3, q4, q5, q6⟩ := hY
        exact ⟨ys, xv, H', q1, q2, q3, q4, q5, fun s'' z => hkk _ _ (q6 s'' z)⟩
      · rcases List.mem_cons.mp hb with z | z
        · rw [z]; omega
        · have z : b = ce.locals := by simpa using z
          rw [z, cL, z3]; omega
  exact codeAny_compStart_list loop (wpAny_pyIter_gen (hisg.keeps kp4) loop)
theorem pe_gc {elt iter : Expr} {x : Str} {i : Nat} {px pos : Pos} {scope : Scope} {own : List (Str × Nat)} {tg : TGq} {te : L2.St → Hp → V → Prop} (hr : Room (k + 1) X.A) (hN : X.N.Nodup) (hg : PGq X k iter tg) (ok : BlkOk X.N X.env.scope scope own)
    (hi : X.N[i]? = some x) (hix : i ∈ own.map (·.2)) (hk : scope.names.lookup x = some .local) (hnc : ∀ y ∈ scope.names, y.2 ≠ .cell)
    (he : ∀ (s : Shared) (H : Hp) (C : Addr) (cl : List (Str × Addr)) (fp : List Addr), Ex1 (X.blk s H scope (compEnvC scope cl C X.env) fp) elt te) (hs : ∀ x, foldedSetIterable iter X.env x = pure x := by intro _; rfl) :
    PE X (.ListComp elt [⟨.Name x px, iter, [], 0⟩] scope pos) (tGc tg te i (own.map (·.2))) := by
  refine ⟨fun pins s σ H Q I h => ?_⟩
  rw [eval_ListComp]
  refine gc_core I hr hN hg ok hi hix hk hnc he hs h fun D C s' m H' I' q hn f => ⟨m, hn, fun h'' sb => ?_⟩
  obtain ⟨f0, f1, f2, f3, f4, f5⟩ := f
  exact ⟨.ref D, H', I'.turned (t' := s'.toks) (fun b o hb e => (sb.2 b hb).trans e) f0 f1 f3 f4 f5, rfl, q⟩
/-- name = [..] on one line, the name a local -/
theorem ps_setGc {j : Nat} {y : Str} {py spos : Pos} {elt iter : Expr} {x : Str} {i : Nat} {px pos : Pos} {scope : Scope} {own : List (Str × Nat)} {tg : TGq} {te : L2.St → Hp → V → Prop} (hy : X.N[j]? = some y) (hyl : X.env.scope.names.lookup y = some .local) (hsw : swapsWith (.ListComp elt [⟨.Name x px, iter, [], 0⟩] scope pos) (some (.Name y py)) spos.line X.env = pure true) (hr : Room (k + 1) X.A) (hN : X.N.Nodup) (hg : PGq X k iter tg) (ok : BlkOk X.N X.env.scope scope own)
    (hi : X.N[i]? = some x) (hix : i ∈ own.map (·.2)) (hk : scope.names.lookup x = some .local) (hnc : ∀ y ∈ scope.names, y.2 ≠ .cell)
    (he : ∀ (s : Shared) (H : Hp) (C : Addr) (cl : List (Str × Addr)) (fp : List Addr), Ex1 (X.blk s H scope (compEnvC scope cl C X.env) fp) elt te) (hs : ∀ x, foldedSetIterable iter X.env x = pure x := by intro _; rfl) :
    PS X (.Assign [.Name y py] (.ListComp elt [⟨.Name x px, iter, [], 0⟩] scope pos) spos) (tAsg (tGc tg te i (own.map (·.2))) (gName j)) := by
  refine ⟨fun pins s σ H D I h => ?_⟩
  rw [exec_Assign_Name_used _ _ _ _ hsw]
  refine wpAny_bind (wpAny_standAt (wpAny_bind ?_))
  show wpAny _ X.A (do let _ ← comprehension (.ListComp elt [⟨.Name x px, iter, [], 0⟩] scope pos) scope X.env (firstIterPos [⟨.Name x px, iter, [], 0⟩] pos) (newList []) false (eval iter X.env) (some (assign (.Name y py) X.env))) _ _ s
  have h : tGc tg te i (own.map (·.2)) σ H (fun x H1 => gName j x σ H1 D.nx) := h
  refine wpAny_bind (thn (gc_core (Qf := fun _ s' => SP X pins D .next s') I hr hN hg ok hi hix hk hnc he hs h fun L C s' m H' I' q hn f => ?_) fun _ s' hq => wpAny_pure (wpAny_pure hq))
  show wpAny _ _ (assign (.Name y py) X.env (.ref L)) _ _ _
  obtain ⟨f0, f1, f2, f3, f4, f5⟩ := f
  refine wpAny_assign_Name (store_ok2 (v := V.ref L) I' hN hy (.inl hyl) rfl (fun s2 I2 ⟨a, sb, ha⟩ => ?_) (.inr hyl))
  have haC : C ≠ a := by
    rcases ha with z | z
    · rw [z]; exact f1
    · exact fun e => f4 y a z e.symm
  exact ⟨m, hn.sameBut sb haC, fun h3 sb3 => ⟨_, H', I2.turned (t' := s2.toks) (fun b o hb e => (sb3.2 b hb).trans e) f0 f1 f3 f4 f5, q⟩⟩
end
end Gq

set_option Elab.async false
set_option linter.all false
set_option maxRecDepth 100000
set_option maxHeartbeats 2000000
set_option autoImplicit false
namespace Gq
open PySem PySem.Spec PyProof.Rows GenW L2
section
variable {X : Cx}
/-- x in a tuple of flat items, the state left as it is -/
theorem ex_inT {K : PySem.W.Frag} {a b : Expr} {pos : Pos} {ta tb : L2.St → Hp → V → Prop} (hK : X.K = K) (ha : Ex1 X a ta) (hb : Ex1 X b tb) (hm : behindInMarks .In b = false) :
    Ex1 X (.Compare a [.In] [b] pos) (fun σ H y => ∃ x p xs, ta σ H x ∧ tb σ H (.ref p) ∧ SqT K H p xs ∧ flatV x = true ∧ xs.all flatV = true ∧ y = .bl (inV x xs)) := by
  subst hK
  refine ⟨fun pins σ H s y I h => ?_⟩
  obtain ⟨x, p, xs, h1, h2, h3, fx, fs, rfl⟩ := h
  obtain ⟨u1, r1, q1⟩ := ha.run pins σ H s _ I h1
  obtain ⟨u2, r2, q2⟩ := hb.run pins σ H s _ I h2
  cases r2
  obtain ⟨its, r, pl, hz⟩ := I.tuple h3
  refine ⟨.bool (inV x xs), rfl, fun Q E q => wpAny_Compare1 (q1 _ _ (q2 _ _ ?_)) hm⟩
  refine SeqAt.in_tupleAt (eqU x) pl (fun w hw => mem_eqAt r1 fx r fs w (by simpa using hw)) ?_
  rw [show its.toArray.any (eqU x) = its.any (eqU x) by simp, any_eqU r fs]
  exact q
end
end Gq

set_option autoImplicit false
set_option Elab.async false
set_option linter.all false
set_option maxRecDepth 100000
set_option maxHeartbeats 2000000
namespace Gr
open PySem PySem.Spec PyProof.Rows GenW L2
open Gq (Stand Ge Tq SpQ Young TGq tCq born_inv Ex1 named)
/-- a test told with the state left as it is (but for the tokens) -/
structure Et1 (X : Cx) (e : Expr) (tt : L2.St → Hp → Bool → Prop) : Prop where
  run : ∀ (whole : Sem Value) (pins : List (Addr × Obj)) (σ : L2.St) (H : Hp) (s : Shared) (b : Bool), whole = eval e X.env → Inv X pins σ H s → tt σ H b → ∀ (Q : Bool → Shared → Prop) (E : Value → Shared → Prop), (∀ t, Q b { s with toks := t }) → wpAny (model X.prog X.w) X.A (isTrue e X.env whole) Q E s
structure Ew1 (X : Cx) (e : Expr) (tt : L2.St → Hp → Bool → Prop) : Prop where
  run : ∀ (whole : Sem Value) (pins : List (Addr × Obj)) (σ : L2.St) (H : Hp) (s : Shared) (b : Bool), Inv X pins σ H s → tt σ H b → ∀ (Q : Bool → Shared → Prop) (E : Value → Shared → Prop), (∀ t, Q b { s with toks := t }) → wpAny (model X.prog X.w) X.A (isTrue e X.env whole) Q E s
section
variable {X : Cx}
/-- an item of a tuple of ours: a tuple or a bool, by its truth -/
theorem et_tup {K : PySem.W.Frag} {a : Expr} {ta : L2.St → Hp → V → Prop} (hK : X.K = K) (ha : Ex1 X a ta) (he : ∀ whole, isTrue a X.env whole = (do let v ← whole; standAt a.pos; holding [v] (truthy v))) :
    Et1 X a (fun σ H b => ∃ x, ta σ H x ∧ ((∃ p xs, x = .ref p ∧ SqT K H p xs ∧ b = !xs.isEmpty) ∨ x = .bl b)) := by
  subst hK
  refine ⟨fun whole pins σ H s b hw I h Q E hq => ?_⟩
  subst hw
  obtain ⟨x, h1, h2⟩ := h
  obtain ⟨u, r, q⟩ := ha.run pins σ H s x I h1
  refine isTrue_plain (q _ _ ?_) (he _)
  rcases h2 with ⟨p, xs, rfl, hx, rfl⟩ | rfl
  · cases r
    obtain ⟨its, r, pl, hz⟩ := I.tuple hx
    have hlen := r.length
    have hl := line63
    exact truthy_tuple pl (by simp only [List.size_toArray]; omega) (by rw [isEmpty_of r]; exact hq _)
  · cases r
    exact wpAny_truthy_bool (hq s.toks)
theorem Et1.w {e : Expr} {tt : L2.St → Hp → Bool → Prop} (h : Et1 X e tt) (pins : List (Addr × Obj)) (σ : L2.St) (H : Hp) (s : Shared) (b : Bool) (I : Inv X pins σ H s) (ht : tt σ H b) (Q : Bool → Shared → Prop) (E : Value → Shared → Prop) (q : ∀ t, Q b { s with toks := t }) : wpAny (model X.prog X.w) X.A (isTrue e X.env (eval e X.env)) Q E s :=
  h.run _ pins σ H s b rfl I ht Q E q
theorem ew_or1 {a : Expr} {pos : Pos} {ta : L2.St → Hp → Bool → Prop} (ha : Et1 X a ta) : Ew1 X (.BoolOp .Or [a] pos) ta := by
  refine ⟨fun whole pins σ H s b I h Q E hq => ?_⟩
  refine isTrue_or (whole := whole) (ha.w pins σ H s b I h _ E fun t => ?_)
  cases b with
  | false => exact isTrue_or_nil (hq t)
  | true => exact hq t
theorem ew_or {a b : Expr} {rest : List Expr} {pos : Pos} {ta tb : L2.St → Hp → Bool → Prop} (ha : Et1 X a ta) (hb : Ew1 X (.BoolOp .Or (b :: rest) pos) tb) :
    Ew1 X (.BoolOp .Or (a :: b :: rest) pos) (fun σ H c => ∃ c1, ta σ H c1 ∧ (if c1 = true then c = true else tb σ H c)) := by
  refine ⟨fun whole pins σ H s c I h Q E hq => ?_⟩
  obtain ⟨c1, h1, h2⟩ := h
  refine isTrue_or (whole := whole) (ha.w pins σ H s c1 I h1 _ E fun t => ?_)
  cases c1 with
  | true =>
    rw [if_pos rfl] at h2
    subst h2
    exact hq t
  | false =>
    rw [if_neg (by decide)] at h2
    exact hb.run whole pins σ H _ c (I.tok t) h2 Q E fun t' => hq t'
theorem Ew1.t {e : Expr} {tt : L2.St → Hp → Bool → Prop} (h : Ew1 X e tt) : Et1 X e tt := ⟨fun whole pins σ H s b _ I ht Q E q => h.run whole pins σ H s b I ht Q E q⟩
/-! ### across a turn -/
/-- where the consumer stands, seen from the call (sc) -/
def Cur (st : List Env) (F : Addr) (H1 Hg : Hp) (sc : Heap) (t : Heap) (s : Heap) : Prop := ∃ h, Dc sc F h t ∧ Un (frs st) [] H1 Hg h s
theorem turn_for {pins : List (Addr × Obj)} {σ0 σ : L2.St} {H1 Hg Hg' : Hp} {sc s5 s6 t : Shared} {ch : List Addr} (hF : X.env.locals ∈ frs X.stack) (Isc : Inv X pins σ0 H1 sc) (I5 : Inv X pins σ Hg s5)
    (sn : Seen X.prog X.w X.stack H1 sc X.env.locals ch t Hg' s6) (ht : t.heap = s5.heap) (U5 : Cur X.stack X.env.locals H1 Hg sc.heap s5.heap s5.heap) : Inv X pins σ Hg' s6 := by
  obtain ⟨h5, dc5, u5⟩ := U5
  obtain ⟨h6, dc6, u6⟩ := sn.un
  rw [ht] at dc6
  obtain ⟨mF, hmF, hlF⟩ := I5.loc
  obtain ⟨oF, es, ep, eF, dF, rF⟩ := id hmF
  have HF1 : H1 X.env.locals = none := Isc.free
  have e6F : h6.get? X.env.locals = some oF := dc6.at_.trans eF
  obtain ⟨slF, e6⟩ := u6.slot _ oF e6F HF1 hF (by simp)
  have ne0 : ∀ {b : Addr} {o : Obj}, X.s_0.heap.get? b = some o → b ≠ X.env.locals := fun {b o} e => Nat.ne_of_lt (Nat.lt_of_lt_of_le (Heap.lt_size e) Isc.ok.above)
  have old6 : ∀ {b : Addr} {o : Obj}, b ≠ X.env.locals → sc.heap.get? b = some o → h6.get? b = some o := fun n e => (dc6.ot _ n).trans e
  have old5 : ∀ {b : Addr} {o : Obj}, b ≠ X.env.locals → sc.heap.get? b = some o → h5.get? b = some o := fun n e => (dc5.ot _ n).trans e
  have cellc : ∀ {x : Str} {c : Addr} {v : Option Value}, X.env.cells.lookup x = some c → s5.heap.IsCell c v → s6.heap.IsCell c v := fun {x c v} e q => by
    obtain ⟨v0, ob, ho, hd⟩ := Isc.cell x c e
    have n := Isc.cne x c e
    obtain ⟨sl5, e5⟩ := u5.any (old5 n ho) (Isc.freeC x c e) (by simp)
    obtain ⟨sl6, e6⟩ := u6.any (old6 n ho) (Isc.freeC x c e) (by simp)
    obtain ⟨ob5, ho5, hd5⟩ := q
    rw [e5] at ho5
    cases ho5
    exact ⟨_, e6, hd5⟩
  refine ⟨I5.ok, sn.os.trans Isc.os, sn.bare, ⟨fun b o e n hb hx => ?_, fun b o e n hb hx => ?_, fun b o e n hx => ?_, fun b o e hx => ?_, fun b xs e => u6.tups b xs (Isc.base.tups b xs e), fun b o u e => u6.frzs b o u (Isc.base.frzs b o u e), fun b ps e => ?_⟩, ⟨mF, ⟨_, es, ep, e6, dF, rF⟩, fun i x v e1 e2 e3 => ?_⟩, fun x c e => ?_, ?_, fun x c e => ?_, fun p hp => ?_, sn.ok, I5.len⟩
  · have q := Isc.base.keep b o e n hb hx
    exact u6.keep b o (old6 (ne0 e) q) (Isc.base.free b o e n hx) (fun z => (List.mem_cons.mp (Isc.stkSub b z)).elim (ne0 e) hb) (by simp)
  · obtain ⟨sl, q⟩ := Isc.base.slot b o e n hb hx
    obtain ⟨sl', q'⟩ := u6.any (old6 (ne0 e) q) (Isc.base.free b o e n hx) (by simp)
    exact ⟨sl', q'⟩
  · obtain ⟨o', q⟩ := Isc.base.there b o e hx
    exact u6.free b o' (old6 (ne0 e) q) (Isc.base.free b o e n hx) (by simp)
  · obtain ⟨o', q⟩ := Isc.base.there b o e hx
    exact u6.there b o' (old6 (ne0 e) q) (by simp)
  · obtain ⟨m1, e1⟩ := Isc.base.tbls b ps e
    obtain ⟨m2, e2⟩ := u6.tbls b _ e1
    exact ⟨m1 ++ m2, by rw [e2, Array.append_assoc]⟩
  · obtain ⟨u, r, l⟩ := hlF i x v e1 e2 e3
    refine ⟨u, r, ?_⟩
    rcases l with l | ⟨l1, c, l2, l3⟩
    · exact .inl l
    · exact .inr ⟨l1, c, l2, cellc l2 l3⟩
  · obtain ⟨v, z⟩ := I5.cell x c e
    exact ⟨v, cellc e z⟩
  · exact u6.free _ oF e6F HF1 (by simp)
  · obtain ⟨v0, ob, ho, hd⟩ := Isc.cell x c e
    exact u6.free c ob (old6 (Isc.cne x c e) ho) (Isc.freeC x c e) (by simp)
  · obtain ⟨q1, q2, q3, q4, q5⟩ := Isc.pin p hp
    exact ⟨u6.keep _ _ (old6 q3 q1) q2 (fun z => (List.mem_cons.mp (Isc.stkSub _ z)).elim q3 q4) (by simp), u6.free _ _ (old6 q3 q1) q2 (by simp), q3, q4, q5⟩
/-- the consumer has stored into its frame -/
theorem Cur.next {st : List Env} {F : Addr} {H1 Hg : Hp} {sc t s s' : Heap} {ch : List Addr} (c : Cur st F H1 Hg sc t s) (hF : F ∈ frs st) (eF0 : ∃ o, t.get? F = some o) (HF : H1 F = none) (hch : ∀ b ∈ ch, sc.get? b = none) (hcF : F ∉ ch) (k : ∀ b o, b ∉ ch → b ≠ F → s.get? b = some o → s'.get? b = some o) (eF : ∃ o, s'.get? F = some o) : Cur st F H1 Hg sc s' s' := by
  obtain ⟨h, dc, u⟩ := c
  obtain ⟨oF, eF⟩ := eF
  obtain ⟨o0, e0⟩ := eF0
  have eh : h.get? F = some o0 := dc.at_.trans e0
  generalize hh' : h.update F (fun _ => oF) = h'
  have zz : h'.objs.size = h.objs.size := by
    rw [← hh']
    unfold Heap.update
    first | simp | (split <;> simp) | rfl
  have hFn : h'.get? F = some oF := by
    rw [← hh']
    exact Heap.get?_update_self _ eh (Heap.get?_some_iff.mp eF).2
  have hO : ∀ b, b ≠ F → h'.get? b = h.get? b := fun b n => by
    rw [← hh']; exact Heap.get?_update_other _ _ (Ne.symm n)
  have nch : ∀ {b : Addr} {o : Obj}, b ≠ F → h'.get? b = some o → b ∉ ch := fun {b o} n e hb => by
    rw [hO b n, dc.ot b n, hch b hb] at e; cases e
  refine ⟨h', ⟨zz.trans dc.sz, fun b n => (hO b n).trans (dc.ot b n), hFn.trans eF.symm⟩, ⟨fun b o e n hb hx => ?_, fun b o e n hb hx => ?_, fun b o e n hx => ?_, fun b o e hx => ?_, u.tups, u.frzs, u.tbls⟩⟩
  · have nF : b ≠ F := fun z => hb (by rw [z]; exact hF)
    exact k b o (nch nF e) nF (u.keep b o ((hO b nF).symm.trans e) n hb hx)
  · by_cases z : b = F
    · subst z
      rw [hFn] at e
      cases e
      exact ⟨oF.slots, eF⟩
    · obtain ⟨sl, q⟩ := u.slot b o ((hO b z).symm.trans e) n hb hx
      exact ⟨sl, k b _ (nch z e) z q⟩
  · by_cases z : b = F
    · subst z; exact u.free b o0 eh HF (by simp)
    · exact u.free b o ((hO b z).symm.trans e) n hx
  · by_cases z : b = F
    · exact ⟨oF, by rw [z]; exact eF⟩
    · obtain ⟨o', q⟩ := u.there b o ((hO b z).symm.trans e) hx
      exact ⟨o', k b _ (nch z e) z q⟩
end
end Gr

set_option autoImplicit false
set_option Elab.async false
set_option linter.all false
set_option maxRecDepth 100000
set_option maxHeartbeats 2000000
namespace Gr
open PySem PySem.Spec PyProof.Rows GenW L2
open Gq (Stand Ge Tq SpQ Young TGq tCq born_inv Ex1 named)
abbrev R0 (P : Program) (w : World) (st : List Env) (H1 : Hp) (sc : Shared) (F : Addr) (ch : List Addr) (N : Nat) (Q : List V → Hp → Prop) : GenEnd := fun n t r s =>
  ((r = .ok (.ret .none) ∨ r = .ok .next) ∧ ∃ ys H', n + ys.length = N ∧ Seen P w st H1 sc F ch t H' s ∧ Q ys H') ∨ ∃ e, r = .error e ∧ (fun (_ : Value) (_ : Shared) => False) e s
section
variable {X : Cx} {k : Nat}
/-- before a turn: n items may come yet -/
structure Ft (X : Cx) (pins : List (Addr × Obj)) (i : Nat) (σ : L2.St) (H1 : Hp) (sc : Shared) (N : Nat) (Yl : List V → V → Hp → Prop) (Q : List V → Hp → Prop) (a : Addr) (g : Nat) (W : Nat → Prop) (n : Nat) (v : Option V) (Hg : Hp) (gs : GenState) (s : Shared) : Prop where
  le : n ≤ N
  inv : Inv X pins (σ.set i v) Hg s
  isg : s.heap.IsGen a g
  at_ : s.gens[g]? = some gs
  go : gs.Goes (model X.prog X.w) X.A.in1 (R0 X.prog X.w X.stack H1 sc X.env.locals [] N Q) (Item X.prog X.w X.stack H1 sc X.env.locals [] N Yl a g) n (.send .none) (s.setGen g .running)
  cur : Cur X.stack X.env.locals H1 Hg sc.heap s.heap s.heap
  w : W (N - n)
/-- for x in g(..): if test: B -/
def tForG (tg : TGq) (i : Nat) (tt : L2.St → Hp → Bool → Prop) (tb : TS) : TS := fun D σ H => ∃ (N : Nat) (Yl : List V → V → Hp → Prop) (Qe : List V → Hp → Prop) (K : Hp → Prop), tg σ H N Yl Qe K ∧ ∀ H1, K H1 → ∃ W : Nat → Prop, W 0 ∧
  (∀ ys x Hg, ys.length < N → Yl ys x Hg → W ys.length → ∃ b, tt (σ.set i (some x)) Hg b ∧ if b = true then tb { D with nx := fun _ _ => False, ct := fun _ _ => False, bk := D.nx } (σ.set i (some x)) Hg else W (ys.length + 1)) ∧
  ∀ ys Hg v, ys.length ≤ N → Qe ys Hg → W ys.length → D.nx (σ.set i v) Hg
theorem set_set {σ : L2.St} {i : Nat} {a b : Option V} : (σ.set i a).set i b = σ.set i b := by simp
theorem ps_forG {x : Str} {i : Nat} {px pos ipos : Pos} {iter test : Expr} {B : List Stmt} {tg : TGq} {tt : L2.St → Hp → Bool → Prop} {tb : TS} (hp : PassesOwn (model X.prog X.w) X.A X.env X.xe) (hr : Room (k + 1) X.A) (hF : X.env.locals ∈ frs X.stack) (hN : X.N.Nodup) (hi : X.N[i]? = some x) (hk : X.env.scope.names.lookup x = some .local)
    (hg : PGq X k iter tg) (ht : Et1 X test tt) (hb : PSs X B tb) (hs : ∀ x, foldedSetIterable iter X.env x = pure x := by intro _; rfl) :
    PS X (.For (.Name x px) iter [.If test B [] ipos] [] pos) (tForG tg i tt tb) := by
  refine ⟨fun pins s σ H D I h => ?_⟩
  obtain ⟨N, Yl, Qe, K, htg, hcon⟩ := h
  refine wpAny_For (thn (hg.run pins s σ H N Yl Qe K I htg) fun u s1 hx => ?_) hs
  obtain ⟨H1, sc, hK, Isc, born, young⟩ := hx
  obtain ⟨a, g, c, rfl, ha1, ha2, hisg, hgs, hos, hba, hlim, hkp, wake⟩ := born
  obtain ⟨W, w0, hstep, hfin⟩ := hcon H1 hK
  refine wpAny_pyIter_gen hisg ?_
  have I1 : Inv X pins σ H1 s1 := born_inv Isc hos hba hkp
  have HF1 : H1 X.env.locals = none := Isc.free
  obtain ⟨mF, hmF, _⟩ := id Isc.loc
  obtain ⟨oF, _, _, eF, _⟩ := id hmF
  have iz : i < σ.length := by rw [Isc.len]; exact (List.getElem?_eq_some_iff.mp hi).1
  have aF : a ≠ X.env.locals := by
    have := Heap.lt_size eF
    exact fun z => absurd (Nat.lt_of_lt_of_le this (z ▸ ha1)) (Nat.lt_irrefl _)
  obtain ⟨v0, hv0⟩ : ∃ v, σ.set i v = σ := ⟨σ[i], by simp⟩
  have hd : X.A.depth < recursionLimit := by have := hr.dp; omega
  refine codeAny_forLoop_any (fun n s' => ∃ v Hg gs, Ft X pins i σ H1 sc N Yl Qe a g W n v Hg gs s') (fun n s5 hbt => ?_) N ⟨v0, H1, .fresh c, Nat.le_refl _, by rw [hv0]; exact I1, hisg, hgs, ⟨rfl, ?_⟩, ⟨sc.heap, ⟨rfl, fun _ _ => rfl, eF.trans (hkp _ _ eF).symm⟩, Un.kept hkp⟩, by rw [Nat.sub_self]; exact w0⟩
  · obtain ⟨v, Hg, gs, b⟩ := hbt
    have hgl : g + 1 ≤ s5.gens.size := (Array.getElem?_eq_some_iff.mp b.at_).1
    refine wpAny_gsz hgl (next_genG (Er := fun _ _ => False) hr.hd b.inv.nolimit hd b.isg b.at_ b.go (fun v1 s6 gs' hbare hv => ?_) (fun s6 hp6 h' hk' => ?_) fun e s6 he' => he'.elim)
    · intro hsz
      obtain ⟨ys, xv, Hg', hn, rx, sn, hg1, hy, hk'⟩ := hv
      have I6 := turn_for hF Isc b.inv sn rfl b.cur
      have hlt : ys.length < N := by omega
      have I6' : Inv X pins (σ.set i v) Hg' (s6.setGen g gs') := born_inv I6 rfl (allBare_setGen sn.bare hbare) fun _ _ e => e
      cases n with
      | zero =>
        obtain ⟨m6, hm6, _⟩ := I6.loc
        exact (hk' s6 ⟨rfl, sn.bare, fun _ _ _ _ e => e, fun b hb => by simp at hb, m6, hm6⟩).elim
      | succ m =>
        have hm : m + 1 + ys.length = N := by simpa using hn
        have ew : N - (m + 1) = ys.length := by omega
        have wn : W ys.length := by have := b.w; rw [ew] at this; exact this
        obtain ⟨bb, htt, hbb⟩ := hstep ys xv Hg' hlt hy wn
        obtain ⟨o, nm, qn, ho, oc, od, osl⟩ := hg1
        refine go_of (s := s6.setGen g gs') ho oc od (by decide) ?_
        obtain ⟨m6, hm6, hl6⟩ := id I6'.loc
        have hcls : (X.env.scope.kind == .class || (X.env.scope.kind == .module && X.env.locals != X.env.globals)) = false := by rw [I6'.ok.kind]; rfl
        refine wpAny_assign_Name (wpAny_storeName_local hk hm6 (fun h' hn' sb => ?_) hcls)
        have I7 := named (tk := s6.toks + 1) I6' hN hi hk rx hm6 hl6 hn' sb
        rw [set_set] at I7
        refine wpAny_execs_cons (wpAny_If (ht.w pins _ Hg' _ bb I7 htt _ _ fun t => ?_))
        have I8 := I7.tok t
        by_cases cb : bb = true
        · subst cb
          rw [if_pos rfl] at hbb ⊢
          refine wpAny_passesOwn hp (thn (hb.run pins _ _ _ _ I8 hbb) fun f s9 q => ?_)
          cases f with
          | next => obtain ⟨_, _, _, z⟩ := q; exact z.elim
          | cont => obtain ⟨_, _, _, z⟩ := q; exact z.elim
          | brk => exact q
          | ret u => exact q
        · rw [if_neg cb] at hbb ⊢
          refine wpAny_execs_nil (wpAny_execs_nil ?_)
          have hsz1 : g < s6.gens.size := by
            have q : (s6.setGen g gs').gens.size = s6.gens.size := setGen_size _ _ _
            have hsz' : g + 1 ≤ (s6.setGen g gs').gens.size := hsz
            omega
          have kp1 : ∀ b o, b ≠ X.env.locals → s6.heap.get? b = some o → h'.get? b = some o := fun b o n e => (sb.2 b n).trans e
          refine ⟨m, Nat.lt_succ_self _, some xv, Hg', gs', by omega, I8, ⟨o, nm, qn, kp1 a o aF ho, oc, od, osl⟩, setGen_at hsz1, ?_, ?_, ?_⟩
          · exact hk' _ ⟨rfl, allBare_setGen (allBare_setGen sn.bare hbare) rfl, fun b o _ n e => kp1 b o n e, fun b hb => by simp at hb, _, hn'⟩
          · obtain ⟨oF', _, _, eF', _⟩ := hn'
            obtain ⟨oF5, _, _, eF5, _⟩ := b.inv.loc.choose_spec.1
            exact Cur.next (ch := []) (t := s5.heap) sn.un hF ⟨oF5, eF5⟩ HF1 (fun b hb => by simp at hb) (by simp) (fun b o _ n e => kp1 b o n e) ⟨oF', eF'⟩
          · have : N - m = ys.length + 1 := by omega
            rw [this]; exact hbb
    · intro hsz
      obtain ⟨ys, Hg', hn, sn, hQ⟩ := hp6
      have I6 := turn_for hF Isc b.inv sn rfl b.cur
      have ew : N - n = ys.length := by omega
      have wn : W ys.length := by have := b.w; rw [ew] at this; exact this
      exact wpAny_execs_nil ⟨_, _, born_inv I6 rfl (allBare_setGen sn.bare rfl) hk', hfin ys Hg' v (by omega) hQ wn⟩
  · refine seg_imp (fun n t r s' z => .inl z) (fun n t v s' kap kap' hkk hY => ?_) N (wake X.A.in1 X.env.locals [] (s1.setGen g .running) hr.in1 I.env0.1 hF (fun b hb => by simp at hb) (fun _ _ e => e) (fun b hb => by simp at hb) hos (allBare_setGen hba rfl))
    obtain ⟨ys, xv, H', q1, q2, q3, q4, q5, q6⟩ := hY
    exact ⟨ys, xv, H', q1, q2, q3, q4, q5, fun s'' z => hkk _ _ (q6 s'' z)⟩
end
end Gr

set_option autoImplicit false
set_option Elab.async false
set_option linter.all false
set_option maxRecDepth 100000
set_option maxHeartbeats 2000000
namespace Gr
open PySem PySem.Spec PyProof.Rows GenW L2
open AutoSeq1 (wpAny_loadPart')
open Gq (Stand Ge Tq SpQ Young TGq tCq born_inv Ex1 named)
theorem meets_enumerate_newG (a : Addr) (g : Nat) :
    Meets (Builtin.«enumerate.__new__» ⟨[.type "enumerate", .ref a], []⟩) (fun _ R s => s.heap.IsGen a g ∧
      R (.ok (.ret (.ref s.heap.objs.size)))
        { s with heap := s.heap.push { cls := .type "enumerate", data := .fields #[.none, .bool false, .ref a, rawInt 0, .none, .none] } }) :=
  .of_wp fun prog w A R s h => by
    obtain ⟨hp, g', d, tk, os⟩ := s; obtain ⟨hl, h⟩ := h
    have hsub := sub_enumerate
    wp_walk
    refine wpAny_stack_any fun st => wpAny_pure ?_
    split
    · rename_i c _ _ _ _ _
      cases (c == Value.type "enumerate")
      · wp_walk using wpAny_pyIter_gen hl
        exact ⟨_, rfl, h⟩
      · wp_walk using wpAny_pyIter_gen hl
        exact ⟨_, rfl, h⟩
    · wp_walk using wpAny_pyIter_gen hl
      exact ⟨_, rfl, h⟩
section
variable {prog : Program} {w : World} {A : Around} {E : Value → Shared → Prop} {s : Shared}
theorem call_enumerate_gen {a : Addr} {g : Nat} {Q : Value → Shared → Prop} (hL : s.heap.IsGen a g)
    (h : ∀ h', IsEnum h' s.heap.objs.size a 0 .none → h'.objs.size = s.heap.objs.size + 1 →
      (∀ b o, s.heap.get? b = some o → h'.get? b = some o) → Q (.ref s.heap.objs.size) { s with heap := h' }) :
    wpAny (model prog w) A (call (.type "enumerate") [.ref a]) Q E s := by
  refine callType_new F.called_enumerate (by decide) (F.typeCall_enumerate_1 _) (F.newCall_enumerate_1 _) (fun obj => F.args_object_init_2 obj _) F.entry_enumerate_new
    (meets_enumerate_newG a g) ⟨hL, ?_⟩
  show _ ∧ _
  have he : IsEnum (s.heap.push { cls := .type "enumerate", data := .fields #[.none, .bool false, .ref a, rawInt 0, .none, .none] }) s.heap.objs.size a 0 .none := Heap.get?_push_size _ rfl
  exact ⟨⟨_, he, rfl⟩, h _ he (by rw [Heap.size_push]) fun b o x => Heap.get?_push_of_some _ x⟩
theorem enumerate_next_any {e it : Addr} {i : Nat} {old : Value} {Q : Value → Shared → Prop}
    (he : IsEnum s.heap e it i old)
    (hn : wpAny (model prog w) A (Builtin.SmallTypes.nextOf (.ref it)) (fun x s1 => IsEnum s1.heap e it i old ∧ ∀ h', IsEnumOut h' e it ((i : Int) + 1) x s1.heap.objs.size →
      h'.get? s1.heap.objs.size = some { cls := .type "tuple", data := .seq #[.int i s1.toks, x] } → h'.objs.size = s1.heap.objs.size + 1 →
      (∀ b o, b ≠ e → s1.heap.get? b = some o → h'.get? b = some o) → Q (.ref s1.heap.objs.size) { s1 with heap := h', toks := s1.toks + 1 }) E s) :
    wpAny (model prog w) A (Builtin.«enumerate.__next__» ⟨[.ref e], []⟩) (fun fin s' => ∃ v, fin = .done (.ret v) ∧ Q v s') E s := by
  show wpAny _ _ (field (.ref e) 2 >>= _) _ _ _
  refine wpAny_bind (wpAny_field he rfl (x := .ref it) rfl ?_)
  refine wpAny_bind (wpAny_mono hn (fun x s1 hx => ?_) fun _ _ z => z)
  obtain ⟨he₁, hQ⟩ := hx
  obtain ⟨hp, g, d, tk, os⟩ := s1
  replace he₁ : IsEnum hp e it i old := he₁
  show wpAny _ _ (field (.ref e) 3 >>= _) _ _ ⟨hp, g, d, tk, os⟩
  refine wpAny_bind (wpAny_field he₁ rfl (x := rawInt i) rfl ?_)
  show wpAny _ _ (field (.ref e) 4 >>= _) _ _ ⟨hp, g, d, tk, os⟩
  refine wpAny_bind (wpAny_field he₁ rfl (x := .none) rfl ?_)
  show wpAny _ _ (mkInt i >>= _) _ _ ⟨hp, g, d, tk, os⟩
  refine wpAny_bind (wpAny_mkInt ?_)
  show wpAny _ _ (setField (.ref e) 3 (rawInt ((i : Int) + 1)) >>= _) _ _ ⟨hp, g, d, tk + 1, os⟩
  refine wpAny_bind (wpAny_setField_rec he₁ (by simp) fun h₂ he₂ hs₂ => ?_)
  replace hs₂ : Heap.SameBut e hp h₂ := hs₂
  replace he₂ : IsEnum h₂ e it ((i : Int) + 1) old := he₂
  show wpAny _ _ (setField (.ref e) 4 .none >>= _) _ _ ⟨h₂, g, d, tk + 1, os⟩
  refine wpAny_bind (wpAny_setField_rec he₂ (by simp) fun h₃ he₃ hs₃ => ?_)
  replace hs₃ : Heap.SameBut e h₂ h₃ := hs₃
  replace he₃ : IsEnum h₃ e it ((i : Int) + 1) old := he₃
  show wpAny _ _ (newTuple [.int i tk, x] >>= _) _ _ ⟨h₃, g, d, tk + 1, os⟩
  refine wpAny_bind (wpAny_newTuple ?_)
  have he₄ : IsEnum (h₃.push { cls := .type "tuple", data := .seq #[.int i tk, x] }) e it ((i : Int) + 1) old := Heap.get?_push_of_some _ he₃
  generalize hh₄ : h₃.push { cls := .type "tuple", data := .seq #[.int i tk, x] } = h₄ at he₄
  have hsz : h₃.objs.size = hp.objs.size := by rw [hs₃.1, hs₂.1]
  have hel : e < hp.objs.size := Heap.lt_size he₁
  have ht₄ : h₄.get? hp.objs.size = some { cls := .type "tuple", data := .seq #[.int i tk, x] } := by rw [← hh₄, ← hsz]; exact Heap.get?_push_size _ rfl
  have hz₄ : h₄.objs.size = hp.objs.size + 1 := by rw [← hh₄, Heap.size_push, hsz]
  have hk₄ : ∀ b o, b ≠ e → hp.get? b = some o → h₄.get? b = some o := fun b o hbe hb => by
    rw [← hh₄]; exact Heap.get?_push_of_some _ (hs₃.extBut b o hbe (hs₂.extBut b o hbe hb))
  show wpAny _ _ (Builtin.SmallTypes.ownedTupleIsFree (.ref e) >>= _) _ _ ⟨h₄, g, d, tk + 1, os⟩
  rw [hsz]
  clear hh₄ he₃ hs₃ he₂ hs₂ hsz h₃ h₂
  refine wpAny_bind ?_
  · unfold Builtin.SmallTypes.ownedTupleIsFree
    refine wpAny_bind (wpAny_field he₄ rfl (x := .none) rfl (wpAny_pure ?_))
    simp only [if_true]
    refine wpAny_bind (wpAny_rule ?_)
    refine wpAny_bind (wpAny_field he₄ rfl (x := old) rfl ?_)
    refine wpAny_bind (wpAny_setField_rec he₄ (by simp) fun h₅ he₅ hs₅ => ?_)
    replace hs₅ : Heap.SameBut e h₄ h₅ := hs₅
    replace he₅ : IsEnum h₅ e it ((i : Int) + 1) x := he₅
    show wpAny _ _ (Builtin.SmallTypes.ownedTupleHandOut (.ref e) (.ref hp.objs.size) >>= _) _ _ ⟨h₅, g, d, tk + 1, os⟩
    refine wpAny_bind ?_
    · unfold Builtin.SmallTypes.ownedTupleHandOut
      refine wpAny_bind (wpAny_setField_rec he₅ (by simp) fun h₆ he₆ hs₆ => ?_)
      replace hs₆ : Heap.SameBut e h₅ h₆ := hs₆
      replace he₆ : IsEnumOut h₆ e it ((i : Int) + 1) x hp.objs.size := he₆
      refine wpAny_setField_rec he₆ (by simp) fun h₇ he₇ hs₇ => ?_
      replace hs₇ : Heap.SameBut e h₆ h₇ := hs₇
      replace he₇ : IsEnumOut h₇ e it ((i : Int) + 1) x hp.objs.size := he₇
      refine wpAny_bind (wpAny_letGo (wpAny_pure ⟨_, rfl, hQ h₇ he₇ ?_ ?_ ?_⟩))
      · exact hs₇.extBut _ _ (Nat.ne_of_gt hel) (hs₆.extBut _ _ (Nat.ne_of_gt hel) (hs₅.extBut _ _ (Nat.ne_of_gt hel) ht₄))
      · rw [hs₇.1, hs₆.1, hs₅.1, hz₄]
      · exact fun b o hbe hb => hs₇.extBut b o hbe (hs₆.extBut b o hbe (hs₅.extBut b o hbe (hk₄ b o hbe hb)))
/-- next, by the slot, raising at the end -/
theorem nextOf_genG {a : Addr} {g n : Nat} {gs : GenState} {F : Nat → Shared → Shared → Prop} {Y : Protocol} {Q : Value → Shared → Prop} (hh : A.handled = none)
    (hl : s.heap.NoLimit) (hroom : A.depth < recursionLimit) (hg : s.heap.IsGen a g) (hgs : s.gens[g]? = some gs)
    (hgo : gs.Goes (model prog w) A.in1 (fun n s₀ r s₁ => ((r = .ok (.ret .none) ∨ r = .ok .next) ∧ F n s₀ s₁) ∨ ∃ e, r = .error e ∧ (fun (_ : Value) (_ : Shared) => False) e s₁) Y n (.send .none) (s.setGen g .running))
    (hY : ∀ v s₁ gs', gs'.bare = true → Y (n - 1) (s.setGen g .running) v s₁ (fun r' s'' => match n with
        | 0 => False
        | m + 1 => gs'.Goes (model prog w) A.in1 (fun n s₀ r s₁ => ((r = .ok (.ret .none) ∨ r = .ok .next) ∧ F n s₀ s₁) ∨ ∃ e, r = .error e ∧ (fun (_ : Value) (_ : Shared) => False) e s₁) Y m r' s'') → Q v (s₁.setGen g gs'))
    (hE : ∀ s₁, F n (s.setGen g .running) s₁ → ∀ h' e, (∀ b o, s₁.heap.get? b = some o → h'.get? b = some o) → (∃ o, h'.get? e = some o ∧ o.cls = .type "StopIteration") → E (.ref e) { s₁.setGen g .finished with heap := h' }) :
    wpAny (model prog w) A (Builtin.SmallTypes.nextOf (.ref a)) Q E s := by
  unfold Builtin.SmallTypes.nextOf
  refine wpAny_bind (wpAny_callSpecial?_slot (name := Str.ofString "__next__") hg.typeIs slot_gen_next
    (wpAny_call_entry slot_gen_next hg.typeIs entry_gen_next ?_ (args_gen_next _)))
  show wpAny _ A.in1 (Builtin.Generator.genWake (.ref a) (.send .none)) _ _ s
  unfold Builtin.Generator.genWake
  refine wpAny_bind (wpAny_holding (wpAny_genNumber hg (wpAny_bind (wpAny_genState hgs ?_))))
  cases gs with
  | running => exact hgo.elim
  | finished => exact hgo.elim
  | _ =>
    refine wpAny_bind (wpAny_roomToWake hl hroom ?_)
    show wpAny _ A.in1 (.resume g (.send .none) [] _) _ _ s
    refine wpAny_resumeQ hgs hgo (fun x s₁ hx => ?_) (fun v s₁ gs' hb hv => ?_)
    · rcases hx with ⟨hr, hp⟩ | ⟨e, rfl, he⟩
      · have hres : End.result (.ret x) = .returned .none := by
          rcases hr with hr | hr <;> rw [hr] <;> rfl
        first | rw [hres] | simp only [hres]
        show wpAny _ A.in1 (newExc (.type "StopIteration") [] >>= _) _ _ _
        refine wpAny_bind ?_
        simp only [newExc, newTuple]
        refine wpAny_bind (wpAny_newObj_type ?_ (by size_fits))
        refine wpAny_bind (m := firstArgMember _ _) (wpAny_of_eq (a := Value.none) (by first | rfl | (simp only [firstArgMember]; rfl)) ?_)
        refine wpAny_newObj_type ?_ (by size_fits)
        simp only [raiseNew]
        refine wpAny_bind (wpAny_bind (wpAny_handled ?_))
        first | rw [show A.in1.handled = none from hh] | rw [hh]
        refine wpAny_throw ?_
        exact hE s₁ hp _ _ (fun b o hb => Heap.get?_push_of_some _ (Heap.get?_push_of_some _ hb)) ⟨_, Heap.get?_push_size _ rfl, rfl⟩
      · exact he.elim
    · exact wpAny_pure ⟨v, rfl, wpAny_pure (hY v s₁ gs' hb hv)⟩
end
end Gr

set_option autoImplicit false
set_option Elab.async false
set_option linter.all false
set_option maxRecDepth 100000
set_option maxHeartbeats 2000000
namespace Gr
open PySem PySem.Spec PyProof.Rows GenW L2
open Gq (Stand Ge Tq SpQ Young TGq tCq born_inv Ex1 named)
section
variable {X : Cx} {k : Nat}
/-- before a turn: n items may come yet -/
structure Fe (X : Cx) (pins : List (Addr × Obj)) (j i : Nat) (σ : L2.St) (H1 : Hp) (sc : Shared) (N : Nat) (Yl : List V → V → Hp → Prop) (Q : List V → Hp → Prop) (a e : Addr) (g : Nat) (W : Nat → Prop) (n : Nat) (v1 v2 : Option V) (Hg : Hp) (gs : GenState) (s : Shared) : Prop where
  le : n ≤ N
  inv : Inv X pins ((σ.set j v1).set i v2) Hg s
  isg : s.heap.IsGen a g
  ise : ∃ old, IsEnum s.heap e a (((N - n : Nat) : Nat) : Int) old
  at_ : s.gens[g]? = some gs
  go : gs.Goes (model X.prog X.w) X.A.in1.in1 (R0 X.prog X.w X.stack H1 sc X.env.locals [e] N Q) (Item X.prog X.w X.stack H1 sc X.env.locals [e] N Yl a g) n (.send .none) (s.setGen g .running)
  cur : Cur X.stack X.env.locals H1 Hg sc.heap s.heap s.heap
  w : W (N - n)
def tForE (tg : TGq) (j i : Nat) (tt : L2.St → Hp → Bool → Prop) (tb : TS) : TS := fun D σ H => ∃ (N : Nat) (Yl : List V → V → Hp → Prop) (Qe : List V → Hp → Prop) (K : Hp → Prop), tg σ H N Yl Qe K ∧ ∀ H1, K H1 → ∃ W : Nat → Prop, W 0 ∧
  (∀ ys x Hg, ys.length < N → Yl ys x Hg → W ys.length → ∃ b, tt ((σ.set j (some (.int (ys.length : Int)))).set i (some x)) Hg b ∧ if b = true then tb { D with nx := fun _ _ => False, ct := fun _ _ => False, bk := D.nx } ((σ.set j (some (.int (ys.length : Int)))).set i (some x)) Hg else W (ys.length + 1)) ∧
  ∀ ys Hg v1 v2, ys.length ≤ N → Qe ys Hg → W ys.length → D.nx ((σ.set j v1).set i v2) Hg
theorem set4 {σ : L2.St} {i j : Nat} {a b c d : Option V} (h : i ≠ j) : ((((σ.set j a).set i b).set j c).set i d) = (σ.set j c).set i d := by
  rw [List.set_comm _ _ h, List.set_set, List.set_set]
theorem ps_forGE {xj xi : Str} {j i : Nat} {pj px p tpos cpos ipos pos : Pos} {kk : Nat} {iter test : Expr} {B : List Stmt} {tg : TGq} {tt : L2.St → Hp → Bool → Prop} {tb : TS} (hp : PassesOwn (model X.prog X.w) X.A X.env X.xe) (hr : Room (k + 2) X.A) (hF : X.env.locals ∈ frs X.stack) (hN : X.N.Nodup) (hj : X.N[j]? = some xj) (hkj : X.env.scope.names.lookup xj = some .local) (hi : X.N[i]? = some xi) (hki : X.env.scope.names.lookup xi = some .local)
    (hij : i ≠ j) (hgE : Gl X "enumerate") (hmE : X.mg "enumerate" = none) (hg : PGq X k iter tg) (ht : Et1 X test tt) (hb : PSs X B tb) (he : starEach [iter] X.env = (false, eval iter X.env) :: starEach [] X.env := by rfl) :
    PS X (.For (.Tuple [.Name xj pj, .Name xi px] kk tpos) (.Call (.Name "enumerate" p) [iter] [] cpos) [.If test B [] ipos] [] pos) (tForE tg j i tt tb) := by
  refine ⟨fun pins s σ H D I h => ?_⟩
  obtain ⟨N, Yl, Qe, K, htg, hcon⟩ := h
  refine wpAny_For (wpAny_Call_Name_kw (ld_blt I hgE hmE boot_enumerate (PyProof.Rows.callWith_type1 ?_ he rfl))) (fun _ => rfl)
  rw [he]
  show wpAny _ _ (spliced ((false, eval iter X.env) :: backTo cpos (starEach [] X.env))) _ _ s
  refine Calls.spliced_cons (thn (hg.run pins s σ H N Yl Qe K I htg) fun u s1 hx => ?_)
  obtain ⟨H1, sc, hK, Isc, born, young⟩ := hx
  obtain ⟨a, g, c, rfl, ha1, ha2, hisg, hgs, hos, hba, hlim, hkp, wake⟩ := born
  obtain ⟨W, w0, hstep, hfin⟩ := hcon H1 hK
  refine Calls.spliced_nil ?_
  refine call_enumerate_gen hisg fun h2 he2 hz2 hk2 => ?_
  generalize hE : s1.heap.objs.size = e at he2 hz2 ⊢
  refine wpAny_pyIter_enum (s := { s1 with heap := h2 }) he2 ?_
  have I1 : Inv X pins σ H1 s1 := born_inv Isc hos hba hkp
  have I2 : Inv X pins σ H1 { s1 with heap := h2 } := born_inv I1 rfl hba hk2
  have HF1 : H1 X.env.locals = none := Isc.free
  obtain ⟨mF, hmF, _⟩ := id Isc.loc
  obtain ⟨oF, _, _, eF, _⟩ := id hmF
  have iz : i < σ.length := by rw [Isc.len]; exact (List.getElem?_eq_some_iff.mp hi).1
  have jz : j < σ.length := by rw [Isc.len]; exact (List.getElem?_eq_some_iff.mp hj).1
  have sce : sc.heap.objs.size ≤ e := by rw [← hE]; exact Nat.le_of_lt (Nat.lt_of_le_of_lt ha1 ha2)
  have yng : ∀ {b : Addr} {o : Obj}, sc.heap.get? b = some o → b ≠ e := fun {b o} q => Nat.ne_of_lt (Nat.lt_of_lt_of_le (Heap.lt_size q) sce)
  have aF : a ≠ X.env.locals := by
    have := Heap.lt_size eF
    exact fun z => absurd (Nat.lt_of_lt_of_le this (z ▸ ha1)) (Nat.lt_irrefl _)
  have eL : e ≠ X.env.locals := (yng eF).symm
  have ae : a ≠ e := by rw [← hE]; exact Nat.ne_of_lt ha2
  have e0 : X.s_0.heap.objs.size ≤ e := Nat.le_trans Isc.sz sce
  have ecl : ∀ x c, X.env.cells.lookup x = some c → c ≠ e := fun x c q => by
    obtain ⟨v, o, ho, _⟩ := Isc.cell x c q
    exact yng ho
  have epn : ∀ p ∈ X.pn ++ pins, p.1 ≠ e := fun p hp => yng (Isc.pin p hp).1
  have sce0 : sc.heap.get? e = none := by
    cases q : sc.heap.get? e with
    | none => rfl
    | some o => exact absurd rfl (yng q)
  obtain ⟨v0, hv0⟩ : ∃ v : Option V × Option V, (σ.set j v.1).set i v.2 = σ := ⟨(σ[j], σ[i]), by simp⟩
  have hne : (i = j → False) → True := fun _ => trivial
  have hd : X.A.in1.depth < recursionLimit := by have := hr.dp; show X.A.depth < _; omega
  have stE : ∀ {s' : Shared} {idx : Int} {old : Value}, IsEnum s'.heap e a idx old → Stand [e] s' := fun {s' idx old} q b hb => by
    have z : b = e := by simpa using hb
    subst z
    exact ⟨_, q, fun v h => by cases h⟩
  have hh1 : X.A.in1.handled = none := hr.hd
  refine codeAny_forLoop_any (fun n s' => ∃ v1 v2 Hg gs, Fe X pins j i σ H1 sc N Yl Qe a e g W n v1 v2 Hg gs s') (fun n s5 hbt => ?_) N ⟨v0.1, v0.2, H1, .fresh c, Nat.le_refl _, by rw [hv0]; exact I2, hisg.keeps hk2, ⟨.none, by rw [Nat.sub_self]; exact he2⟩, hgs, ⟨rfl, ?_⟩, ⟨sc.heap, ⟨rfl, fun _ _ => rfl, eF.trans (hk2 _ _ (hkp _ _ eF)).symm⟩, Un.kept fun b o q => hk2 b o (hkp b o q)⟩, by rw [Nat.sub_self]; exact w0⟩
  · obtain ⟨v1, v2, Hg, gs, b⟩ := hbt
    have hgl : g + 1 ≤ s5.gens.size := (Array.getElem?_eq_some_iff.mp b.at_).1
    obtain ⟨old, hie⟩ := b.ise
    have hT : s5.TypeIs (.ref e) "enumerate" := ⟨_, hie, rfl⟩
    unfold pyNext
    refine wpAny_bind (wpAny_attempt (wpAny_callSpecial?_slot (name := Str.ofString "__next__") hT F.slot_enumerate_next
      (wpAny_call_entry F.slot_enumerate_next hT F.entry_enumerate_next ?_ (F.args_enumerate_next_1 _))))
    refine enumerate_next_any hie (wpAny_gsz hgl (nextOf_genG hh1 b.inv.nolimit hd b.isg b.at_ b.go (fun v3 s6 gs' hbare hv => ?_) fun s6 hp6 h' ee hk' hst => ?_))
    · intro hsz
      obtain ⟨ys, xv, Hg', hn, rx, sn, hg1, hy, hk'⟩ := hv
      have I6 := turn_for hF Isc b.inv sn rfl b.cur
      have hlt : ys.length < N := by omega
      obtain ⟨gE, oE, tE, s6E⟩ := sn.mine e (by simp)
      have tE : s5.heap.get? e = some oE := tE
      rw [hie] at tE
      cases tE
      refine ⟨s6E, fun h7 he7 ht7 hz7 hk7 => ?_⟩
      have I6' : Inv X pins ((σ.set j v1).set i v2) Hg' (s6.setGen g gs') := born_inv I6 rfl (allBare_setGen sn.bare hbare) fun _ _ e => e
      have I7 : Inv X pins ((σ.set j v1).set i v2) Hg' { s6.setGen g gs' with heap := h7, toks := s6.toks + 1 } := I6'.turned (it := e) (fun b o hb q => hk7 b o hb q) gE eL (.inr e0) ecl epn
      cases n with
      | zero =>
        obtain ⟨m6, hm6, _⟩ := I6.loc
        exact (hk' s6 ⟨rfl, sn.bare, fun _ _ _ _ e => e, stE s6E, m6, hm6⟩).elim
      | succ m =>
        have hm : m + 1 + ys.length = N := by simpa using hn
        have ew : N - (m + 1) = ys.length := by omega
        have wn : W ys.length := by have := b.w; rw [ew] at this; exact this
        obtain ⟨bb, htt, hbb⟩ := hstep ys xv Hg' hlt hy wn
        obtain ⟨o, nm, qn, ho, oc, od, osl⟩ := hg1
        have hsz6 : e < s6.heap.objs.size := Heap.lt_size s6E
        refine wpAny_pure ?_
        show wpAny _ _ (letOwnedTupleGo _ (.ref e) (.ref _)) _ _ _
        refine wpAny_letOwnedTupleGo_enum (s := { s6.setGen g gs' with heap := h7, toks := s6.toks + 1 }) he7 fun h8 he8 sb8 => ?_
        have I8 : Inv X pins ((σ.set j v1).set i v2) Hg' { s6.setGen g gs' with heap := h8, toks := s6.toks + 1 } := Inv.turned (s := { s6.setGen g gs' with heap := h7, toks := s6.toks + 1 }) (t' := s6.toks + 1) (it := e) I7 (fun b o hb q => (sb8.2 b hb).trans q) gE eL (.inr e0) ecl epn
        have hT8 : h8.IsTuple s6.heap.objs.size #[.int ((N - (m + 1) : Nat) : Int) s6.toks, v3] := ⟨_, (sb8.2 _ (Nat.ne_of_gt hsz6)).trans ht7, rfl, _, rfl⟩
        refine wpAny_assign_Tuple (s := { s6.setGen g gs' with heap := h8, toks := s6.toks + 1 }) hr.hd hT8 rfl rfl fun h9 hx9 => ?_
        replace hx9 : Heap.ExtBut h8.objs.size h8 h9 := hx9
        have k9 : ∀ b o, h8.get? b = some o → h9.get? b = some o := fun b o q => hx9 b o (Nat.ne_of_lt (Heap.lt_size q)) q
        have I9 : Inv X pins ((σ.set j v1).set i v2) Hg' { s6.setGen g gs' with heap := h9, toks := s6.toks + 1 } := I8.kept (t' := s6.toks + 1) k9
        show wpAny _ X.A (do holding [v3] (assign (.Name xj pj) X.env (.int ((N - (m + 1) : Nat) : Int) s6.toks)); do holding [] (assign (.Name xi px) X.env v3); pure ()) _ _ _
        obtain ⟨m9, hm9, hl9⟩ := id I9.loc
        have hcls : (X.env.scope.kind == .class || (X.env.scope.kind == .module && X.env.locals != X.env.globals)) = false := by rw [I9.ok.kind]; rfl
        refine wpAny_bind (wpAny_holding (wpAny_assign_Name (wpAny_storeName_local hkj hm9 (fun h10 hn10 sb10 => ?_) hcls)))
        have I10 := named (tk := s6.toks + 1 + 1) (v := .int (ys.length : Int)) I9 hN hj hkj ⟨s6.toks, by rw [ew]⟩ hm9 hl9 hn10 sb10
        obtain ⟨m10, hm10, hl10⟩ := id I10.loc
        refine wpAny_bind (wpAny_holding (wpAny_assign_Name (wpAny_storeName_local hki hm10 (fun h11 hn11 sb11 => wpAny_pure ?_) hcls)))
        have I11 := named (tk := s6.toks + 1 + 1 + 1) I10 hN hi hki rx hm10 hl10 hn11 sb11
        rw [set4 hij] at I11
        refine wpAny_execs_cons (wpAny_If (ht.w pins _ Hg' _ bb I11 htt _ _ fun t => ?_))
        have I12 := I11.tok t
        by_cases cb : bb = true
        · subst cb
          rw [if_pos rfl] at hbb ⊢
          refine wpAny_passesOwn hp (thn (hb.run pins _ _ _ _ I12 hbb) fun f s13 q => ?_)
          cases f with
          | next => obtain ⟨_, _, _, z⟩ := q; exact z.elim
          | cont => obtain ⟨_, _, _, z⟩ := q; exact z.elim
          | brk => exact q
          | ret u => exact q
        · rw [if_neg cb] at hbb ⊢
          refine wpAny_execs_nil (wpAny_execs_nil ?_)
          have hsz1 : g < s6.gens.size := by
            have q : (s6.setGen g gs').gens.size = s6.gens.size := setGen_size _ _ _
            have hsz' : g + 1 ≤ (s6.setGen g gs').gens.size := hsz
            omega
          have kp1 : ∀ b o, b ≠ e → b ≠ X.env.locals → s6.heap.get? b = some o → h11.get? b = some o := fun b o ne n q =>
            (sb11.2 b n).trans ((sb10.2 b n).trans (k9 b o ((sb8.2 b ne).trans (hk7 b o ne q))))
          have he11 : IsEnum h11 e a (((N - m : Nat) : Nat) : Int) v3 := by
            have q : IsEnum h11 e a (((N - (m + 1) : Nat) : Int) + 1) v3 := (sb11.2 e eL).trans ((sb10.2 e eL).trans (k9 e _ he8))
            have z : (((N - (m + 1) : Nat) : Int) + 1) = ((N - m : Nat) : Int) := by omega
            rw [z] at q
            exact q
          refine ⟨m, Nat.lt_succ_self _, _, some xv, Hg', gs', by omega, I12, ⟨o, nm, qn, kp1 a o ae aF ho, oc, od, osl⟩, ⟨v3, he11⟩, setGen_at hsz1, ?_, ?_, ?_⟩
          · exact hk' _ ⟨rfl, allBare_setGen (allBare_setGen sn.bare hbare) rfl, fun b o nb n q => kp1 b o (fun z => nb (by simp [z])) n q, stE he11, _, hn11⟩
          · obtain ⟨oF', _, _, eF', _⟩ := hn11
            obtain ⟨oF5, _, _, eF5, _⟩ := b.inv.loc.choose_spec.1
            exact Cur.next (ch := [e]) (t := s5.heap) sn.un hF ⟨oF5, eF5⟩ HF1 (fun b hb => by rw [show b = e by simpa using hb]; exact sce0) (by simpa using fun z => eL z.symm) (fun b o nb n q => kp1 b o (fun z => nb (by simp [z])) n q) ⟨oF', eF'⟩
          · have : N - m = ys.length + 1 := by omega
            rw [this]; exact hbb
    · intro hsz
      obtain ⟨ys, Hg', hn, sn, hQ⟩ := hp6
      have I6 := turn_for hF Isc b.inv sn rfl b.cur
      have ew : N - n = ys.length := by omega
      have wn : W ys.length := by have := b.w; rw [ew] at this; exact this
      obtain ⟨oS, hoS, hcS⟩ := hst
      refine wpAny_bind (wpAny_isInstance (T := "StopIteration") (b := true) ⟨oS, hoS, hcS⟩ isSubtype_stop ?_)
      exact wpAny_pure (wpAny_execs_nil ⟨_, _, born_inv I6 rfl (allBare_setGen sn.bare rfl) hk', hfin ys Hg' v1 v2 (by omega) hQ wn⟩)
  · refine seg_imp (fun n t r s' z => .inl z) (fun n t v s' kap kap' hkk hY => ?_) N (wake X.A.in1.in1 X.env.locals [e] ({ s1 with heap := h2 }.setGen g .running) ⟨hr.hd, ?_, ?_⟩ I.env0.1 hF (fun b hb => by rw [show b = e by simpa using hb, ← hE]; exact Nat.le_refl _) hk2 (stE he2) hos (allBare_setGen hba rfl))
    · obtain ⟨ys, xv, H', q1, q2, q3, q4, q5, q6⟩ := hY
      exact ⟨ys, xv, H', q1, q2, q3, q4, q5, fun s'' z => hkk _ _ (q6 s'' z)⟩
    · have := hr.dp
      show X.A.depth + 3 * k + 5 < recursionLimit
      omega
    · have := hr.un
      show X.A.units + 1 + 1 + 16 * k + 200 < cLine
      omega
end
end Gr

set_option Elab.async false
set_option linter.all false
set_option maxRecDepth 100000
set_option maxHeartbeats 1000000
namespace Dk
open PySem PySem.Spec PyProof.Rows L2 TL
/-! ### comprehensions by turns: keep k, Res k -/
theorem pair_snoc {α β : Type} {R : α → β → Prop} : ∀ {xs : List α} {ys : List β} {x : α} {y : β}, Paired R xs ys → R x y → Paired R (xs ++ [x]) (ys ++ [y])
  | [], [], _, _, .nil, h => .cons h .nil
  | _ :: _, _ :: _, _, _, .cons a q, h => .cons a (pair_snoc q h)
theorem pair_imp {α β : Type} {R S : α → β → Prop} (k : ∀ a b, R a b → S a b) : ∀ {xs : List α} {ys : List β}, Paired R xs ys → Paired S xs ys
  | [], [], .nil => .nil
  | _ :: _, _ :: _, .cons a q => .cons (k _ _ a) (pair_imp k q)
theorem pair_len {α β : Type} {R : α → β → Prop} : ∀ {xs : List α} {ys : List β}, Paired R xs ys → xs.length = ys.length
  | [], [], .nil => rfl
  | _ :: _, _ :: _, .cons _ q => by rw [List.length_cons, List.length_cons, pair_len q]
theorem pair_map {α β : Type} {f : α → β} : ∀ {xs : List α} {ys : List β}, Paired (fun a b => b = f a) xs ys → ys = xs.map f
  | [], [], .nil => rfl
  | _ :: _, _ :: _, .cons a q => by rw [List.map_cons, pair_map q, a]
theorem filt_succ (keep : Nat → Bool) (i : Nat) : (List.range (i + 1)).filter keep = (List.range i).filter keep ++ (if keep i = true then [i] else []) := by
  rw [List.range_succ, List.filter_append]
  congr 1
  by_cases c : keep i = true
  · rw [if_pos c]; simp [c]
  · rw [if_neg c]; simp [c]
section
variable {K : PySem.W.Frag} {H1 : Hp} {D : Addr} {σ : L2.St} {i : Nat} {vs : List Nat} {tt : TT} {te : TE} {Qd : Hp → Prop} {keep : Nat → Bool} {Res : Hp → Nat → V → Prop}
theorem comp_range {lo : Int} {n : Nat} (hD : H1 D = none) (hz : n ≤ 1000000) (keep : Nat → Bool) (Res : Hp → Nat → V → Prop) (hm : ∀ H H' k v, Kp D H H' → Res H k v → Res H' k v)
    (ht : ∀ k H2 Qb, k < n → Same H1 H2 → H2 D ≠ none → (∀ H3, Same H2 H3 → Qb (keep k) H3) → tt ((wipe σ vs).set i (some (.int (lo + (k : Nat))))) H2 Qb)
    (he : ∀ k H2 Q, k < n → keep k = true → Same H1 H2 → H2 D ≠ none → (∀ H3 y, Same H2 H3 → Res H3 k y → Q y H3) → te ((wipe σ vs).set i (some (.int (lo + (k : Nat))))) H2 Q)
    (hw : ∀ x : V, wipe ((wipe σ vs).set i (some x)) vs = wipe σ vs)
    (hd : ∀ H2 ys, Same H1 H2 → H2 D = some (.lst ys) → Paired (fun k y => Res H2 k y) ((List.range n).filter keep) ys → Qd H2) :
    ∃ W : Nat → Nat → Hp → Prop, (∃ m, W 0 m (upd H1 D (.lst []))) ∧ ∀ i' m H, W i' m H →
      ((Itr lo n).stop i' H ∧ Qd H) ∨ ((Itr lo n).go i' H ∧ ∃ Nx : Hp → Prop, (∀ H', Nx H' → ∃ m', m' < m ∧ W (i' + 1) m' H') ∧ ∀ x H', (Itr lo n).yld i' H x H' → gName i x (wipe σ vs) H' fun σ2 H2 => wipe σ2 vs = wipe σ vs ∧ tt σ2 H2 fun b H3 =>
        if b = true then te σ2 H3 fun y H4 => ∃ acc, H4 D = some (.lst acc) ∧ acc.length < sizeLine ∧ Nx (upd H4 D (.lst (acc ++ [y]))) else Nx H3) := by
  refine lc_range (lo := lo) (n := n) (g := gName i) (tt := tt) (te := te) (vs := vs) (σ := σ) (Qd := Qd)
    (fun i H3 => Same H1 H3 ∧ ∃ ys, H3 D = some (.lst ys) ∧ Paired (fun k y => Res H3 k y) ((List.range i).filter keep) ys) ⟨same_upd hD, [], upd_same, .nil⟩ ?_ ?_
  · rintro j H3 hj ⟨s3, ys, eD, hp⟩
    have dn : H3 D ≠ none := by rw [eD]; intro z; cases z
    refine ⟨hw _, ht j H3 _ hj s3 dn fun H4 s4 => ?_⟩
    have nD : ∀ b o, H1 b = some o → b ≠ D := fun b o e z => by rw [z, hD] at e; cases e
    have eD4 := s4 _ _ eD
    by_cases c : keep j = true
    · rw [if_pos c]
      refine he j H4 _ hj c (s3.trans s4) (by rw [eD4]; intro z; cases z) fun H5 y s5 hy => ⟨ys, s5 _ _ eD4, ?_, fun b o e => ?_, ys ++ [y], upd_same, ?_⟩
      · rw [← pair_len hp]
        have := List.length_filter_le keep (List.range j)
        rw [List.length_range] at this
        exact Nat.lt_of_le_of_lt (by omega : _ ≤ 1000000) (by decide)
      · rw [upd_ne (nD _ _ e)]; exact (s3.trans (s4.trans s5)) _ _ e
      · have k6 : Kp D H5 (upd H5 D (.lst (ys ++ [y]))) := fun b o n e => by rw [upd_ne n]; exact e
        rw [filt_succ, if_pos c]
        exact pair_snoc (pair_imp (fun k v r => hm _ _ k v ((sKp (s4.trans s5)).trans k6) r) hp) (hm _ _ _ _ k6 hy)
    · rw [if_neg c]
      refine ⟨s3.trans s4, ys, eD4, ?_⟩
      rw [filt_succ, if_neg c, List.append_nil]
      exact pair_imp (fun k v r => hm _ _ k v (sKp s4) r) hp
  · rintro H3 ⟨s3, ys, eD, hp⟩
    exact hd H3 ys s3 eD hp
theorem comp_list {l : Addr} {xs : List V} (hD : H1 D = none) (hl : SqL K H1 l xs) (hz : xs.length ≤ 1000000) (keep : Nat → Bool) (Res : Hp → Nat → V → Prop) (hm : ∀ H H' k v, Kp D H H' → Res H k v → Res H' k v)
    (ht : ∀ k x H2 Qb, xs[k]? = some x → Same H1 H2 → H2 D ≠ none → (∀ H3, Same H2 H3 → Qb (keep k) H3) → tt ((wipe σ vs).set i (some x)) H2 Qb)
    (he : ∀ k x H2 Q, xs[k]? = some x → keep k = true → Same H1 H2 → H2 D ≠ none → (∀ H3 y, Same H2 H3 → Res H3 k y → Q y H3) → te ((wipe σ vs).set i (some x)) H2 Q)
    (hw : ∀ x : V, wipe ((wipe σ vs).set i (some x)) vs = wipe σ vs)
    (hd : ∀ H2 ys, Same H1 H2 → H2 D = some (.lst ys) → Paired (fun k y => Res H2 k y) ((List.range xs.length).filter keep) ys → Qd H2) :
    ∃ W : Nat → Nat → Hp → Prop, (∃ m, W 0 m (upd H1 D (.lst []))) ∧ ∀ i' m H, W i' m H →
      ((Itl K l).stop i' H ∧ Qd H) ∨ ((Itl K l).go i' H ∧ ∃ Nx : Hp → Prop, (∀ H', Nx H' → ∃ m', m' < m ∧ W (i' + 1) m' H') ∧ ∀ x H', (Itl K l).yld i' H x H' → gName i x (wipe σ vs) H' fun σ2 H2 => wipe σ2 vs = wipe σ vs ∧ tt σ2 H2 fun b H3 =>
        if b = true then te σ2 H3 fun y H4 => ∃ acc, H4 D = some (.lst acc) ∧ acc.length < sizeLine ∧ Nx (upd H4 D (.lst (acc ++ [y]))) else Nx H3) := by
  refine lc_list (K := K) (a := l) (xs := xs) (g := gName i) (tt := tt) (te := te) (vs := vs) (σ := σ) (Qd := Qd)
    (fun i H3 => Same H1 H3 ∧ ∃ ys, H3 D = some (.lst ys) ∧ Paired (fun k y => Res H3 k y) ((List.range i).filter keep) ys) ⟨same_upd hD, [], upd_same, .nil⟩ (fun i H3 _ ⟨e, _⟩ => e.seq hl) ?_ ?_
  · rintro j x H3 hj ⟨s3, ys, eD, hp⟩
    have hj' : j < xs.length := (List.getElem?_eq_some_iff.mp hj).1
    have dn : H3 D ≠ none := by rw [eD]; intro z; cases z
    refine ⟨hw _, ht j x H3 _ hj s3 dn fun H4 s4 => ?_⟩
    have nD : ∀ b o, H1 b = some o → b ≠ D := fun b o e z => by rw [z, hD] at e; cases e
    have eD4 := s4 _ _ eD
    by_cases c : keep j = true
    · rw [if_pos c]
      refine he j x H4 _ hj c (s3.trans s4) (by rw [eD4]; intro z; cases z) fun H5 y s5 hy => ⟨ys, s5 _ _ eD4, ?_, fun b o e => ?_, ys ++ [y], upd_same, ?_⟩
      · rw [← pair_len hp]
        have := List.length_filter_le keep (List.range j)
        rw [List.length_range] at this
        exact Nat.lt_of_le_of_lt (by omega : _ ≤ 1000000) (by decide)
      · rw [upd_ne (nD _ _ e)]; exact (s3.trans (s4.trans s5)) _ _ e
      · have k6 : Kp D H5 (upd H5 D (.lst (ys ++ [y]))) := fun b o n e => by rw [upd_ne n]; exact e
        rw [filt_succ, if_pos c]
        exact pair_snoc (pair_imp (fun k v r => hm _ _ k v ((sKp (s4.trans s5)).trans k6) r) hp) (hm _ _ _ _ k6 hy)
    · rw [if_neg c]
      refine ⟨s3.trans s4, ys, eD4, ?_⟩
      rw [filt_succ, if_neg c, List.append_nil]
      exact pair_imp (fun k v r => hm _ _ k v (sKp s4) r) hp
  · rintro H3 ⟨s3, ys, eD, hp⟩
    exact hd H3 ys s3 eD hp
theorem comp_tup {l : Addr} {xs : List V} (hD : H1 D = none) (hl : SqT K H1 l xs) (hz : xs.length ≤ 1000000) (keep : Nat → Bool) (Res : Hp → Nat → V → Prop) (hm : ∀ H H' k v, Kp D H H' → Res H k v → Res H' k v)
    (ht : ∀ k x H2 Qb, xs[k]? = some x → Same H1 H2 → H2 D ≠ none → (∀ H3, Same H2 H3 → Qb (keep k) H3) → tt ((wipe σ vs).set i (some x)) H2 Qb)
    (he : ∀ k x H2 Q, xs[k]? = some x → keep k = true → Same H1 H2 → H2 D ≠ none → (∀ H3 y, Same H2 H3 → Res H3 k y → Q y H3) → te ((wipe σ vs).set i (some x)) H2 Q)
    (hw : ∀ x : V, wipe ((wipe σ vs).set i (some x)) vs = wipe σ vs)
    (hd : ∀ H2 ys, Same H1 H2 → H2 D = some (.lst ys) → Paired (fun k y => Res H2 k y) ((List.range xs.length).filter keep) ys → Qd H2) :
    ∃ W : Nat → Nat → Hp → Prop, (∃ m, W 0 m (upd H1 D (.lst []))) ∧ ∀ i' m H, W i' m H →
      ((Itt K l).stop i' H ∧ Qd H) ∨ ((Itt K l).go i' H ∧ ∃ Nx : Hp → Prop, (∀ H', Nx H' → ∃ m', m' < m ∧ W (i' + 1) m' H') ∧ ∀ x H', (Itt K l).yld i' H x H' → gName i x (wipe σ vs) H' fun σ2 H2 => wipe σ2 vs = wipe σ vs ∧ tt σ2 H2 fun b H3 =>
        if b = true then te σ2 H3 fun y H4 => ∃ acc, H4 D = some (.lst acc) ∧ acc.length < sizeLine ∧ Nx (upd H4 D (.lst (acc ++ [y]))) else Nx H3) := by
  refine lc_tup (K := K) (a := l) (xs := xs) (g := gName i) (tt := tt) (te := te) (vs := vs) (σ := σ) (Qd := Qd)
    (fun i H3 => Same H1 H3 ∧ ∃ ys, H3 D = some (.lst ys) ∧ Paired (fun k y => Res H3 k y) ((List.range i).filter keep) ys) ⟨same_upd hD, [], upd_same, .nil⟩ (fun i H3 _ ⟨e, _⟩ => sSqT e hl) ?_ ?_
  · rintro j x H3 hj ⟨s3, ys, eD, hp⟩
    have hj' : j < xs.length := (List.getElem?_eq_some_iff.mp hj).1
    have dn : H3 D ≠ none := by rw [eD]; intro z; cases z
    refine ⟨hw _, ht j x H3 _ hj s3 dn fun H4 s4 => ?_⟩
    have nD : ∀ b o, H1 b = some o → b ≠ D := fun b o e z => by rw [z, hD] at e; cases e
    have eD4 := s4 _ _ eD
    by_cases c : keep j = true
    · rw [if_pos c]
      refine he j x H4 _ hj c (s3.trans s4) (by rw [eD4]; intro z; cases z) fun H5 y s5 hy => ⟨ys, s5 _ _ eD4, ?_, fun b o e => ?_, ys ++ [y], upd_same, ?_⟩
      · rw [← pair_len hp]
        have := List.length_filter_le keep (List.range j)
        rw [List.length_range] at this
        exact Nat.lt_of_le_of_lt (by omega : _ ≤ 1000000) (by decide)
      · rw [upd_ne (nD _ _ e)]; exact (s3.trans (s4.trans s5)) _ _ e
      · have k6 : Kp D H5 (upd H5 D (.lst (ys ++ [y]))) := fun b o n e => by rw [upd_ne n]; exact e
        rw [filt_succ, if_pos c]
        exact pair_snoc (pair_imp (fun k v r => hm _ _ k v ((sKp (s4.trans s5)).trans k6) r) hp) (hm _ _ _ _ k6 hy)
    · rw [if_neg c]
      refine ⟨s3.trans s4, ys, eD4, ?_⟩
      rw [filt_succ, if_neg c, List.append_nil]
      exact pair_imp (fun k v r => hm _ _ k v (sKp s4) r) hp
  · rintro H3 ⟨s3, ys, eD, hp⟩
    exact hd H3 ys s3 eD hp
end
end Dk

set_option Elab.async false
set_option linter.all false
set_option maxRecDepth 100000
set_option maxHeartbeats 1000000
namespace Dk
open PySem PySem.Spec PyProof.Rows L2 TL
section
variable {K : PySem.W.Frag} {H1 : Hp} {D : Addr} {σ : L2.St} {i : Nat} {vs : List Nat} {tt : TT} {te : TE} {Qd : Hp → Prop}
/-- [x for x in range(..) if ..] -/
theorem comp_rangeI {lo : Int} {n : Nat} (hD : H1 D = none) (hz : n ≤ 1000000) (keep : Nat → Bool)
    (ht : ∀ k H2 Qb, k < n → Same H1 H2 → (∀ H3, Same H2 H3 → Qb (keep k) H3) → tt ((wipe σ vs).set i (some (.int (lo + (k : Nat))))) H2 Qb)
    (hv : ∀ x : V, ((wipe σ vs).set i (some x))[i]? = some (some x)) (hw : ∀ x : V, wipe ((wipe σ vs).set i (some x)) vs = wipe σ vs)
    (hd : ∀ H2, Same H1 H2 → H2 D = some (.lst (((List.range n).filter keep).map fun k : Nat => V.int (lo + (k : Nat)))) → Qd H2) :
    ∃ W : Nat → Nat → Hp → Prop, (∃ m, W 0 m (upd H1 D (.lst []))) ∧ ∀ i' m H, W i' m H →
      ((Itr lo n).stop i' H ∧ Qd H) ∨ ((Itr lo n).go i' H ∧ ∃ Nx : Hp → Prop, (∀ H', Nx H' → ∃ m', m' < m ∧ W (i' + 1) m' H') ∧ ∀ x H', (Itr lo n).yld i' H x H' → gName i x (wipe σ vs) H' fun σ2 H2 => wipe σ2 vs = wipe σ vs ∧ tt σ2 H2 fun b H3 =>
        if b = true then tVar i σ2 H3 fun y H4 => ∃ acc, H4 D = some (.lst acc) ∧ acc.length < sizeLine ∧ Nx (upd H4 D (.lst (acc ++ [y]))) else Nx H3) :=
  comp_range hD hz keep (fun _ k v => v = .int (lo + (k : Nat))) (fun _ _ _ _ _ r => r) (fun k H2 Qb hk s _ q => ht k H2 Qb hk s q)
    (fun k H2 Q hk _ s _ q => ⟨_, hv _, q H2 _ (Same.refl H2) rfl⟩) hw fun H2 ys s e p => hd H2 s (by rw [e, pair_map p])
theorem filt_idx' {α : Type} (g : α → Bool) (ns : List α) : ∀ n, n ≤ ns.length → ((List.range n).filter fun k => (ns[k]?.map g).getD false).filterMap (fun k => ns[k]?) = (ns.take n).filter g
  | 0, _ => rfl
  | n + 1, h => by
    have hn : n < ns.length := h
    have e : ns[n]? = some ns[n] := List.getElem?_eq_getElem hn
    rw [filt_succ, List.filterMap_append, filt_idx' g ns n (by omega), List.take_succ, List.filter_append, e]
    congr 1
    by_cases c : g ns[n] = true
    · simp [c, List.filterMap_cons, e]
    · simp [c]
theorem filt_idx {α : Type} (g : α → Bool) (ns : List α) : ((List.range ns.length).filter fun k => (ns[k]?.map g).getD false).filterMap (fun k => ns[k]?) = ns.filter g := by
  rw [filt_idx' g ns _ (Nat.le_refl _), List.take_length]
/-- [x for x in xs if ..] over a list of numbers -/
theorem comp_listI {l : Addr} {ns : List Int} (hD : H1 D = none) (hl : SqL K H1 l (ns.map V.int)) (hz : ns.length ≤ 1000000) (g : Int → Bool)
    (ht : ∀ (p : Int) (H2 : Hp) (Qb : Bool → Hp → Prop), p ∈ ns → Same H1 H2 → (∀ H3, Same H2 H3 → Qb (g p) H3) → tt ((wipe σ vs).set i (some (.int p))) H2 Qb)
    (hv : ∀ x : V, ((wipe σ vs).set i (some x))[i]? = some (some x)) (hw : ∀ x : V, wipe ((wipe σ vs).set i (some x)) vs = wipe σ vs)
    (hd : ∀ H2, Same H1 H2 → H2 D = some (.lst ((ns.filter g).map V.int)) → Qd H2) :
    ∃ W : Nat → Nat → Hp → Prop, (∃ m, W 0 m (upd H1 D (.lst []))) ∧ ∀ i' m H, W i' m H →
      ((Itl K l).stop i' H ∧ Qd H) ∨ ((Itl K l).go i' H ∧ ∃ Nx : Hp → Prop, (∀ H', Nx H' → ∃ m', m' < m ∧ W (i' + 1) m' H') ∧ ∀ x H', (Itl K l).yld i' H x H' → gName i x (wipe σ vs) H' fun σ2 H2 => wipe σ2 vs = wipe σ vs ∧ tt σ2 H2 fun b H3 =>
        if b = true then tVar i σ2 H3 fun y H4 => ∃ acc, H4 D = some (.lst acc) ∧ acc.length < sizeLine ∧ Nx (upd H4 D (.lst (acc ++ [y]))) else Nx H3) := by
  have at_ : ∀ {k : Nat} {x : V}, (ns.map V.int)[k]? = some x → ∃ p, ns[k]? = some p ∧ x = .int p := fun {k x} h => by
    rw [List.getElem?_map] at h
    cases q : ns[k]? with
    | none => rw [q] at h; cases h
    | some p => rw [q] at h; exact ⟨p, rfl, (Option.some.inj h).symm⟩
  refine comp_list hD hl (by rw [List.length_map]; exact hz) (fun k => (ns[k]?.map g).getD false) (fun _ k v => ns[k]?.map V.int = some v) (fun _ _ _ _ _ r => r) (fun k x H2 Qb hx s _ q => ?_) (fun k x H2 Q hx _ s _ q => ?_) hw fun H2 ys s e p => hd H2 s ?_
  · obtain ⟨p, hp, rfl⟩ := at_ hx
    refine ht p H2 Qb (List.mem_of_getElem? hp) s fun H3 s3 => ?_
    have := q H3 s3
    rw [hp] at this
    exact this
  · obtain ⟨p, hp, rfl⟩ := at_ hx
    exact ⟨_, hv _, q H2 _ (Same.refl H2) (by rw [hp]; rfl)⟩
  · rw [e, ← filt_idx g ns]
    rw [List.length_map] at p
    clear e
    generalize (List.range ns.length).filter (fun k => (ns[k]?.map g).getD false) = ks at p
    have key : ∀ (ks : List Nat) (ys : List V), Paired (fun k y => ns[k]?.map V.int = some y) ks ys → ys = (ks.filterMap fun k => ns[k]?).map V.int := by
      intro ks
      induction ks with
      | nil => intro ys p; cases p; rfl
      | cons k ks ih =>
        intro ys p
        cases p with
        | cons h t =>
          cases q : ns[k]? with
          | none => rw [q] at h; cases h
          | some x =>
            rw [q] at h
            rw [List.filterMap_cons, q, List.map_cons, ← ih _ t]
            cases h
            rfl
    rw [key ks ys p]
end
end Dk

set_option Elab.async false
set_option linter.all false
set_option maxRecDepth 100000
set_option maxHeartbeats 2000000
namespace Dk
open PySem PySem.Spec PyProof.Rows L2 TL
/-! ### the ticks that have a mark -/
theorem rep_uniq0 {h : Hd} {n m : Nat} (a : IsRep h n) (b : IsRep h m) (l : n < m) : False := by
  obtain ⟨i, hi, e⟩ := List.mem_map.mp a.re
  have hi := List.mem_range.mp hi
  have nd := b.nd
  rw [List.nodup_iff_pairwise_ne] at nd
  have key := List.pairwise_iff_getElem.mp nd i n (by simp; omega) (by simp; omega) hi
  simp at key
  exact key e
theorem rep_eq {h : Hd} {n m : Nat} (a : IsRep h n) (b : IsRep h m) : n = m := by
  rcases Nat.lt_trichotomy n m with l | l | l
  · exact (rep_uniq0 a b l).elim
  · exact l
  · exact (rep_uniq0 b a l).elim
theorem cyc_eq {h : Hd} {b n b' n' : Nat} (c : IsCyc h b n) (d : IsCyc h b' n') : b = b' ∧ n = n' := by
  have e := rep_eq c.rp d.rp
  subst e
  refine ⟨?_, rfl⟩
  rcases Nat.lt_trichotomy b b' with l | l | l
  · exact (d.ne b l c.eq).elim
  · exact l
  · exact (c.ne b' l d.eq).elim
/-- the marked ticks before the cycle, and in it -/
def eT (f : Nat → Bool) (b : Nat) : List Nat := (List.range b).filter f
def cT (f : Nat → Bool) (b n : Nat) : List Nat := ((List.range (n - b)).filter fun k => f (b + k)).map (b + ·)
def nV (l : List Nat) : List V := l.map fun k : Nat => V.int (k : Int)
theorem nV_map (l : List Nat) : nV l = (l.map fun k : Nat => (k : Int)).map V.int := by unfold nV; rw [List.map_map]; rfl
theorem nV_len (l : List Nat) : (nV l).length = l.length := List.length_map ..
theorem eT_len (f : Nat → Bool) (b : Nat) : (eT f b).length ≤ b := by
  have := List.length_filter_le f (List.range b)
  rw [List.length_range] at this
  exact this
theorem cT_len (f : Nat → Bool) (b n : Nat) : (cT f b n).length ≤ n - b := by
  unfold cT
  rw [List.length_map]
  have := List.length_filter_le (fun k => f (b + k)) (List.range (n - b))
  rw [List.length_range] at this
  exact this
/-- a person waits after a tick; the house is open after a tick -/
def waitsB (h : Hd) (p : Int) (m : Nat) : Bool := decide (p ∈ (stt h (m + 1)).wait)
def opensB (h : Hd) (m : Nat) : Bool := (stt h (m + 1)).opn
end Dk

set_option Elab.async false
set_option linter.all false
set_option maxRecDepth 100000
set_option maxHeartbeats 2000000
namespace Dk
open PySem PySem.Spec PyProof.Rows L2 TL
/-! ### numbers of ticks -/
def cntF (f : Nat → Bool) (m : Nat) : Nat := ((List.range m).filter f).length
theorem cntF_succ (f : Nat → Bool) (m : Nat) : cntF f (m + 1) = cntF f m + (if f m = true then 1 else 0) := by
  unfold cntF
  rw [filt_succ, List.length_append]
  split <;> rfl
theorem cntF_add (f : Nat → Bool) (a : Nat) : ∀ x, cntF f (a + x) = cntF f a + cntF (fun k => f (a + k)) x
  | 0 => rfl
  | x + 1 => by rw [← Nat.add_assoc, cntF_succ, cntF_add f a x, cntF_succ]; omega
theorem cntF_congr {f g : Nat → Bool} {m : Nat} (h : ∀ k, k < m → f k = g k) : cntF f m = cntF g m := by
  unfold cntF
  rw [List.filter_congr fun k hk => h k (List.mem_range.mp hk)]
theorem cntF_le (f : Nat → Bool) (m : Nat) : cntF f m ≤ m := by
  have := List.length_filter_le f (List.range m)
  rw [List.length_range] at this
  exact this
theorem cntF_mono (f : Nat → Bool) {a b : Nat} (h : a ≤ b) : cntF f a ≤ cntF f b := by
  obtain ⟨x, rfl⟩ := Nat.exists_eq_add_of_le h
  rw [cntF_add]; omega
theorem cntF_rounds {g : Nat → Bool} {l : Nat} (h : ∀ k, g (l + k) = g k) (r : Nat) : ∀ q, cntF g (q * l + r) = q * cntF g l + cntF g r
  | 0 => by rw [Nat.zero_mul, Nat.zero_mul, Nat.zero_add, Nat.zero_add]
  | q + 1 => by
    have e : (q + 1) * l + r = l + (q * l + r) := by rw [Nat.succ_mul]; omega
    have e2 : (q + 1) * cntF g l = q * cntF g l + cntF g l := Nat.succ_mul ..
    rw [e, cntF_add, cntF_congr (fun k _ => h k), cntF_rounds h r q, e2]
    omega
theorem cnt_take (f : Nat → Bool) {m b : Nat} (h : m ≤ b) : ((eT f b).filter fun k => decide (k < m)).length = cntF f m := by
  unfold eT
  rw [List.filter_filter]
  obtain ⟨x, rfl⟩ := Nat.exists_eq_add_of_le h
  show cntF (fun k => decide (k < m) && f k) (m + x) = _
  rw [cntF_add]
  have e1 : cntF (fun k => decide (k < m) && f k) m = cntF f m := cntF_congr fun k hk => by rw [decide_eq_true hk]; rfl
  have e2 : cntF (fun k => decide (m + k < m) && f (m + k)) x = 0 := by
    have : cntF (fun k => decide (m + k < m) && f (m + k)) x = cntF (fun _ => false) x := cntF_congr fun k _ => by rw [decide_eq_false (by omega)]; rfl
    rw [this]
    unfold cntF
    simp
  rw [e1, e2]; rfl
theorem cT_cnt (f : Nat → Bool) (b n : Nat) : (cT f b n).length = cntF (fun k => f (b + k)) (n - b) := by
  unfold cT cntF
  rw [List.length_map]
theorem cT_take (f : Nat → Bool) {b n r : Nat} (h : r ≤ n - b) : ((cT f b n).filter fun k => decide (k < b + r)).length = cntF (fun k => f (b + k)) r := by
  unfold cT
  rw [List.filter_map, List.length_map, ← cnt_take (fun k => f (b + k)) h]
  unfold eT
  congr 2
  funext k
  show decide (b + k < b + r) = decide (k < r)
  by_cases c : k < r
  · rw [decide_eq_true c, decide_eq_true (by omega)]
  · rw [decide_eq_false c, decide_eq_false (by omega)]
theorem stt_near2 {h : Hd} (hT : Tabs h.ts) {b n : Nat} (cy : IsCyc h b n) {t : Nat} (ht : b ≤ t) : stt h (b + (t - b) % (n - b) + 1) = stt h (t + 1) := by
  by_cases q : b < t
  · exact stt_near hT cy.eq cy.lt q
  · have : t = b := by omega
    subst this
    simp
theorem stt_round {h : Hd} (hT : Tabs h.ts) {b n : Nat} (cy : IsCyc h b n) (k : Nat) : stt h (b + (n - b + k) + 1) = stt h (b + k + 1) := by
  have lt := cy.lt
  have h1 := stt_near2 hT cy (t := b + (n - b + k)) (by omega)
  have h2 := stt_near2 hT cy (t := b + k) (by omega)
  rw [← h1, ← h2]
  congr 2
  rw [show b + (n - b + k) - b = n - b + k by omega, show b + k - b = k by omega, Nat.add_mod_left]
/-- of a mark that the state tells -/
theorem cnt_far {h : Hd} (hT : Tabs h.ts) {b n : Nat} (cy : IsCyc h b n) {f : Nat → Bool} {F : Cs → Bool} (hf : ∀ m, f m = F (stt h (m + 1))) {m : Nat} (hm : b ≤ m) :
    cntF f m = (eT f b).length + (m - b) / (n - b) * (cT f b n).length + ((cT f b n).filter fun k => decide (k < b + (m - b) % (n - b))).length := by
  have lt := cy.lt
  have hr := Nat.mod_lt (m - b) (show 0 < n - b by omega)
  rw [cT_take f (Nat.le_of_lt hr), cT_cnt]
  have e : m = b + ((m - b) / (n - b) * (n - b) + (m - b) % (n - b)) := by
    have := Nat.mod_add_div (m - b) (n - b)
    rw [Nat.mul_comm] at this
    omega
  have hp : ∀ k, (fun k => f (b + k)) (n - b + k) = (fun k => f (b + k)) k := fun k => by
    show f (b + (n - b + k)) = f (b + k)
    rw [hf, hf, stt_round hT cy]
  conv => lhs; rw [e, cntF_add, cntF_rounds hp]
  have : cntF f b = (eT f b).length := rfl
  rw [this]
  omega
end Dk

set_option Elab.async false
set_option linter.all false
set_option maxRecDepth 100000
set_option maxHeartbeats 2000000
namespace Dk
open PySem PySem.Spec PyProof.Rows L2 TL
/-- nobody waits after tick m and the house is not open -/
def smAt (h : Hd) (m : Nat) : Prop := (stt h (m + 1)).wait = [] ∧ (stt h (m + 1)).opn = false
def IsSm (h : Hd) : Prop := ∀ m, smAt h m
theorem sm_rep {h : Hd} (hT : Tabs h.ts) {n : Nat} (r : IsRep h n) (hn : n ≤ 196608) (e : ∀ j, j ≤ n → smAt h j) : IsSm h := fun m => by
  obtain ⟨b, cy⟩ := cyc_of r hn
  by_cases c : b ≤ m
  · have := stt_near2 hT cy c
    have hm := Nat.mod_lt (m - b) (show 0 < n - b by have := cy.lt; omega)
    have q := e (b + (m - b) % (n - b)) (by have := cy.lt; omega)
    unfold smAt at q ⊢
    rw [← this]; exact q
  · exact e m (by have := cy.lt; omega)
def spSmooth (K : PySem.W.Frag) (CH : Addr) : Sp := fun vs H Q _ => ∃ (hp : Addr) (h : Hd), vs = [.ref hp] ∧ HoAt K CH H hp h ∧ Tabs h.ts ∧ h.ts.length ≤ 6 ∧
  ∀ (H' : Hp) (b : Bool), Same H H' → (b = true ↔ IsSm h) → Q (.bl b) H'
structure TxtSm (K : PySem.W.Frag) (mg : Str → Option Value) (fSm fSo : Addr) (fdSm fdSo : FuncData) : Prop where
abbrev nSmooth : List Str := ["house", "scene"]
def smIx (K : PySem.W.Frag) (s : Nat) (c : Int) : L2.St → Hp → Bool → Prop := fun σ H b => ∃ x, (∃ q ys i, σ[s]? = some (some (.ref q)) ∧ (V.int i) = (V.int c) ∧ SqT K H q ys ∧ atI ys i = some x) ∧ ((∃ p xs, x = .ref p ∧ SqT K H p xs ∧ b = !xs.isEmpty) ∨ x = .bl b)
theorem sm_ix {X : Cx} {s : Nat} {c : Int} {x2 x3 : Str} {p2 p3 p4 : Pos} {t : Tok} (hN2 : X.N[s]? = some x2) (hv2 : Vis X.env.scope x2) (hg : Gl X x3) (ew : X.mg x3 = some (.int c t)) (h3 : (x2 == ("__debug__" : Str)) = false := by decide) (h4 : (x2 == ("__classdict__" : Str)) = false := by decide) (h5 : (x3 == ("__debug__" : Str)) = false := by decide) :
    Gr.Et1 X (.Subscript (.Name x2 p2) (.Name x3 p3) p4) (smIx X.K s c) :=
  Gr.et_tup rfl (Gq.ex_ixT rfl (Gq.ex_var (i := s) hN2 hv2 h3 h4) (Gq.ex_glob (v := .int c) hg ew ⟨_, rfl⟩ h5) (fun _ _ => rfl)) (fun _ => rfl)
section
variable {P : Program} {w : World} {K : PySem.W.Frag} {mg : Str → Option Value} {base : Heap} {CC CH fCi fAd fSn : Addr} {fdCi fdAd fdSn : FuncData} {fSo fSm : Addr} {fdSo fdSm : FuncData}
end
end Dk

set_option Elab.async false
set_option linter.all false
set_option maxRecDepth 100000
set_option maxHeartbeats 4000000
namespace Dk
open PySem PySem.Spec PyProof.Rows L2 TL
def withKeys (h : Hd) (k : Nat) : Hd := ⟨h.ts, (k : Int), h.cs, h.rs⟩
def spLeastK (K : PySem.W.Frag) (CH : Addr) : Sp := fun vs H Q _ => ∃ (hp : Addr) (h : Hd), vs = [.ref hp] ∧ HoAt K CH H hp h ∧ Parts h.ts h.ks h.cs h.rs ∧
  (∀ (H' : Hp) (k : Nat), Same H H' → k ≤ 9 → IsSm (withKeys h k) → (∀ j, j < k → ¬ IsSm (withKeys h j)) → Q (.int (k : Int)) H') ∧
  ∀ (H' : Hp), Same H H' → (∀ j, j ≤ 9 → ¬ IsSm (withKeys h j)) → Q .non H'
structure TxtLk (K : PySem.W.Frag) (mg : Str → Option Value) (fLk : Addr) (fdLk : FuncData) : Prop where
  most : ∃ t, mg "MOST_KEYS" = some (.int 9 t)
section
variable {P : Program} {w : World} {K : PySem.W.Frag} {mg : Str → Option Value} {base : Heap} {CC CH fCi fAd fSn : Addr} {fdCi fdAd fdSn : FuncData} {fSo fSm : Addr} {fdSo fdSm : FuncData} {C fI : Addr} {fdI : FuncData} {fII fIB fHO : Addr} {fdII fdIB fdHO : FuncData} {fIT fIR fAs : Addr} {fdIT fdIR fdAs : FuncData}
  {fP fT fK fC fR : Addr} {fdP fdT fdK fdC fdR : FuncData} {fH : Addr} {fdH : FuncData} {dvs : List V} {fLk : Addr} {fdLk : FuncData} {fHL : Addr} {fdHL : FuncData}
/-- a house made of parts that are valid -/
theorem init_ok {H : Hp} {Q : Addr → Hp → Prop} {E : XK} {ts : List Str} {kk : Int} {cs : List Int} {rs : List Pr} {aT aC aR : Addr} {xs : List V} {CI : Addr} (hp : Parts ts kk cs rs) (e2 : SqT K H aT (ts.map V.str)) (e3 : SqT K H aC (cs.map V.int)) (e4 : SqT K H aR xs) (e5 : Prs H xs rs)
    (k : ∀ (H' : Hp) (p : Addr), Same H H' → H p = none → HouseAt K CH H' p ts kk cs rs → Q p H') :
    ∀ (p dx : Addr), H p = none → H dx = none → dx ≠ p → spInit K CH CI [.ref p, .ref aT, .int kk, .ref aC, .ref aR] (upd (upd H dx (.own p)) p (.ins CH dx [])) (fun v H' => v = .non ∧ Q p H') E := by
  intro p dx hpn hdx npd
  have sN : Same H (upd (upd H dx (.own p)) p (.ins CH dx [])) := fun b o e => by
    rw [upd_ne (ne_of_none e hpn), upd_ne (ne_of_none e hdx)]; exact e
  refine ⟨p, dx, .ref aT, .int kk, .ref aC, .ref aR, dStrs ts, .int kk, dInts cs, dPrs rs, rfl,
      dpSame sN _ _ (.tup e2 (dpAll_strs ts)), .int _, dpSame sN _ _ (.tup e3 (dpAll_ints _)), dpSame sN _ _ (.tup e4 (dpAll_prs e5)), ?_, upd_same, fun hc H7 k7 e7 => ⟨rfl, ?_⟩, fun part i hc => ?_⟩
  · intro ds hds y hy
    cases hds
    obtain ⟨t, ht, rfl⟩ := List.mem_map.mp hy
    show t.length ≤ 100000
    have := (hp.tabs t ht).pos.2
    rw [len_tl t]; omega
  · have s7 : Same H H7 := fun b o e => k7 b o (ne_of_none e hpn) (sN _ _ e)
    exact k H7 p s7 hpn ⟨⟨dx, aT, aC, aR, xs, e7, sSqT s7 e2, sSqT s7 e3, sSqT s7 e4, e5.mono fun t ys h => s7 _ _ h⟩⟩
  · rw [parts_is hp] at hc; cases hc
end
end Dk

set_option Elab.async false
set_option linter.all false
set_option maxRecDepth 100000
set_option maxHeartbeats 4000000
namespace Dk
open PySem PySem.Spec PyProof.Rows L2 TL
/-- decode of a list, and of what is none -/
def spDecodeX (K : PySem.W.Frag) (CH CC : Addr) : Sp := fun xs H Q E => (∃ (a : Addr) (vs : List V) (ds : List PyData), xs = [.ref a] ∧ H a = some (.lst vs) ∧ DpAll K H vs ds ∧ (∀ e : Nat, decR ds = .error e → PlRaised CC E H (e : Int)) ∧
    (∀ r, decR ds = .ok r → Parts r.ts r.kk r.cs r.rs ∧ ∀ (H' : Hp) (p : Addr), Same H H' → H p = none → HouseAt K CH H' p r.ts r.kk r.cs r.rs → Q (.ref p) H')) ∨
  (∃ (v : V) (d : PyData), xs = [v] ∧ Dp K H v d ∧ (∀ ds, d ≠ .list ds) ∧ PlRaised CC E H 0)
section
variable {P : Program} {w : World} {K : PySem.W.Frag} {mg : Str → Option Value} {base : Heap} {CR fRI fTk fTB : Addr} {fdRI fdTk fdTB : FuncData} {fII fIB fHO : Addr} {fdII fdIB fdHO : FuncData} {CH pPs gPs fSm : Addr} {fdPs fdSm : FuncData} {fRT fRC fRP : Addr} {fdRT fdRC fdRP : FuncData}
  {C fI : Addr} {fdI : FuncData} {fIT fIR fAs : Addr} {fdIT fdIR fdAs : FuncData} {fP fT fK fC fR : Addr} {fdP fdT fdK fdC fdR : FuncData} {fH : Addr} {fdH : FuncData} {dvs : List V} {CC fCI : Addr} {fdCI : FuncData}
theorem ok_decodeX {f : Addr} {fd : FuncData} (F : Fun K "decode" "decode" sDecode f fd) (R : TxtRd K mg CR fRI fTk fTB fdRI fdTk fdTB) (Dc : TxtDc K mg CR fRI fRT fRC fRP fdRT fdRC fdRP) (N : TxtEn K mg CH pPs gPs fSm fdPs fdSm) (T : TxtA mg) (TC : TxtC mg) (TF : TxtF K mg fII fIB fHO fdII fdIB fdHO) (TI : TxtI K mg fIT fIR fAs fdIT fdIR fdAs) (TH : TxtIH K mg C fI fdI)
    (TL' : TxtL K mg CH fP fT fK fC fR fdP fdT fdK fdC fdR) (FH : FunD K "__init__" "House.__init__" (defArgs sInit) (defBody sInit) (defScope sInit) dvs [] fH fdH) (bH : Binds K fdH ["self", "tables", "keys", "careful", "reminders"] []) (M : Mk K CH fH) (gH : mg "House" = some (.ref CH)) (TX : TxtPl K mg "InvalidCode" "InvalidCode.__init__" sICInit CC fCI fdCI) :
    FnOk P w K mg base (L2.CX P w) 8 f fd ["code"] (spDecodeX K CH CC) := by
  have GH : FnOk P w K mg base (L2.CX P w) 5 fH fdH ["self", "tables", "keys", "careful", "reminders"] (spInit K CH C) := ok_init FH T TC TF TI TH TL'
  have GI : FnOk P w K mg base CX0 1 fRI fdRI ["self", "code"] (spRInit CR) := ok_rinit R
  have GX : FnOk P w K mg base CX0 1 fCI fdCI ["self", "place"] (spPlInit CC) := ok_icinit TX
  have GT : FnOk P w K mg base (L2.CX P w) 3 fTk fdTk ["self", "allowed"] (spTakeX K CR CC) := ok_takeX R TF T TX
  have GB : FnOk P w K mg base (L2.CX P w) 4 fTB fdTB ["self", "low", "high"] (spTakeBX K CR CC) := ok_takeBX R TF T TX
  have GRT : FnOk P w K mg base (L2.CX P w) 5 fRT fdRT ["reader"] (spReadTabX K CR CC) := ok_readtabX Dc.FRT R N TF T TX
  have GRC : FnOk P w K mg base (L2.CX P w) 5 fRC fdRC ["reader", "persons"] (spReadCarX K CR CC) := ok_readcarX Dc.FRC R TF T TX
  have GRP : FnOk P w K mg base (L2.CX P w) 5 fRP fdRP ["reader", "period", "persons"] (spReadPrsX K CR CC) := ok_readprsX Dc.FRP R TF T TX TI.rems
  have GPer : FnOk P w K mg base CX0 1 fP fdP ["tables"] (spPeriod K) := ok_period TL'.FP T TC
  have GS : FnOk P w K mg base CX0 1 fSm fdSm ["code"] (spSum K) := ok_sum N
  obtain ⟨t1, eH⟩ := N.header
  obtain ⟨t2, eMP⟩ := TI.most
  obtain ⟨t3, eMK⟩ := TI.keys
  refine F.okX scDec (fun vs H Q E h => ?_) (fun cdv A outer s H vs Q E hr h => ?_)
  · rcases h with ⟨a, vs, ds, rfl, _⟩ | ⟨v, d, rfl, _⟩ <;> rfl
  · have hr5 : Room 5 (A.deeper (envOfC (Str.ofString "decode") (defScope sDecode) s.heap.objs.size f cdv)) := hr.mono (by decide)
    have hr4 : Room 4 (A.deeper (envOfC (Str.ofString "decode") (defScope sDecode) s.heap.objs.size f cdv)) := hr.mono (by decide)
    have hr3 : Room 3 (A.deeper (envOfC (Str.ofString "decode") (defScope sDecode) s.heap.objs.size f cdv)) := hr.mono (by decide)
    have hr6 : Room 6 (A.deeper (envOfC (Str.ofString "decode") (defScope sDecode) s.heap.objs.size f cdv)) := hr.mono (by decide)
    have hr2 : Room 2 (A.deeper (envOfC (Str.ofString "decode") (defScope sDecode) s.heap.objs.size f cdv)) := hr.mono (by decide)
    have hr1 : Room 1 (A.deeper (envOfC (Str.ofString "decode") (defScope sDecode) s.heap.objs.size f cdv)) := hr.mono (by decide)
    refine ⟨_, pss_cons (ps_if (pt_not (pt_val (pe_callB call_isi (by rfl) TF.isinstance (by decide +kernel) (pa_cons (pv 0) (pa_cons (pe_bltn (v := .ty "list") (by rfl) R.list (by decide +kernel) rfl) pa_nil)))))
          (pss_one (ps_raise rfl (takes_of rfl rfl rfl rfl) (pmk_oex TX.O TX.iC TX.tI GX hr2 TX.b .nil pass0 rfl TX.gC (pa_cons pe_int pa_nil)))) pss_nil)
      (pss_cons (ps_set (i := 1) scDec.nd rfl (.inr rfl) (pe_make Dc.M GI hr2 rfl Dc.gR R.bRI .nil pass0 (pa_cons (pv 0) pa_nil)))
      (pss_cons (ps_expr (pe_meth (pv 1) R.cl R.mTk GT hr3 R.bTk .nil (passes_call (takes_of rfl rfl rfl rfl) (fun _ _ _ _ h => h)) (pa_cons (pe_lst (pa_cons (pe_glob (v := .int 75) rfl eH ⟨_, rfl⟩) pa_nil)) pa_nil)))
      (pss_cons (ps_set (i := 2) scDec.nd rfl (.inl rfl) (pe_meth (pv 1) R.cl R.mTB GB hr4 R.bTB .nil (passes_call (takes_of rfl rfl rfl rfl) (fun _ _ _ _ h => h)) (pa_cons pe_int (pa_cons (pe_glob (v := .int 6) rfl eMP ⟨_, rfl⟩) pa_nil))))
      (pss_cons (ps_set (i := 3) scDec.nd rfl (.inl rfl) (pe_callTy call_tuple_of (by rfl) TF.tuple (by decide +kernel) (pa_cons (pe_lcX (own := [("_", 7)]) (g := gName 7) rfl rfl (takes_of rfl rfl rfl rfl) (by rfl) scDec.nd (pi_range1 rfl T.range (pa_cons (pv 2) pa_nil)) (blkOk_by (N := nDec) (sc := defScope sDecode) (by decide +kernel))
          (fun _ _ _ _ _ => pg_name (i := 7) scDec.nd rfl (Or.inl rfl)) (fun _ _ _ _ _ => pts_nil) (fun _ _ _ _ _ _ _ hp => pe_call GRT hr5 rfl Dc.gRT Dc.FRT.kp Dc.bRT .nil hp (pa_cons (pv 1) pa_nil))) pa_nil)))
      (pss_cons (ps_set (i := 4) scDec.nd rfl (.inl rfl) (pe_meth (pv 1) R.cl R.mTB GB hr4 R.bTB .nil (passes_call (takes_of rfl rfl rfl rfl) (fun _ _ _ _ h => h)) (pa_cons pe_int (pa_cons (pe_glob (v := .int 9) rfl eMK ⟨_, rfl⟩) pa_nil))))
      (pss_cons (ps_set (i := 5) scDec.nd rfl (.inl rfl) (pe_call GRC hr5 rfl Dc.gRC Dc.FRC.kp Dc.bRC .nil (passes_call (takes_of rfl rfl rfl rfl) (fun _ _ _ _ h => h)) (pa_cons (pv 1) (pa_cons (pv 2) pa_nil))))
      (pss_cons (ps_set (i := 6) scDec.nd rfl (.inl rfl) (pe_call GRP hr5 rfl Dc.gRP Dc.FRP.kp Dc.bRP .nil (passes_call (takes_of rfl rfl rfl rfl) (fun _ _ _ _ h => h)) (pa_cons (pv 1) (pa_cons (pe_call GPer hr1 rfl TL'.gP TL'.FP.kp TL'.bP .nil pass0 (pa_cons (pv 3) pa_nil)) (pa_cons (pv 2) pa_nil)))))
      (pss_cons (ps_expr (pe_meth (pv 1) R.cl R.mTk GT hr3 R.bTk .nil (passes_call (takes_of rfl rfl rfl rfl) (fun _ _ _ _ h => h)) (pa_cons (pe_lst (pa_cons (pe_call GS hr1 rfl N.gSm N.FSm.kp N.bSm .nil pass0 (pa_cons (pe_slice sl_list (pv 0) po_none (po_some (pe_fld (pv 1) rfl))) pa_nil)) pa_nil)) pa_nil)))
      (pss_cons (ps_if (pt_cmpR op_lt (pe_fld (pv 1) rfl) (pe_callB call_len_seq (by rfl) T.len PySem.boot_len (pa_cons (pv 0) pa_nil)) (nomark _))
          (pss_one (ps_raise rfl (takes_of rfl rfl rfl rfl) (pmk_oex TX.O TX.iC TX.tI GX hr2 TX.b .nil pass0 rfl TX.gC (pa_cons (pe_fld (pv 1) rfl) pa_nil)))) pss_nil)
      (pss_one (ps_ret (pe_make M GH hr6 rfl gH bH .nil passL (pa_cons (pv 3) (pa_cons (pv 4) (pa_cons (pv 5) (pa_cons (pv 6) pa_nil)))))))))))))))), ?_⟩
    rcases h with ⟨a, vs, ds, rfl, ea, hdp, kx, k⟩ | ⟨v, d, rfl, hd, hnl, kx⟩
    case inr =>
      refine ⟨_, rfl, _, _, _, _, _, rfl, .ty "list", tyx hd, kit_ty (kit_lst d), _, rfl, ?_⟩
      cases hd with
      | lst h1 h2 => exact absurd rfl (hnl _)
      | non => exact iteT (raise_pl kx)
      | bl b => exact iteT (raise_pl kx)
      | int b => exact iteT (raise_pl kx)
      | str b => exact iteT (raise_pl kx)
      | tup h1 h2 => exact iteT (raise_pl kx)
    have hlen := dpAll_len hdp
    refine ⟨_, rfl, _, _, _, _, _, rfl, .ty "list", tyx (.lst (SqL.of ea) hdp), kit_ty (kit_lst (.list ds)), _, rfl, iteF ?_⟩
    -- the reader
    refine ⟨_, rfl, fun p dx hpn hdx npd => ?_⟩
    have sN : Same H (upd (upd H dx (.own p)) p (.ins CR dx [])) := fun b o e => by
      rw [upd_ne (ne_of_none e hpn), upd_ne (ne_of_none e hdx)]; exact e
    refine ⟨p, dx, a, rfl, upd_same, fun H1 k1 hR1' => ⟨rfl, ?_⟩⟩
    have hR1 : RX K CR H p a vs ds H1 0 := ⟨hpn, fun b o e => k1 _ _ (ne_of_none e hpn) (sN _ _ e), hR1', ea, hdp⟩
    clear k1 sN hdx npd
    obtain ⟨dx1, e11⟩ := hR1.rd.ex
    -- the header
    refine ⟨_, rfl, p, dx1, _, rfl, e11, by rfl, by show 1 ≤ sizeLine; decide, fun l hl => ?_⟩
    have s2 := same_upd (o := .lst [V.int 75]) hl
    have hR1b := hR1.mono s2
    refine ⟨H, p, a, l, 0, vs, ds, [75], (fun x => decide (x ∈ [75])), rfl, hR1b, Nat.zero_le _, .inl (SqL.of upd_same), fun _ => rfl, fun x0 ex0 H2 k2 hR2 => ?_, fun en => kx 0 (by unfold decR; rw [en])⟩
    have I1 : IntsTo ds 1 := (show IntsTo ds 0 from fun j hj => absurd hj (Nat.not_lt_zero _)).step ex0
    have L1 : 1 ≤ ds.length := (tkD_lt ex0).1
    have D1 : decR ds = match tkD ds 1 (btw 1 6) with | none => .error 1 | some n => match tabA ds n.toNat 2 [] with | .error e => .error e | .ok (ts, i) => decKey ds n ts i := by unfold decR; rw [ex0] <;> rfl
    rw [D1] at kx k
    clear D1 ex0 k2 hR1b s2 hl
    -- how many persons
    obtain ⟨dx2, e22⟩ := hR2.rd.ex
    refine ⟨_, rfl, p, dx2, _, rfl, e22, by rfl, H, p, a, 1, 6, 1, vs, ds, rfl, hR2, L1, by decide, by decide, by decide, by decide, fun n en H3 k3 hR3 => ?_, fun en => kx 1 (by rw [en])⟩
    have I2 := I1.step en
    have L2' : 2 ≤ ds.length := (tkD_lt en).1
    obtain ⟨hn1, hn6⟩ := btw_is (tkD_lt en).2.1
    rw [en] at kx k
    dsimp only at kx k
    clear k3 en
    obtain ⟨dx3, e33⟩ := hR3.rd.ex
    -- the timetables
    refine ⟨_, rfl, n, rfl, by omega, by omega, fun D hD => lc_range (lo := 0) (n := n.toNat)
      (fun j H4 => ∃ (ts : List Str) (i : Nat), Kp p H3 H4 ∧ RX K CR H p a vs ds H4 i ∧ i ≤ ds.length ∧ IntsTo ds i ∧ H4 D = some (.lst (ts.map V.str)) ∧ ts.length = j ∧ Tabs ts ∧ tabA ds n.toNat 2 [] = tabA ds (n.toNat - j) i ts)
      ⟨[], 2, sKp (same_upd hD), hR3.mono (same_upd hD), L2', I2, upd_same, rfl, (fun t ht => by cases ht), rfl⟩ ?_ ?_⟩
    · rintro j H4 hj ⟨ts, i, k4, hR4, hi, hI, eD, htl, hT, et⟩
      have npD : p ≠ D := ne_of_none e33 hD
      have D0 : H D = none := hR3.s.free hD
      rw [show n.toNat - j = (n.toNat - (j + 1)) + 1 by omega, tabA_succ] at et
      refine ⟨rfl, _, rfl, H, p, a, i, vs, ds, rfl, hR4, hi, fun bs i' eb hi' H5 k5 hR5 => ?_, fun e en => ?_⟩
      · rw [eb] at et
        obtain ⟨hI', hit⟩ := rdTab_ok hI eb
        refine ⟨_, k5 _ _ npD.symm eD, ?_, ts ++ [tabStr bs], i', fun b o nb eb => ?_, hR5.put D0 npD, hi', hI', ?_, by rw [List.length_append, htl]; rfl, ?_, et⟩
        · rw [List.length_map, htl]
          exact Nat.lt_of_le_of_lt (by omega : j ≤ 1000) (by decide)
        · rw [upd_ne (ne_of_none eb hD)]; exact k5 _ _ nb (k4 _ _ nb eb)
        · rw [upd_same, List.map_append]; rfl
        · intro t ht
          rcases List.mem_append.mp ht with ht | ht
          · exact hT t ht
          · rw [List.mem_singleton.mp ht]; exact hit
      · rw [en] at et
        exact kx e (by rw [et])
    rintro H4 ⟨ts, i, k4, hR4, hi, hI, eD, htl, hT, et⟩
    rw [Nat.sub_self] at et
    rw [et] at kx k
    have D2 : (match tabA ds 0 i ts with | .error e => .error e | .ok (ts, i) => decKey ds n ts i : Except Nat Dec) = decKey ds n ts i := rfl
    rw [D2] at kx k
    clear et D2 k4
    refine ⟨D, _, rfl, .inl ⟨SqL.of eD, fun aT haT => ?_⟩⟩
    have s5 := same_upd (o := .tup (ts.map V.str)) haT
    have eT : (upd H4 aT (.tup (ts.map V.str))) aT = some (.tup (ts.map V.str)) := upd_same
    have hR5 := hR4.mono s5
    generalize upd H4 aT (.tup (ts.map V.str)) = H5 at eT hR5
    clear eD hD s5 haT hR4 hR3 hR2 hR1
    have pT : ∀ {H' : Hp} {i : Nat}, RX K CR H p a vs ds H' i → ∀ t ys, H' t = some (.tup ys) → t ≠ p := fun hR t ys h e => by
      obtain ⟨dx', e'⟩ := hR.rd.ex
      rw [e, e'] at h; cases h
    -- the keys
    obtain ⟨dx5, e55⟩ := hR5.rd.ex
    refine ⟨_, rfl, p, dx5, _, rfl, e55, by rfl, H, p, a, 0, 9, i, vs, ds, rfl, hR5, hi, by decide, by decide, by decide, by decide, fun kk ek H6 k6 hR6 => ?_, fun en => kx i (by unfold decKey; rw [en])⟩
    have hI6 := hI.step ek
    have hi6 : i + 1 ≤ ds.length := (tkD_lt ek).1
    have D3 : decKey ds n ts i = match rdCar ds (i + 1) n with | .error e => .error e | .ok (cs, j) => decRem ds n ts kk cs j := by unfold decKey; rw [ek] <;> rfl
    rw [D3] at kx k
    have eT6 := k6 _ _ (pT hR5 _ _ eT) eT
    clear D3 ek k6
    -- the careful persons
    refine ⟨_, rfl, _, rfl, H, p, a, i + 1, n, vs, ds, rfl, hR6, hi6, hn1, hn6, fun cs j ec hj H7 aC k7 hR7 _ eC => ?_, fun e en => kx e (by rw [en])⟩
    have hI7 := rdCar_ints hI6 ec
    rw [ec] at kx k
    dsimp only at kx k
    have eT7 := k7 _ _ (pT hR6 _ _ eT6) eT6
    clear ec k7
    -- the reminders
    have h24 : per ts ≤ 24 := Nat.le_of_dvd (by decide) (per_24 hT)
    have h1p := per_pos hT
    refine ⟨_, rfl, _, rfl, aT, ts, rfl, SqT.of eT7, hT, _, rfl, H, p, a, j, ((per ts : Nat) : Int), n, vs, ds, rfl, hR7, hj, hn1, hn6, by omega, by omega, fun rs m er hm H8 aR xs k8 hR8 _ eR hX => ?_, fun e en => kx e (by unfold decRem; rw [en])⟩
    have hI8 := rdPrs_ints hI7 er
    have D4 : decRem ds n ts kk cs j = decEnd ds m ⟨ts, kk, cs, rs⟩ := by unfold decRem; rw [er]
    rw [D4] at kx k
    have eT8 := k8 _ _ (pT hR7 _ _ eT7) eT7
    have eC8 := k8 _ _ (pT hR7 _ _ eC) eC
    clear D4 er k8
    -- the last byte
    obtain ⟨dx8, e88⟩ := hR8.rd.ex
    have ecut : cutV vs none (some ((m : Nat) : Int)) = ((ds.take m).map intD).map V.int := by
      rw [cut_to (by omega), take_ints m hdp hI8 hm]
    refine ⟨_, rfl, p, dx8, _, rfl, e88, by rfl, _, rfl, _, rfl, p, CR, dx8, _, _, rfl, e88, R.cl, R.nP, rF_place _ _, _, rfl, a, _, rfl, SqL.of (hR8.s _ _ ea), fun l hl => ?_⟩
    rw [ecut]
    have s9 := same_upd (o := .lst (((ds.take m).map intD).map V.int)) hl
    have el : (upd H8 l (.lst (((ds.take m).map intD).map V.int))) l = some (.lst (((ds.take m).map intD).map V.int)) := upd_same
    have hR9 := hR8.mono s9
    have eT9 := s9 _ _ eT8
    have eC9 := s9 _ _ eC8
    have eR9 := s9 _ _ eR
    have hX9 : Prs (upd H8 l (.lst (((ds.take m).map intD).map V.int))) xs rs := hX.mono fun t ys z => s9 _ _ z
    generalize upd H8 l (.lst (((ds.take m).map intD).map V.int)) = H9 at el hR9 eT9 eC9 eR9 hX9
    refine ⟨l, (ds.take m).map intD, rfl, SqL.of el, by show 1 ≤ sizeLine; decide, fun l2 hl2 => ?_⟩
    have s10 := same_upd (o := .lst [V.int (((ds.take m).map intD).sum % 256)]) hl2
    have hR10 := hR9.mono s10
    refine ⟨H, p, a, l2, m, vs, ds, [sumD (ds.take m) % 256], (fun x => decide (x ∈ [sumD (ds.take m) % 256])), rfl, hR10, hm, .inl (SqL.of upd_same), fun _ => rfl, fun xx ex H11 k11 hR11 => ?_, fun en => kx m (by unfold decEnd; rw [en])⟩
    have D5 : decEnd ds m ⟨ts, kk, cs, rs⟩ = if m + 1 < ds.length then .error (m + 1) else .ok ⟨ts, kk, cs, rs⟩ := by unfold decEnd; rw [ex]
    rw [D5] at kx k
    have cK : ∀ t ys, H9 t = some (.tup ys) → H11 t = some (.tup ys) := fun t ys z => k11 _ _ (pT hR10 _ _ (s10 _ _ z)) (s10 _ _ z)
    have eT11 := cK _ _ eT9
    have eC11 := cK _ _ eC9
    have eR11 := cK _ _ eR9
    have hX11 := hX9.mono cK
    clear D5 k11
    obtain ⟨dx11, e1111⟩ := hR11.rd.ex
    refine ⟨_, rfl, p, CR, dx11, _, _, rfl, e1111, R.cl, R.nP, rF_place _ _, _, rfl, a, _, rfl, .inl (SqL.of (hR11.s _ _ ea)), _, _, rfl, rfl, _, rfl, ?_⟩
    rw [hlen]
    refine ite2 (fun c => ?_) (fun c => ?_)
    · have c := of_decide_eq_true c
      refine ⟨_, rfl, p, CR, dx11, _, _, rfl, e1111, R.cl, R.nP, rF_place _ _, raise_pl (PlRaised.mono (kx (m + 1) ?_) hR11.s)⟩
      rw [if_pos (by omega)]
    have c' : ¬ m + 1 < ds.length := fun z => c (decide_eq_true (by omega : ((m + 1 : Nat) : Int) < ((ds.length : Nat) : Int)))
    -- the house
    obtain ⟨hP, k⟩ := k ⟨ts, kk, cs, rs⟩ (if_neg c')
    refine ⟨_, rfl, _, rfl, _, rfl, _, rfl, ?_⟩
    exact init_ok hP (SqT.of eT11) (SqT.of eC11) (SqT.of eR11) hX11 fun H12 u s12 hu hh => k H12 u (hR11.s.trans s12) (hR11.s.free hu) hh
end
end Dk

set_option Elab.async false
set_option linter.all false
set_option maxRecDepth 100000
set_option maxHeartbeats 4000000
namespace Dk
open PySem PySem.Spec PyProof.Rows L2 TL
/-! ### two lists that agree below a place -/
structure Alk (ds es : List PyData) (m : Nat) : Prop where
  eq : ∀ j, j < m → es[j]? = ds[j]?
  bad : ∀ x, es[m]? = some (.int x) → x < 0 ∨ 255 < x
def Byt (ok : Int → Bool) : Prop := ∀ x, ok x = true → 0 ≤ x ∧ x ≤ 255
theorem Alk.tk {ds es : List PyData} {m i : Nat} {ok : Int → Bool} (a : ∀ j, j < m → es[j]? = ds[j]?) (h : i < m) : tkD es i ok = tkD ds i ok := by unfold tkD; rw [a i h]
theorem Alk.no {ds es : List PyData} {m : Nat} {ok : Int → Bool} (a : Alk ds es m) (b : Byt ok) : tkD es m ok = none := by
  unfold tkD
  split
  · rename_i x e
    rcases a.bad x e with z | z
    · rw [if_neg (fun q => by have := b x q; omega)]
    · rw [if_neg (fun q => by have := b x q; omega)]
  · rfl
/-- b follows a, up to the place m -/
def Stb {α : Type} (E : Prop) (m i : Nat) (a b : Except Nat (α × Nat)) : Prop := ∀ r j, a = .ok (r, j) → i ≤ j ∧ (j ≤ m → b = .ok (r, j)) ∧ (E → i ≤ m → m < j → b = .error m)
theorem byt_btw {lo hi : Int} (h0 : 0 ≤ lo) (h1 : hi ≤ 255) : Byt (btw lo hi) := fun x h => by have := btw_is h; omega
theorem byt_lens : Byt (fun x => decide (x ∈ lens8)) := fun x h => by
  have h := of_decide_eq_true h
  unfold lens8 at h
  simp only [List.mem_cons, List.not_mem_nil, or_false] at h
  omega
section
variable {ds es : List PyData} {m : Nat}
theorem letA_stb (eq : ∀ j, j < m → es[j]? = ds[j]?) : ∀ (n i : Nat) (acc : List Int), Stb (Alk ds es m) m i (letA ds n i acc) (letA es n i acc)
  | 0, i, acc => fun r j h => by
    cases h
    exact ⟨Nat.le_refl _, fun _ => rfl, fun _ h1 h2 => absurd (Nat.lt_of_le_of_lt h1 h2) (Nat.lt_irrefl _)⟩
  | n + 1, i, acc => fun r j h => by
    rw [letA_succ] at h ⊢
    split at h
    · cases h
    · rename_i x ex
      obtain ⟨h1, h2, h3⟩ := letA_stb eq n (i + 1) (acc ++ [x]) r j h
      refine ⟨by omega, fun hj => ?_, fun A hi hm => ?_⟩
      · rw [Alk.tk eq (by omega), ex]; exact h2 hj
      · rcases Nat.lt_or_ge i m with z | z
        · rw [Alk.tk eq z, ex]; exact h3 A (by omega) hm
        · have : i = m := by omega
          subst this
          rw [A.no (byt_btw (by decide) (by decide))]
theorem rdTab_stb (eq : ∀ j, j < m → es[j]? = ds[j]?) (i : Nat) : Stb (Alk ds es m) m i (rdTab ds i) (rdTab es i) := fun r j h => by
  unfold rdTab at h ⊢
  split at h
  · cases h
  · rename_i x ex
    obtain ⟨h1, h2, h3⟩ := letA_stb eq x.toNat (i + 1) [] r j h
    refine ⟨by omega, fun hj => ?_, fun A hi hm => ?_⟩
    · rw [Alk.tk eq (by omega), ex]; exact h2 hj
    · rcases Nat.lt_or_ge i m with z | z
      · rw [Alk.tk eq z, ex]; exact h3 A (by omega) hm
      · have : i = m := by omega
        subst this
        rw [A.no byt_lens]
theorem tabA_stb (eq : ∀ j, j < m → es[j]? = ds[j]?) : ∀ (n i : Nat) (acc : List Str), Stb (Alk ds es m) m i (tabA ds n i acc) (tabA es n i acc)
  | 0, i, acc => fun r j h => by
    cases h
    exact ⟨Nat.le_refl _, fun _ => rfl, fun _ h1 h2 => absurd (Nat.lt_of_le_of_lt h1 h2) (Nat.lt_irrefl _)⟩
  | n + 1, i, acc => fun r j h => by
    rw [tabA_succ] at h ⊢
    split at h
    · cases h
    · rename_i bs k ek
      obtain ⟨g1, g2, g3⟩ := rdTab_stb eq i bs k ek
      obtain ⟨h1, h2, h3⟩ := tabA_stb eq n k (acc ++ [tabStr bs]) r j h
      refine ⟨by omega, fun hj => ?_, fun A hi hm => ?_⟩
      · rw [g2 (by omega)]; exact h2 hj
      · rcases Nat.lt_or_ge m k with z | z
        · rw [g3 A hi z]
        · rw [g2 z]; exact h3 A z hm
theorem carA_stb (eq : ∀ j, j < m → es[j]? = ds[j]?) {hi : Int} (hh : hi ≤ 255) : ∀ (n i : Nat) (last : Int) (acc : List Int), -1 ≤ last → Stb (Alk ds es m) m i (carA ds hi n i last acc) (carA es hi n i last acc)
  | 0, i, last, acc, _ => fun r j h => by
    cases h
    exact ⟨Nat.le_refl _, fun _ => rfl, fun _ h1 h2 => absurd (Nat.lt_of_le_of_lt h1 h2) (Nat.lt_irrefl _)⟩
  | n + 1, i, last, acc, hl => fun r j h => by
    rw [carA_succ] at h ⊢
    split at h
    · cases h
    · rename_i x ex
      have hb := btw_is (tkD_lt ex).2.1
      obtain ⟨h1, h2, h3⟩ := carA_stb eq hh n (i + 1) x (acc ++ [x]) (by omega) r j h
      refine ⟨by omega, fun hj => ?_, fun A hi hm => ?_⟩
      · rw [Alk.tk eq (by omega), ex]; exact h2 hj
      · rcases Nat.lt_or_ge i m with z | z
        · rw [Alk.tk eq z, ex]; exact h3 A (by omega) hm
        · have : i = m := by omega
          subst this
          rw [A.no (byt_btw (by omega) hh)]
theorem rdCar_stb (eq : ∀ j, j < m → es[j]? = ds[j]?) (i : Nat) {n : Int} (h6 : n ≤ 6) : Stb (Alk ds es m) m i (rdCar ds i n) (rdCar es i n) := fun r j h => by
  unfold rdCar at h ⊢
  split at h
  · cases h
  · rename_i x ex
    obtain ⟨h1, h2, h3⟩ := carA_stb eq (hi := n - 1) (by omega) x.toNat (i + 1) (-1) [] (by decide) r j h
    refine ⟨by omega, fun hj => ?_, fun A hi hm => ?_⟩
    · rw [Alk.tk eq (by omega), ex]; exact h2 hj
    · rcases Nat.lt_or_ge i m with z | z
      · rw [Alk.tk eq z, ex]; exact h3 A (by omega) hm
      · have : i = m := by omega
        subst this
        rw [A.no (byt_btw (by decide) (by omega))]
theorem prsA_stb (eq : ∀ j, j < m → es[j]? = ds[j]?) {ht hp : Int} (h1' : ht ≤ 255) (h2' : hp ≤ 255) : ∀ (n i : Nat) (lt lp : Int) (acc : List Pr), 0 ≤ lt → -1 ≤ lp → Stb (Alk ds es m) m i (prsA ds ht hp n i lt lp acc) (prsA es ht hp n i lt lp acc)
  | 0, i, lt, lp, acc, _, _ => fun r j h => by
    cases h
    exact ⟨Nat.le_refl _, fun _ => rfl, fun _ h1 h2 => absurd (Nat.lt_of_le_of_lt h1 h2) (Nat.lt_irrefl _)⟩
  | n + 1, i, lt, lp, acc, hl0, hl1 => fun r j h => by
    rw [prsA_succ] at h ⊢
    split at h
    · cases h
    · rename_i t et
      have hb := btw_is (tkD_lt et).2.1
      split at h
      · cases h
      · rename_i x ex
        have hlo : (0 : Int) ≤ (if t = lt then lp + 1 else 0) := by split <;> omega
        have hb2 := btw_is (tkD_lt ex).2.1
        obtain ⟨h1, h2, h3⟩ := prsA_stb eq h1' h2' n (i + 2) t x (acc ++ [(t, x)]) (by omega) (by omega) r j h
        refine ⟨by omega, fun hj => ?_, fun A hi hm => ?_⟩
        · rw [Alk.tk eq (by omega), et]; dsimp only; rw [Alk.tk eq (by omega), ex]; exact h2 hj
        · rcases Nat.lt_or_ge i m with z | z
          · rw [Alk.tk eq z, et]
            dsimp only
            rcases Nat.lt_or_ge (i + 1) m with y | y
            · rw [Alk.tk eq y, ex]; exact h3 A (by omega) hm
            · have : i + 1 = m := by omega
              subst this
              rw [A.no (byt_btw hlo h2')]
          · have : i = m := by omega
            subst this
            rw [A.no (byt_btw hl0 h1')]
theorem rdPrs_stb (eq : ∀ j, j < m → es[j]? = ds[j]?) (i : Nat) {p n : Int} (hp : p ≤ 24) (h6 : n ≤ 6) : Stb (Alk ds es m) m i (rdPrs ds i p n) (rdPrs es i p n) := fun r j h => by
  unfold rdPrs at h ⊢
  split at h
  · cases h
  · rename_i x ex
    obtain ⟨h1, h2, h3⟩ := prsA_stb eq (ht := p - 1) (hp := n - 1) (by omega) (by omega) x.toNat (i + 1) 0 (-1) [] (by decide) (by decide) r j h
    refine ⟨by omega, fun hj => ?_, fun A hi hm => ?_⟩
    · rw [Alk.tk eq (by omega), ex]; exact h2 hj
    · rcases Nat.lt_or_ge i m with z | z
      · rw [Alk.tk eq z, ex]; exact h3 A (by omega) hm
      · have : i = m := by omega
        subst this
        rw [A.no (byt_btw (by decide) (by decide))]
end
end Dk

set_option Elab.async false
set_option linter.all false
set_option maxRecDepth 100000
set_option maxHeartbeats 4000000
namespace Dk
open PySem PySem.Spec PyProof.Rows L2 TL
/-! ### what encode wrote is read -/
def dL (ns : List Int) : List PyData := ns.map PyData.int
theorem tk_int {ns : List Int} {i : Nat} {x : Int} {ok : Int → Bool} (h : ns[i]? = some x) (o : ok x = true) : tkD (dL ns) i ok = some x := by
  unfold tkD dL
  rw [List.getElem?_map, h]
  show (if ok x = true then some x else none) = _
  rw [if_pos o]
theorem btw_of {lo hi x : Int} (h1 : lo ≤ x) (h2 : x ≤ hi) : btw lo hi x = true := by
  unfold btw; rw [decide_eq_true h1, decide_eq_true h2]; rfl
theorem let_run {ns : List Int} : ∀ (bs : List Int) (i : Nat) (acc : List Int), SubAt ns i bs → (∀ b ∈ bs, (0 : Int) ≤ b ∧ b ≤ 1) → letA (dL ns) bs.length i acc = .ok (acc ++ bs, i + bs.length)
  | [], i, acc, _, _ => by rw [List.append_nil]; rfl
  | b :: bs, i, acc, h, hb => by
    have h1 := hb b (List.mem_cons_self ..)
    rw [List.length_cons, letA_succ, tk_int h.head (btw_of h1.1 h1.2)]
    dsimp only
    rw [let_run bs (i + 1) (acc ++ [b]) h.tail (fun c hc => hb c (List.mem_cons_of_mem _ hc)), List.append_assoc, show i + 1 + bs.length = i + (bs.length + 1) by omega]
    rfl
theorem tab_back {t : Str} (h : IsTab t) : tabStr ((tl t).map hBit) = t := by
  apply ext_tl
  rw [tl_tabStr, List.map_map]
  have : ∀ l : List Nat, (∀ c ∈ l, c = 104 ∨ c = 111) → l.map ((fun x : Int => if x = 0 then 111 else 104) ∘ hBit) = l := by
    intro l
    induction l with
    | nil => intro _; rfl
    | cons c l ih =>
      intro hl
      rw [List.map_cons, ih fun d hd => hl d (List.mem_cons_of_mem _ hd)]
      rcases hl c (List.mem_cons_self ..) with rfl | rfl <;> rfl
  exact this _ h.ho
theorem rdTab_run {ns : List Int} {i : Nat} {t : Str} (h : IsTab t) (s : SubAt ns i (tabB t)) : rdTab (dL ns) i = .ok ((tl t).map hBit, i + (tabB t).length) := by
  unfold rdTab
  unfold tabB at s
  rw [tk_int (ok := fun x => decide (x ∈ lens8)) s.head (decide_eq_true (by
    have := h.len
    unfold lens8
    simp only [List.mem_cons, List.not_mem_nil, or_false] at this ⊢
    omega))]
  dsimp only
  have e := let_run ((tl t).map hBit) (i + 1) [] s.tail (fun b hb => by
    obtain ⟨c, hc, rfl⟩ := List.mem_map.mp hb
    rcases h.ho c hc with rfl | rfl <;> decide)
  rw [List.length_map] at e
  rw [Int.toNat_natCast, e]
  unfold tabB
  rw [List.length_cons, List.length_map, show i + 1 + (tl t).length = i + ((tl t).length + 1) by omega]
  rfl
theorem tab_run {ns : List Int} : ∀ (ts : List Str) (i : Nat) (acc : List Str), Tabs ts → SubAt ns i (ts.flatMap tabB) → tabA (dL ns) ts.length i acc = .ok (acc ++ ts, i + (ts.flatMap tabB).length)
  | [], i, acc, _, _ => by rw [List.append_nil]; rfl
  | t :: ts, i, acc, hT, h => by
    rw [List.flatMap_cons] at h
    have ht := hT t (List.mem_cons_self ..)
    rw [List.length_cons, tabA_succ, rdTab_run ht h.left]
    dsimp only
    rw [tab_back ht, tab_run ts _ (acc ++ [t]) (fun x hx => hT x (List.mem_cons_of_mem _ hx)) h.right, List.append_assoc, List.flatMap_cons, List.length_append, Nat.add_assoc]
    rfl
theorem car_run {ns : List Int} {hi : Int} : ∀ (cs : List Int) (i : Nat) (last : Int) (acc : List Int), SubAt ns i cs → cs.Pairwise (· < ·) → (∀ c ∈ cs, last < c ∧ c ≤ hi) → carA (dL ns) hi cs.length i last acc = .ok (acc ++ cs, i + cs.length)
  | [], i, last, acc, _, _, _ => by rw [List.append_nil]; rfl
  | c :: cs, i, last, acc, h, hp, hb => by
    have h1 := hb c (List.mem_cons_self ..)
    have hp := List.pairwise_cons.mp hp
    rw [List.length_cons, carA_succ, tk_int h.head (btw_of (by omega) h1.2)]
    dsimp only
    rw [car_run cs (i + 1) c (acc ++ [c]) h.tail hp.2 (fun d hd => ⟨hp.1 d hd, (hb d (List.mem_cons_of_mem _ hd)).2⟩), List.append_assoc, show i + 1 + cs.length = i + (cs.length + 1) by omega]
    rfl
theorem prs_run {ns : List Int} {ht hp : Int} : ∀ (rs : List Pr) (i : Nat) (lt lp : Int) (acc : List Pr), SubAt ns i (rs.flatMap prB) → rs.Pairwise plt → (∀ r ∈ rs, plt (lt, lp) r ∧ r.1 ≤ ht ∧ 0 ≤ r.2 ∧ r.2 ≤ hp) → prsA (dL ns) ht hp rs.length i lt lp acc = .ok (acc ++ rs, i + (rs.flatMap prB).length)
  | [], i, lt, lp, acc, _, _, _ => by rw [List.append_nil]; rfl
  | r :: rs, i, lt, lp, acc, h, hw, hb => by
    obtain ⟨h1, h2, h3, h4⟩ := hb r (List.mem_cons_self ..)
    have hw := List.pairwise_cons.mp hw
    rw [List.flatMap_cons] at h
    have s1 : ns[i]? = some r.1 := h.left.head
    have s2 : ns[i + 1]? = some r.2 := h.left.tail.head
    have l1 : lt ≤ r.1 := by
      rcases h1 with z | z
      · exact Int.le_of_lt z
      · exact Int.le_of_eq z.1
    rw [List.length_cons, prsA_succ, tk_int s1 (btw_of l1 h2)]
    dsimp only
    rw [tk_int s2 (btw_of (by
      by_cases z : r.1 = lt
      · rw [if_pos z]
        rcases h1 with y | y
        · have y : lt < r.1 := y
          omega
        · have y : lp < r.2 := y.2
          omega
      · rw [if_neg z]; exact h3) h4)]
    dsimp only
    have s3 : SubAt ns (i + 2) (rs.flatMap prB) := h.right
    rw [prs_run rs (i + 2) r.1 r.2 (acc ++ [(r.1, r.2)]) s3 hw.2 (fun q hq => ⟨hw.1 q hq, (hb q (List.mem_cons_of_mem _ hq)).2⟩), List.append_assoc, List.flatMap_cons, List.length_append]
    show Except.ok (acc ++ (r :: rs), i + 2 + _) = Except.ok (acc ++ (r :: rs), i + (2 + _))
    rw [Nat.add_assoc]
/-- the stages on what encode wrote -/
structure Stg (ds : List PyData) (ts : List Str) (kk : Int) (cs : List Int) (rs : List Pr) (a b c : Nat) : Prop where
  e0 : tkD ds 0 (fun x => decide (x ∈ [75])) = some 75
  e1 : tkD ds 1 (btw 1 6) = some (ts.length : Int)
  e2 : tabA ds ts.length 2 [] = .ok (ts, a)
  e3 : tkD ds a (btw 0 9) = some kk
  e4 : rdCar ds (a + 1) (ts.length : Int) = .ok (cs, b)
  e5 : rdPrs ds b ((per ts : Nat) : Int) (ts.length : Int) = .ok (rs, c)
theorem stages {ts : List Str} {kk : Int} {cs : List Int} {rs : List Pr} (h : Parts ts kk cs rs) : ∃ a b, Stg (dL (enc ts kk cs rs)) ts kk cs rs a b (encB ts kk cs rs).length := by
  have E := enc_at ts kk cs rs
  have n1 := h.n1
  have n6 := h.n6
  have k9 := h.k9
  have hl := up_le6 h.cp h.cm h.n6
  have hln : (cs.length : Int) ≤ (ts.length : Int) := by
    have key : ∀ (l : List Int) (a : Int), l.Pairwise (· < ·) → (∀ c ∈ l, a ≤ c ∧ c < (ts.length : Int)) → a ≤ (ts.length : Int) → (l.length : Int) ≤ (ts.length : Int) - a := by
      intro l
      induction l with
      | nil => intro a _ _ h; simp; omega
      | cons x l ih =>
        intro a hp hm ha
        have hx := hm x (List.mem_cons_self ..)
        have := ih (x + 1) (List.pairwise_cons.mp hp).2 (fun c hc => ⟨by have := (List.pairwise_cons.mp hp).1 c hc; omega, (hm c (List.mem_cons_of_mem _ hc)).2⟩) (by omega)
        rw [List.length_cons]
        omega
    have := key cs 0 h.cp h.cm (by omega)
    omega
  refine ⟨2 + (ts.flatMap tabB).length, 2 + (ts.flatMap tabB).length + 1 + 1 + cs.length, tk_int E.hd rfl, tk_int E.ps (btw_of (by omega) (by omega)), ?_, tk_int E.ky (btw_of h.k0 (by omega)), ?_, ?_⟩
  · have := tab_run ts 2 [] h.tabs E.tb
    rw [List.nil_append] at this; exact this
  · unfold rdCar
    rw [tk_int E.cr.head (btw_of (by omega) hln)]
    dsimp only
    have := car_run (hi := (ts.length : Int) - 1) cs (2 + (ts.flatMap tabB).length + 1 + 1) (-1) [] E.cr.tail h.cp (fun c hc => by have := h.cm c hc; omega)
    rw [List.nil_append] at this
    rw [Int.toNat_natCast]; exact this
  · unfold rdPrs
    have r10 := h.r10
    rw [tk_int E.rm.head (btw_of (by omega) (by omega))]
    dsimp only
    have := prs_run (ht := ((per ts : Nat) : Int) - 1) (hp := (ts.length : Int) - 1) rs (2 + (ts.flatMap tabB).length + 1 + 1 + cs.length + 1) 0 (-1) [] E.rm.tail h.rp (fun r hr => by
      have m := h.rm r hr
      refine ⟨?_, by omega, m.2.2.1, by omega⟩
      show (0 : Int) < r.1 ∨ ((0 : Int) = r.1 ∧ (-1 : Int) < r.2)
      omega)
    rw [List.nil_append] at this
    rw [Int.toNat_natCast, E.ln]; exact this
theorem stg_mono {ds es : List PyData} {ts : List Str} {kk : Int} {cs : List Int} {rs : List Pr} {a b c : Nat} (g : Stg ds ts kk cs rs a b c) (hP : Parts ts kk cs rs) {m : Nat} (eq : ∀ j, j < m → es[j]? = ds[j]?) :
    (c ≤ m → decR es = decEnd es c ⟨ts, kk, cs, rs⟩) ∧ (Alk ds es m → m < c → decR es = .error m) := by
  have n6 := hP.n6
  have h24 : per ts ≤ 24 := Nat.le_of_dvd (by decide) (per_24 hP.tabs)
  obtain ⟨a1, a2, a3⟩ := tabA_stb eq ts.length 2 [] ts a g.e2
  obtain ⟨b1, b2, b3⟩ := rdCar_stb eq (a + 1) (n := (ts.length : Int)) (by omega) cs b g.e4
  obtain ⟨c1, c2, c3⟩ := rdPrs_stb eq b (p := ((per ts : Nat) : Int)) (n := (ts.length : Int)) (by omega) (by omega) rs c g.e5
  have b75 : Byt (fun x => decide (x ∈ [75])) := fun x h => by have h := of_decide_eq_true h; rw [List.mem_singleton.mp h]; decide
  refine ⟨fun hc => ?_, fun A hc => ?_⟩
  · unfold decR
    rw [Alk.tk eq (by omega), g.e0]
    dsimp only
    rw [Alk.tk eq (by omega), g.e1]
    dsimp only
    rw [Int.toNat_natCast, a2 (by omega)]
    dsimp only
    unfold decKey
    rw [Alk.tk eq (by omega), g.e3]
    dsimp only
    rw [b2 (by omega)]
    dsimp only
    unfold decRem
    rw [c2 hc]
  · unfold decR
    rcases Nat.lt_or_ge 0 m with z | z
    case inr =>
      have : m = 0 := by omega
      subst this
      rw [A.no b75]
    rw [Alk.tk eq z, g.e0]
    dsimp only
    rcases Nat.lt_or_ge 1 m with z | z
    case inr =>
      have : m = 1 := by omega
      subst this
      rw [A.no (byt_btw (by decide) (by decide))]
    rw [Alk.tk eq z, g.e1]
    dsimp only
    rw [Int.toNat_natCast]
    rcases Nat.lt_or_ge m a with y | y
    · rw [a3 A (by omega) y]
    rw [a2 y]
    dsimp only
    unfold decKey
    rcases Nat.lt_or_ge a m with z | z
    case inr =>
      have : m = a := by omega
      subst this
      rw [A.no (byt_btw (by decide) (by decide))]
    rw [Alk.tk eq z, g.e3]
    dsimp only
    rcases Nat.lt_or_ge m b with y | y
    · rw [b3 A (by omega) y]
    rw [b2 y]
    dsimp only
    unfold decRem
    rw [c3 A y hc]
end Dk

set_option Elab.async false
set_option linter.all false
set_option maxRecDepth 100000
set_option maxHeartbeats 4000000
namespace Dk
open PySem PySem.Spec PyProof.Rows L2 TL
theorem byt_sum (x : Int) : Byt (fun y => decide (y ∈ [x % 256])) := fun y h => by
  have h := of_decide_eq_true h
  rw [List.mem_singleton.mp h]
  have := Int.emod_nonneg x (show (256 : Int) ≠ 0 by decide)
  have := Int.emod_lt_of_pos x (show (0 : Int) < 256 by decide)
  omega
theorem dL_len (ns : List Int) : (dL ns).length = ns.length := List.length_map _
theorem enc_len (ts : List Str) (kk : Int) (cs : List Int) (rs : List Pr) : (enc ts kk cs rs).length = (encB ts kk cs rs).length + 1 := by unfold enc; rw [List.length_append]; rfl
section
variable {ts : List Str} {kk : Int} {cs : List Int} {rs : List Pr}
/-- a place that holds no byte -/
theorem dec_bad (hP : Parts ts kk cs rs) {es : List PyData} {m : Nat} (A : Alk (dL (enc ts kk cs rs)) es m) (hm : m < (enc ts kk cs rs).length) : decR es = .error m := by
  obtain ⟨a, b, g⟩ := stages hP
  obtain ⟨h1, h2⟩ := stg_mono g hP (m := m) A.eq
  rw [enc_len] at hm
  rcases Nat.lt_or_ge m (encB ts kk cs rs).length with z | z
  · exact h2 A z
  · have e : m = (encB ts kk cs rs).length := by omega
    rw [h1 z, ← e]
    unfold decEnd
    rw [A.no (byt_sum _)]
theorem dec_cut (hP : Parts ts kk cs rs) {m : Nat} (hm : m < (enc ts kk cs rs).length) : decR ((dL (enc ts kk cs rs)).take m) = .error m :=
  dec_bad hP ⟨fun j hj => List.getElem?_take_of_lt hj, fun x e => by
    rw [List.getElem?_eq_none (by rw [List.length_take]; exact Nat.min_le_left _ _)] at e; cases e⟩ hm
theorem dec_odd (hP : Parts ts kk cs rs) {m : Nat} (hm : m < (enc ts kk cs rs).length) {d : PyData} {q : List PyData} (hd : ∀ x, d = .int x → x < 0 ∨ 255 < x) : decR ((dL (enc ts kk cs rs)).take m ++ (d :: q)) = .error m := by
  have hl : ((dL (enc ts kk cs rs)).take m).length = m := by rw [List.length_take, dL_len]; omega
  refine dec_bad hP ⟨fun j hj => ?_, fun x e => ?_⟩ hm
  · rw [List.getElem?_append_left (by omega)]
    exact List.getElem?_take_of_lt hj
  · rw [List.getElem?_append_right (by omega), hl, Nat.sub_self] at e
    exact hd x (Option.some.inj e)
theorem sumD_dL (ns : List Int) : sumD (dL ns) = ns.sum := by
  unfold sumD dL
  rw [List.map_map]
  have : (intD ∘ PyData.int) = (id : Int → Int) := rfl
  rw [this, List.map_id]
theorem dec_tail (hP : Parts ts kk cs rs) (q : List PyData) : decR (dL (encB ts kk cs rs) ++ q) = decEnd (dL (encB ts kk cs rs) ++ q) (encB ts kk cs rs).length ⟨ts, kk, cs, rs⟩ := by
  obtain ⟨a, b, g⟩ := stages hP
  refine (stg_mono g hP (m := (encB ts kk cs rs).length) fun j hj => ?_).1 (Nat.le_refl _)
  rw [List.getElem?_append_left (by rw [dL_len]; exact hj)]
  unfold enc dL
  rw [List.map_append, List.getElem?_append_left (by rw [List.length_map]; exact hj)]
theorem take_encB (q : List PyData) : (dL (encB ts kk cs rs) ++ q).take (encB ts kk cs rs).length = dL (encB ts kk cs rs) := List.take_left' (dL_len _)
theorem dec_wrong (hP : Parts ts kk cs rs) {y : Int} (hy : y ≠ (encB ts kk cs rs).sum % 256) : decR (dL (encB ts kk cs rs) ++ [.int y]) = .error (encB ts kk cs rs).length := by
  rw [dec_tail hP]
  unfold decEnd
  rw [take_encB, sumD_dL]
  have : tkD (dL (encB ts kk cs rs) ++ [PyData.int y]) (encB ts kk cs rs).length (fun x => decide (x ∈ [(encB ts kk cs rs).sum % 256])) = none := by
    unfold tkD
    rw [List.getElem?_append_right (by rw [dL_len]; exact Nat.le_refl _), dL_len, Nat.sub_self]
    show (if decide (y ∈ [(encB ts kk cs rs).sum % 256]) = true then some y else none) = none
    rw [if_neg (fun z => hy (List.mem_singleton.mp (of_decide_eq_true z)))]
  rw [this]
theorem dec_more (hP : Parts ts kk cs rs) (d : PyData) (q : List PyData) : decR (dL (enc ts kk cs rs) ++ (d :: q)) = .error (enc ts kk cs rs).length := by
  have e : dL (enc ts kk cs rs) ++ (d :: q) = dL (encB ts kk cs rs) ++ (.int ((encB ts kk cs rs).sum % 256) :: d :: q) := by
    unfold enc dL
    rw [List.map_append, List.append_assoc]; rfl
  rw [e, dec_tail hP]
  unfold decEnd
  rw [take_encB, sumD_dL]
  have : tkD (dL (encB ts kk cs rs) ++ (PyData.int ((encB ts kk cs rs).sum % 256) :: d :: q)) (encB ts kk cs rs).length (fun x => decide (x ∈ [(encB ts kk cs rs).sum % 256])) = some ((encB ts kk cs rs).sum % 256) := by
    unfold tkD
    rw [List.getElem?_append_right (by rw [dL_len]; exact Nat.le_refl _), dL_len, Nat.sub_self]
    show (if decide ((encB ts kk cs rs).sum % 256 ∈ [(encB ts kk cs rs).sum % 256]) = true then some _ else none) = _
    rw [if_pos (decide_eq_true (List.mem_singleton.mpr rfl))]
  rw [this]
  dsimp only
  rw [if_pos (by rw [List.length_append, dL_len, List.length_cons, List.length_cons]; omega), enc_len]
end
def head7 : List Int := [75, 2, 2, 1, 0, 1, 1]
theorem c0 (t : List PyData) : decR (dL [74] ++ t) = .error 0 := rfl
theorem c4 (t : List PyData) : decR (dL [75, 1, 25] ++ t) = .error 2 := rfl
theorem c6 (t : List PyData) : decR (dL [75, 1, 2, 2] ++ t) = .error 3 := rfl
theorem c7 (t : List PyData) : decR (dL (head7 ++ [10]) ++ t) = .error 7 := rfl
theorem c8 (t : List PyData) : decR (dL (head7 ++ [1, 3]) ++ t) = .error 8 := rfl
theorem c17 (t : List PyData) : decR (dL (head7 ++ [1, 0, 2, 1, 1, 1, 0]) ++ t) = .error 13 := rfl
theorem cL : decR (dL ((head7 ++ [9, 2, 0, 1, 2, 0, 1, 1, 0]) ++ [(head7 ++ [9, 2, 0, 1, 2, 0, 1, 1, 0]).sum % 256])) = .ok ⟨[⟨#[104, 111]⟩, ⟨#[104]⟩], 9, [0, 1], [(0, 1), (1, 0)]⟩ := rfl
end Dk

set_option Elab.async false
set_option linter.all false
set_option maxRecDepth 100000
set_option maxHeartbeats 2000000
/-! isinstance(e, c), e an exception with fields of its own -/
namespace DkI
open PySem PySem.Spec PySem.Calls PyProof.Rows PySem.W
section
variable {prog : Program} {w : World} {A : Around} {E : Value → Shared → Prop} {s : Shared} {K : Frag} {x D : Addr} {ox ob : Obj}
theorem class_of_err {Q : Option Value → Shared → Prop} (C : L2.ExcC K D) (X : K.In s.heap) (I : InstAt s.heap x ox D (some ob)) (h : Q (some (.ref D)) { s with toks := s.toks + 1 }) : wpAny (model prog w) A (getAttr? (.ref x) "__class__") Q E s := by
  have cD : (clsIn K D).isSome = true := by obtain ⟨_, e, _⟩ := any_some C.hd; rw [e]; rfl
  cases s with
  | mk h0 g0 d0 t0 o0 =>
    have T0 := I.type (M := model prog w)
    have T1 : Looks (model prog w) h0 (isInstance (.ref x) (.type "BaseException")) true := T0.andThen (looks_subIn X C.hs)
    have n1 : (Value.builtin "BaseException.__getattribute__" == Value.builtin "object.__getattribute__") = false := by decide +kernel
    have n2 : (onTheHeap (Value.ref D) && Value.builtin "BaseException.__getattribute__" == Value.builtin "object.__getattribute__") = false := by rw [n1]; rfl
    unfold getAttr? getAttrBy? getAttrBy
    refine wpAny_bind (wpAny_mkText ?_)
    refine wpAny_bind (wpAny_attempt (wpAny_holding ?_))
    refine wpAny_bind (T0.at ?_)
    refine wpAny_bind ((looks_findIn (M := model prog w) X C.hg).at ?_)
    show wpAny _ _ (if (onTheHeap (Value.ref D) && Value.builtin "BaseException.__getattribute__" == Value.builtin "object.__getattribute__") = true then _ else _) _ _ _
    rw [n2, if_neg Bool.false_ne_true]
    unfold getAttrByItsOwn hookBefore
    refine wpAny_bind ?_
    rw [if_pos (show onTheHeap (Value.ref D) = true from rfl)]
    refine (looks_findIn (M := model prog w) X C.hk).at (wpAny_bind (wpAny_attempt (wpAny_holding ?_)))
    unfold callGetattribute
    rw [show (false && onTheHeap (Value.builtin "BaseException.__getattribute__")) = false from rfl, if_neg Bool.false_ne_true]
    unfold boundAndCalled
    rw [PySem.F.excAttr_ValueError.ga.bind (.ref x)]
    refine wpAny_bind (wpAny_pure ?_)
    show wpAny _ _ (call (.builtin "BaseException.__getattribute__") [.ref x, .str "__class__" t0]) _ _ _
    refine wpAny_call (codeAny_call_builtin PySem.F.excAttr_ValueError.ga.plain PySem.F.entry_bexc_ga ?_)
    refine @check_slot (model prog w) _ _ ⟨h0, g0, d0, t0 + 1, o0⟩ "BaseException.__getattribute__" "BaseException" "__getattribute__" (.ref x) [.str "__class__" t0] [] _ (by decide +kernel) (by decide +kernel) T1 (PySem.F.args_bexc_ga (.ref x) (.str "__class__" t0)) ?_
    unfold Builtin.«object.__getattribute__»
    refine wpAny_bind (wpAny_of_eq (a := ((Value.ref x : Value), [Value.str "__class__" t0])) (by first | rfl | (simp only [slotArgs]; rfl)) ?_)
    refine wpAny_bind (wpAny_pure (wpAny_bind (T0.at ?_)))
    refine wpAny_bind ((looks_find (M := model prog w) X I (findObj_data cD C.ha C.hn C.ht)).at ?_)
    show wpAny _ _ (holding [Value.builtin "object.__class__"] (call (.builtin "getset_descriptor.__get__") [.builtin "object.__class__", .ref x, .ref D]) >>= ret) _ _ _
    refine wpAny_bind (wpAny_holding (wpAny_call (class_get (s := ⟨h0, g0, d0, t0 + 1, o0⟩) (ox := ox) (od := some ob) (tp := .ref D) X I C.hm ?_)))
    refine wpAny_pure ?_
    show wpAny _ _ (handedOut (.ref D)) _ _ _
    rw [handedOut_of (v := .ref D) rfl]
    first
      | exact wpAny_pure (wpAny_pure h)
      | exact wpAny_pure h
      | exact wpAny_pure (wpAny_bind (wpAny_pure (wpAny_pure h)))
theorem kit_err (C : L2.ExcC K D) : KitX K (.ref x) (.ref D) (fun h => InstAt h x ox D (some ob)) where
  ty := fun _ _ _ I => I.type
  it := fun M h X _ => by
    obtain ⟨cd, e, _⟩ := any_some C.hd
    unfold clsIn at e
    split at e
    · rename_i a b c d ho
      intro A' Q' E' s' k q
      unfold isType loadHead
      exact wpAny_bind (wpAny_loadPart (k _ _ (X _ _ ho)) (wpAny_pure q))
    · cases e
  ne := fun h tp dd its n sl X htp => by
    obtain ⟨cd, e, _⟩ := any_some C.hd
    refine Bool.eq_false_iff.mpr fun q => ?_
    have e0 : D = tp := Value.ref.inj (beq_iff_eq.mp q)
    subst e0
    unfold clsIn at e
    split at e
    · rename_i a b c d ho
      cases (X _ _ ho).symm.trans htp
    · cases e
  ca := fun X I k => class_of_err C X I k
end
end DkI
namespace Dk
open PySem PySem.Spec PyProof.Rows L2
/-- isinstance(e, c), e the exception that the suite holds, dd its dict -/
def rIsD (K : PySem.W.Frag) (D a : Addr) (cls : Value) (d : Option Addr) : List V → Hp → VK → Prop := fun xs H Q => ∃ (c : V) (cv : Value) (b : Bool) (dd : Addr) (fs : List (Str × V)), cls = .ref D ∧ d = some dd ∧ H dd = some (.xd fs) ∧ xs = [.ref a, c] ∧ (∀ u, RelV c u → u = cv) ∧ PySem.W.kitOne K (.ref D) cv = some b ∧ Q (.bl b) H
theorem call_isD {X : Cx} {a D : Addr} {oe : Obj} {cls : Value} {d : Option Addr} {pn : List (Addr × Obj)} (C : ExcC X.K D) (hz : Zc cls d oe) (hf : ∃ vs, oe.data = .fields vs) : CallR (X.suite a ((a, oe) :: pn)) (.builtin "isinstance") (rIsD X.K D a cls d) := by
  intro pins s σ H xs us Q I r h
  obtain ⟨c, cv, b, dd, fs, rfl, rfl, ea, rfl, hcv, e, q⟩ := h
  cases r with
  | cons rx rr =>
    cases rr with
    | cons rt rr =>
      cases rr
      cases rx
      have ec := hcv _ rt
      subst ec
      obtain ⟨hget, _⟩ := I.pin (a, oe) (List.mem_append.mpr (.inl List.mem_cons_self))
      obtain ⟨vs, hv⟩ := hf
      have hx : ObjOk X.prog X.w H s.heap dd (.xd fs) := I.hok dd _ ea
      obtain ⟨mA, hns, _⟩ := hx
      obtain ⟨ob, ho, _⟩ := lookIn_ns hns
      have J : PySem.W.InstAt s.heap a oe D (some ob) := ⟨hget, hz.1, by unfold PySem.W.notCls; rw [hv] <;> rfl, by rw [hz.2]; exact ho⟩
      exact PySem.W.kia_one (DkI.kit_err C) I.kIn J e (fun z => nomatch z) fun tk => ⟨.bl b, H, I.kept (t' := tk) fun _ _ z => z, rfl, q⟩
end Dk

set_option Elab.async false
set_option linter.all false
set_option maxRecDepth 100000
set_option maxHeartbeats 1000000
namespace Dk
open PySem PySem.Spec PyProof.Rows L2 TL
/-! ### heaps with a table -/
/-- all is as it was but d and the tables -/
def KpN (d : Addr) (H H' : Hp) : Prop := ∀ b o, b ≠ d → H b = some o → (∀ ps, o ≠ .tbl ps) → H' b = some o
theorem KpN.of {d : Addr} {H H' : Hp} (k : Kp d H H') : KpN d H H' := fun b o n e _ => k b o n e
theorem KpN.same {d : Addr} {H H' : Hp} (s : Same H H') : KpN d H H' := fun b o _ e _ => s b o e
theorem KpN.ext {d : Addr} {H H' : Hp} (s : LamX.ExtN H H') : KpN d H H' := fun b o _ e n => s b o e n
theorem KpN.refl {d : Addr} {H : Hp} : KpN d H H := fun _ _ _ e _ => e
theorem KpN.trans {d : Addr} {H H1 H2 : Hp} (a : KpN d H H1) (b : KpN d H1 H2) : KpN d H H2 := fun c o n e q => b c o n (a c o n e q) q
theorem KpN.tup {d : Addr} {H H' : Hp} {xs : List V} (k : KpN d H H') (hd : H d = some (.lst xs)) : ∀ t ys, H t = some (.tup ys) → H' t = some (.tup ys) := fun t ys h => k t _ (fun e => by rw [e, hd] at h; cases h) h fun ps z => by cases z
theorem tabs_kp {T : List (Addr × Str)} {d : Addr} {H H' : Hp} {xs : List V} (t : LamX.Tabs T H) (k : Kp d H H') (hd : H d = some (.lst xs)) : LamX.Tabs T H' := fun p hp => by
  obtain ⟨ps, h1, h2, h3⟩ := t p hp
  refine ⟨ps, k _ _ (fun e => by rw [e, hd] at h1; cases h1) h1, h2, fun pos cv hc => ?_⟩
  obtain ⟨c, e1, e2⟩ := h3 pos cv hc
  exact ⟨c, e1, k _ _ (fun e => by rw [e, hd] at e2; unfold LamX.CodeO at e2; cases e2) e2⟩
theorem tabs_same {T : List (Addr × Str)} {H H' : Hp} (t : LamX.Tabs T H) (s : Same H H') : LamX.Tabs T H' := t.ext s
theorem extN_same {H H' : Hp} (s : Same H H') : LamX.ExtN H H' := fun b o e _ => s b o e
theorem ExtN_lst {H H' : Hp} {a : Addr} {xs : List V} (e : LamX.ExtN H H') (h : H a = some (.lst xs)) : H' a = some (.lst xs) := e _ _ h fun ps z => by cases z
theorem ExtN_tup {H H' : Hp} {a : Addr} {xs : List V} (e : LamX.ExtN H H') (h : H a = some (.tup xs)) : H' a = some (.tup xs) := e _ _ h fun ps z => by cases z
end Dk

set_option Elab.async false
set_option linter.all false
set_option maxRecDepth 100000
set_option maxHeartbeats 1000000
namespace Dk
open PySem PySem.Spec PyProof.Rows L2 TL
/-! ### l.count(x), flat items -/
def rCntF (K : PySem.W.Frag) : V → List V → Hp → VK → Prop := fun x xs H Q => ∃ (a : Addr) (ys : List V) (y : V), x = .ref a ∧ xs = [y] ∧ SqL K H a ys ∧ flatV y = true ∧ ys.all flatV = true ∧ Q (.int ((ys.countP fun z => eqV z y : Nat) : Int)) H
theorem countP_vals {y : V} : ∀ {ys : List V} {us : List Value}, Vals ys us → ys.all flatV = true → us.countP (eqU y) = ys.countP fun z => eqV z y
  | _, _, .nil, _ => rfl
  | z :: ys, u :: us, .cons r t, f => by
    rw [List.all_cons, Bool.and_eq_true] at f
    rw [List.countP_cons, List.countP_cons, countP_vals t f.2, eqU_of r f.1]
theorem mt_countF {X : Cx} : MtR X "list.count" (rCntF X.K) := by
  intro pins s σ H x xs v us Q I rx rxs h
  obtain ⟨a, ys, y, rfl, rfl, hs, fy, fys, q⟩ := h
  cases rx
  obtain ⟨uy, rfl, ry⟩ := rxs.one
  obtain ⟨its, rv, ⟨⟨c0, dd, d0, sl⟩, n, ho, hc, _, hd⟩, _⟩ := I.list hs
  simp only at hc hd
  subst hc hd
  refine call_meets PySem.F.slot_list_count ⟨_, ho, rfl⟩ PySem.F.entry_list_count (PySem.F.args_list_count_2 _ _)
    (SeqAt.list_countAt a its.toArray n dd sl uy (eqU y)) ⟨ho, fun u' hu' => mem_eqAt ry fy rv fys u' (by simpa using hu'), ?_⟩
  refine ⟨.int ((ys.countP fun z => eqV z y : Nat) : Int), H, I.tok _, ⟨s.toks, ?_⟩, q⟩
  show Value.int ((its.toArray.toList.countP (eqU y) : Nat) : Int) s.toks = _
  rw [show its.toArray.toList.countP (eqU y) = ys.countP fun z => eqV z y from countP_vals rv fys]
/-! ### the kind of an error -/
def errNames : List Str := ["tick", "person", "limit", "different", "waiting", "contradiction", "name", "unknown", "house", "text", "code", "operation"]
structure TxtN (mg : Str → Option Value) (cs : Nat → Addr) (CE : Addr) : Prop where
  gE : mg "HouseError" = some (.ref CE)
  n0 : mg "InvalidTick" = some (.ref (cs 0))
  n1 : mg "UnknownPerson" = some (.ref (cs 1))
  n2 : mg "InvalidLimit" = some (.ref (cs 2))
  n3 : mg "DifferentHouses" = some (.ref (cs 3))
  n4 : mg "InvalidWaiting" = some (.ref (cs 4))
  n5 : mg "Contradiction" = some (.ref (cs 5))
  n6 : mg "InvalidName" = some (.ref (cs 6))
  n7 : mg "UnknownName" = some (.ref (cs 7))
  n8 : mg "InvalidHouse" = some (.ref (cs 8))
  n9 : mg "TextFault" = some (.ref (cs 9))
  n10 : mg "InvalidCode" = some (.ref (cs 10))
  n11 : mg "InvalidOperation" = some (.ref (cs 11))
  vE : mg "ValueError" = none
  isi : mg "isinstance" = none
/-- the class at D is the j-th -/
structure ErrKit (K : PySem.W.Frag) (cs : Nat → Addr) (CE D : Addr) (j : Nat) : Prop where
  at_ : ∀ i, i < 12 → PySem.W.kitOne K (.ref D) (.ref (cs i)) = some (decide (i = j))
  v : PySem.W.kitOne K (.ref D) (.type "ValueError") = some true
  ex : PySem.W.exmOne K (.ref D) (.ref CE) = some true
  C : ExcC K D
/-- isinstance(e, c) -/
def rIsX (K : PySem.W.Frag) (a : Addr) (cls : Value) (d : Option Addr) : List V → Hp → VK → Prop := fun xs H Q => ∃ (D : Addr) (_ : ExcC K D), rIsD K D a cls d xs H Q
theorem call_isX {X : Cx} {a : Addr} {oe : Obj} {cls : Value} {d : Option Addr} {pn : List (Addr × Obj)} (hz : Zc cls d oe) (hf : ∃ vs, oe.data = .fields vs) : CallR (X.suite a ((a, oe) :: pn)) (.builtin "isinstance") (rIsX X.K a cls d) := by
  intro pins s σ H xs us Q I r h
  obtain ⟨D, C, h⟩ := h
  exact call_isD C hz hf pins s σ H xs us Q I r h

/-- isinstance(e, c), e with fields or without -/
def rIsY (K : PySem.W.Frag) (a : Addr) (cls : Value) (d : Option Addr) : List V → Hp → VK → Prop := fun xs H Q => (d = none ∧ ∃ D, ExcC K D ∧ cls = .ref D ∧ rIsE K D a xs H Q) ∨ rIsX K a cls d xs H Q
theorem call_isY {X : Cx} {a : Addr} {oe : Obj} {cls : Value} {d : Option Addr} {pn : List (Addr × Obj)} (hz : Zc cls d oe) (hf : ∃ vs, oe.data = .fields vs) : CallR (X.suite a ((a, oe) :: pn)) (.builtin "isinstance") (rIsY X.K a cls d) := by
  intro pins s σ H xs us Q I r h
  rcases h with ⟨rfl, D, C, rfl, h⟩ | h
  · exact call_isE C hz hf pins s σ H xs us Q I r h
  · exact call_isX hz hf pins s σ H xs us Q I r h
/-- e.n, whatever the class that has it -/
def tXf2 (K : PySem.W.Frag) (a : Addr) (cls : Value) (d : Option Addr) (n : Str) : TE := fun σ H Q => σ[1]? = some (some (.ref a)) ∧ ∃ C, XfC K C ∧ PySem.W.findIn K (.ref C) n = some none ∧ cls = .ref C ∧ ∃ (dd : Addr) (fs : List (Str × V)) (v : V), d = some dd ∧ H dd = some (.xd fs) ∧ fs.lookup n = some v ∧ Q v H
theorem pe_xf2 {X : Cx} {a : Addr} {oe : Obj} {cls : Value} {d : Option Addr} {pn : List (Addr × Obj)} {e : Expr} {pos : Pos} {n : Str} (hz : Zc cls d oe) (hf : ∃ vs, oe.data = .fields vs) (he : PE (X.suite a ((a, oe) :: pn)) e (tVar 1)) (hb : attributeBase e n X.env (eval e X.env) = eval e X.env := by rfl) :
    PE (X.suite a ((a, oe) :: pn)) (.Attribute e n pos) (tXf2 X.K a cls d n) := by
  refine ⟨fun pins s σ H Q I h => ?_⟩
  obtain ⟨h1, C, XC, hno, rfl, dd, fs, v, rfl, h2, h3, h4⟩ := h
  exact (pe_xf XC hno hz hf he hb).run pins s σ H Q I ⟨_, h1, rfl, rfl, dd, fs, v, rfl, h2, h3, h4⟩
def DOk (d : Option Addr) (H : Hp) : Prop := d = none ∨ ∃ dd fs, d = some dd ∧ H dd = some (.xd fs)
theorem DOk.mono {d : Option Addr} {H H' : Hp} (h : DOk d H) (s : Same H H') : DOk d H' := by
  rcases h with h | ⟨dd, fs, h1, h2⟩
  · exact .inl h
  · exact .inr ⟨dd, fs, h1, s _ _ h2⟩
abbrev nErr : List Str := ["_law_call", "e", "_law_kinds", "_law_names", "_law_name"]
def errAt (j : Nat) : Str := errNames.getD j (Str.ofString "")
/-- what the call's error must tell: (word, value) -/
def EErr (cs : Nat → Addr) (J : List Nat) (Q : VK) : XK := fun cls d H => ∃ j, j ∈ J ∧ cls = .ref (cs j) ∧
  ((j < 8 ∧ d = none ∧ ∀ (H' : Hp) (p : Addr), Same H H' → H' p = some (.tup [.str (errAt j), .int 0]) → Q (.ref p) H') ∨
   (j = 8 ∧ ∃ (part : Str) (i : Int) (dd : Addr), d = some dd ∧ H dd = some (.xd [("index", .int i), ("part", .str part)]) ∧
      ∀ (H' : Hp) (p t : Addr), Same H H' → H' t = some (.tup [.str part, .int i]) → H' p = some (.tup [.str (Str.ofString "house"), .ref t]) → Q (.ref p) H') ∨
   (j = 9 ∧ ∃ (i : Int) (dd : Addr), d = some dd ∧ H dd = some (.xd [("line", .int i)]) ∧ ∀ (H' : Hp) (p : Addr), Same H H' → H' p = some (.tup [.str (Str.ofString "text"), .int i]) → Q (.ref p) H') ∨
   (10 ≤ j ∧ ∃ (i : Int) (dd : Addr), d = some dd ∧ H dd = some (.xd [("place", .int i)]) ∧ ∀ (H' : Hp) (p : Addr), Same H H' → H' p = some (.tup [.str (errAt j), .int i]) → Q (.ref p) H'))
def TErr (cs : Nat → Addr) (J : List Nat) : (XK → Hp → VK → Prop) → Hp → VK → Prop := fun tl H Q => tl (EErr cs J Q) H fun _ H' => Q .non H'
theorem scErr : FnScope nErr ["_law_call"] (defScope sErrOf) := ⟨rfl, rfl, rfl, by decide +kernel, rfl, by decide +kernel, by decide +kernel⟩
/-- all classes of errors -/
structure ErK (K : PySem.W.Frag) (cs : Nat → Addr) (CE : Addr) (J : List Nat) : Prop where
  lt : ∀ j ∈ J, j < 12
  kit : ∀ j ∈ J, ErrKit K cs CE (cs j) j
  x8 : XfC K (cs 8)
  x9 : XfC K (cs 9)
  nP : PySem.W.findIn K (.ref (cs 8)) "part" = some none
  nI : PySem.W.findIn K (.ref (cs 8)) "index" = some none
  nL : PySem.W.findIn K (.ref (cs 9)) "line" = some none
  x10 : ∀ j ∈ J, 10 ≤ j → XfC K (cs j) ∧ PySem.W.findIn K (.ref (cs j)) "place" = some none
section
variable {P : Program} {w : World} {K : PySem.W.Frag} {mg : Str → Option Value} {base : Heap} {cs : Nat → Addr} {CE : Addr} {J : List Nat}
def flags (j : Nat) : List V := (List.range 12).map fun i => V.bl (decide (i = j))
theorem flags_flat (j : Nat) : (flags j).all flatV = true := by
  refine List.all_eq_true.mpr fun x hx => ?_
  obtain ⟨i, _, rfl⟩ := List.mem_map.mp hx
  rfl
theorem flags_at {j m : Nat} {z : V} (h : (flags j)[m]? = some z) : z = .bl (decide (m = j)) := by
  unfold flags at h
  rw [List.getElem?_map] at h
  cases e : (List.range 12)[m]? with
  | none => rw [e] at h; cases h
  | some i =>
    rw [e] at h
    have hi := List.getElem?_eq_some_iff.mp e
    obtain ⟨h1, h2⟩ := hi
    rw [List.getElem_range] at h2
    subst h2
    exact (Option.some.inj h).symm
theorem flags_no {j m : Nat} {z : V} (hm : m < j) (h : (flags j)[m]? = some z) : eqV z (.bl true) = false := by
  rw [flags_at h, decide_eq_false (by omega)]; rfl
theorem flags_yes {j : Nat} (h : j < 12) : (flags j)[j]? = some (.bl true) := by
  unfold flags
  rw [List.getElem?_map, List.getElem?_range h]
  show some (V.bl (decide (j = j))) = _
  rw [decide_eq_true rfl]
theorem flags_one {j : Nat} (h : j < 12) : (flags j).countP (fun z => eqV z (.bl true)) = 1 := by
  have : j = 0 ∨ j = 1 ∨ j = 2 ∨ j = 3 ∨ j = 4 ∨ j = 5 ∨ j = 6 ∨ j = 7 ∨ j = 8 ∨ j = 9 ∨ j = 10 ∨ j = 11 := by omega
  rcases this with rfl | rfl | rfl | rfl | rfl | rfl | rfl | rfl | rfl | rfl | rfl | rfl <;> rfl
theorem is_step {K : PySem.W.Frag} {cs : Nat → Addr} {CE D0 a : Addr} {d : Option Addr} {j i : Nat} {H : Hp} {Q : VK} (EK : ErrKit K cs CE D0 j) (e : DOk d H) (hi : i < 12) (q : Q (.bl (decide (i = j))) H) :
    rIsY K a (.ref D0) d [.ref a, .ref (cs i)] H Q := by
  rcases e with rfl | ⟨dd, fs, rfl, e⟩
  · exact .inl ⟨rfl, D0, EK.C, rfl, .ref (cs i), .ref (cs i), _, rfl, fun _ z => z, EK.at_ i hi, q⟩
  · exact .inr ⟨D0, EK.C, .ref (cs i), .ref (cs i), _, dd, fs, rfl, rfl, e, rfl, fun _ z => z, EK.at_ i hi, q⟩
theorem ve_step {K : PySem.W.Frag} {cs : Nat → Addr} {CE D0 a : Addr} {d : Option Addr} {j : Nat} {H : Hp} {Q : VK} (EK : ErrKit K cs CE D0 j) (e : DOk d H) (q : Q (.bl true) H) :
    rIsY K a (.ref D0) d [.ref a, .ty "ValueError"] H Q := by
  rcases e with rfl | ⟨dd, fs, rfl, e⟩
  · exact .inl ⟨rfl, D0, EK.C, rfl, .ty "ValueError", .type "ValueError", _, rfl, fun _ z => z, EK.v, q⟩
  · exact .inr ⟨D0, EK.C, .ty "ValueError", .type "ValueError", _, dd, fs, rfl, rfl, e, rfl, fun _ z => z, EK.v, q⟩
abbrev cxE (X : Cx) (g : Addr) (cdg : Value) (s : Shared) (H : Hp) : Cx := (cxOf C8.CX0 X.prog X.w X.K X.mg X.base nErr "_law_error_of" (defScope sErrOf) g cdg X.A X.stack s H C8.E0).nox
abbrev suiteE : List Stmt := match defBody sErrOf with
  | .Try _ [.ExceptHandler _ _ b _] _ _ _ :: _ => b
  | _ => []
abbrev bodyE : List Stmt := match defBody sErrOf with
  | .Try b _ _ _ _ :: _ => b
  | _ => []
def tsS0 (cs : Nat → Addr) (J : List Nat) (a : Addr) (cls : Value) (d : Option Addr) : TS := fun D σ H => (∃ v0 v2 v3 v4, σ = [v0, some (.ref a), v2, v3, v4]) ∧ EErr cs J D.rt cls d H
def tsS (cs : Nat → Addr) (J : List Nat) (a : Addr) (cls : Value) (d : Option Addr) : TS := fun D σ H => (∃ σ0 : L2.St, σ = σ0.set 1 (some (.ref a))) ∧ EErr cs J D.rt cls d H
theorem five {σ0 : L2.St} {a : Addr} (h : (σ0.set 1 (some (V.ref a))).length = 5) : ∃ v0 v2 v3 v4, σ0.set 1 (some (V.ref a)) = [v0, some (.ref a), v2, v3, v4] := by
  rw [List.length_set] at h
  match σ0, h with
  | [v0, _, v2, v3, v4], _ => exact ⟨v0, v2, v3, v4, rfl⟩
theorem suite_ok {X : Cx} {g : Addr} {cdg : Value} {s : Shared} {H : Hp} (N : TxtN X.mg cs CE) (EK' : ErK X.K cs CE J) (hu : X.A.units + 100 < cLine)
    {a : Addr} {oe : Obj} {cls : Value} {d : Option Addr} {pn : List (Addr × Obj)} (hz : Zc cls d oe) (hf : ∃ vs, oe.data = .fields vs) : PSs ((cxE X g cdg s H).suite a ((a, oe) :: pn)) suiteE (tsS cs J a cls d) := by
  have isi : ((cxE X g cdg s H).suite a ((a, oe) :: pn)).mg "isinstance" = none := N.isi
  have hh : ∃ t, PSs ((cxE X g cdg s H).suite a ((a, oe) :: pn)) suiteE t ∧ ∀ D σ H', tsS0 cs J a cls d D σ H' → t D σ H' := by
    have hu2 : ((cxE X g cdg s H).suite a ((a, oe) :: pn)).A.units + 65 < cLine := by
      show X.A.units + 3 + 65 < cLine
      omega
    refine ⟨_, (pss_cons (ps_set (i := 2) scErr.nd rfl (.inl rfl) (pe_lst (pa_cons (pe_callB (call_isY hz hf) (by rfl) N.isi (by decide +kernel) (pa_cons (pv 1) (pa_cons (pe_glob (v := .ref (cs 0)) (by rfl) N.n0 rfl) pa_nil))) (pa_cons (pe_callB (call_isY hz hf) (by rfl) N.isi (by decide +kernel) (pa_cons (pv 1) (pa_cons (pe_glob (v := .ref (cs 1)) (by rfl) N.n1 rfl) pa_nil))) (pa_cons (pe_callB (call_isY hz hf) (by rfl) N.isi (by decide +kernel) (pa_cons (pv 1) (pa_cons (pe_glob (v := .ref (cs 2)) (by rfl) N.n2 rfl) pa_nil))) pa_nil)))))
      (pss_cons (ps_set (i := 2) scErr.nd rfl (.inl rfl) (pe_op op_cat (pv 2) (pe_lst (pa_cons (pe_callB (call_isY hz hf) (by rfl) N.isi (by decide +kernel) (pa_cons (pv 1) (pa_cons (pe_glob (v := .ref (cs 3)) (by rfl) N.n3 rfl) pa_nil))) (pa_cons (pe_callB (call_isY hz hf) (by rfl) N.isi (by decide +kernel) (pa_cons (pv 1) (pa_cons (pe_glob (v := .ref (cs 4)) (by rfl) N.n4 rfl) pa_nil))) (pa_cons (pe_callB (call_isY hz hf) (by rfl) N.isi (by decide +kernel) (pa_cons (pv 1) (pa_cons (pe_glob (v := .ref (cs 5)) (by rfl) N.n5 rfl) pa_nil))) pa_nil))))))
      (pss_cons (ps_set (i := 2) scErr.nd rfl (.inl rfl) (pe_op op_cat (pv 2) (pe_lst (pa_cons (pe_callB (call_isY hz hf) (by rfl) N.isi (by decide +kernel) (pa_cons (pv 1) (pa_cons (pe_glob (v := .ref (cs 6)) (by rfl) N.n6 rfl) pa_nil))) (pa_cons (pe_callB (call_isY hz hf) (by rfl) N.isi (by decide +kernel) (pa_cons (pv 1) (pa_cons (pe_glob (v := .ref (cs 7)) (by rfl) N.n7 rfl) pa_nil))) (pa_cons (pe_callB (call_isY hz hf) (by rfl) N.isi (by decide +kernel) (pa_cons (pv 1) (pa_cons (pe_glob (v := .ref (cs 8)) (by rfl) N.n8 rfl) pa_nil))) pa_nil))))))
      (pss_cons (ps_set (i := 2) scErr.nd rfl (.inl rfl) (pe_op op_cat (pv 2) (pe_lst (pa_cons (pe_callB (call_isY hz hf) (by rfl) N.isi (by decide +kernel) (pa_cons (pv 1) (pa_cons (pe_glob (v := .ref (cs 9)) (by rfl) N.n9 rfl) pa_nil))) (pa_cons (pe_callB (call_isY hz hf) (by rfl) N.isi (by decide +kernel) (pa_cons (pv 1) (pa_cons (pe_glob (v := .ref (cs 10)) (by rfl) N.n10 rfl) pa_nil))) (pa_cons (pe_callB (call_isY hz hf) (by rfl) N.isi (by decide +kernel) (pa_cons (pv 1) (pa_cons (pe_glob (v := .ref (cs 11)) (by rfl) N.n11 rfl) pa_nil))) pa_nil))))))
      (pss_cons (ps_if (PW.pt (pw_or (pt_cmpR op_ne (pe_bm PySem.F.plainAttrs_list PySem.F.slot_list_count PySem.F.type_list_count mt_countF (pv 2) (pa_cons pe_bl pa_nil)) pe_int (nomark _)) (pw_or1 (pt_not (pt_val (pe_callB (call_isY hz hf) (by rfl) N.isi (by decide +kernel) (pa_cons (pv 1) (pa_cons (pe_bltn (v := .ty "ValueError") (by rfl) N.vE (by decide +kernel) rfl) pa_nil)))))))) (pss_one (ps_ret (pe_tup (pa_cons pe_str (pa_cons pe_int pa_nil))))) pss_nil)
      (pss_cons (ps_set (i := 3) scErr.nd rfl (.inl rfl) (pe_lst (pa_cons pe_str (pa_cons pe_str (pa_cons pe_str (pa_cons pe_str (pa_cons pe_str (pa_cons pe_str (pa_cons pe_str (pa_cons pe_str (pa_cons pe_str (pa_cons pe_str pa_nil))))))))))))
      (pss_cons (ps_set (i := 4) scErr.nd rfl (.inl rfl) (pe_ix ix_list (pe_op op_cat (pv 3) (pe_lst (pa_cons pe_str (pa_cons pe_str pa_nil)))) (pe_bm PySem.F.plainAttrs_list PySem.F.slot_list_index PySem.F.type_list_index mt_index (pv 2) (pa_cons pe_bl pa_nil)) (fun _ _ => rfl)))
      (pss_cons (ps_if (pt_cmpR op_eq (pv 4) pe_str (nomark _)) (pss_one (ps_ret (pe_tup (pa_cons (pv 4) (pa_cons (pe_tup (pa_cons (pe_xf EK'.x8 EK'.nP hz hf (pv 1)) (pa_cons (pe_xf EK'.x8 EK'.nI hz hf (pv 1)) pa_nil))) pa_nil))))) pss_nil)
      (pss_cons (ps_if (pt_cmpR op_eq (pv 4) pe_str (nomark _)) (pss_one (ps_ret (pe_tup (pa_cons (pv 4) (pa_cons (pe_xf EK'.x9 EK'.nL hz hf (pv 1)) pa_nil))))) pss_nil)
      (pss_one (ps_ret (pe_tup (pa_cons (pv 4) (pa_cons (pe_ifExp (pt_cmpR op_in_seq (pv 4) (pe_lst (pa_cons pe_str (pa_cons pe_str pa_nil))) (by rfl)) (pe_xf2 hz hf (pv 1)) pe_int) pa_nil)))))))))))))), fun D σ H' h => ?_⟩
    obtain ⟨⟨v0, v2, v3, v4, rfl⟩, h⟩ := h
    obtain ⟨j, hjJ, ecls, fin⟩ := h
    have j12 := EK'.lt j hjJ
    have EK := EK'.kit j hjJ
    have edd : DOk d H' := by
      rcases fin with ⟨_, e, _⟩ | ⟨_, _, _, dd, e, e2, _⟩ | ⟨_, _, dd, e, e2, _⟩ | ⟨_, _, dd, e, e2, _⟩
      · exact .inl e
      · exact .inr ⟨dd, _, e, e2⟩
      · exact .inr ⟨dd, _, e, e2⟩
      · exact .inr ⟨dd, _, e, e2⟩
    subst ecls
    -- the kinds
    refine ⟨_, rfl, is_step EK edd (by decide) ⟨_, rfl, is_step EK edd (by decide) ⟨_, rfl, is_step EK edd (by decide) ⟨by show 3 ≤ sizeLine; decide, fun l1 hl1 => ?_⟩⟩⟩⟩
    have s1 := same_upd (o := .lst [.bl (decide (0 = j)), .bl (decide (1 = j)), .bl (decide (2 = j))]) hl1
    have e1 : (upd H' l1 (.lst [.bl (decide (0 = j)), .bl (decide (1 = j)), .bl (decide (2 = j))])) l1 = some (.lst [.bl (decide (0 = j)), .bl (decide (1 = j)), .bl (decide (2 = j))]) := upd_same
    generalize upd H' l1 (.lst [.bl (decide (0 = j)), .bl (decide (1 = j)), .bl (decide (2 = j))]) = H1 at s1 e1
    refine ⟨_, rfl, _, rfl, is_step EK (edd.mono s1) (by decide) ⟨_, rfl, is_step EK (edd.mono s1) (by decide) ⟨_, rfl, is_step EK (edd.mono s1) (by decide) ⟨by show 3 ≤ sizeLine; decide, fun l2 hl2 => ?_⟩⟩⟩⟩
    have s2 := s1.trans (same_upd (o := .lst [.bl (decide (3 = j)), .bl (decide (4 = j)), .bl (decide (5 = j))]) hl2)
    have e1' := same_upd (o := .lst [.bl (decide (3 = j)), .bl (decide (4 = j)), .bl (decide (5 = j))]) hl2 _ _ e1
    have e2 : (upd H1 l2 (.lst [.bl (decide (3 = j)), .bl (decide (4 = j)), .bl (decide (5 = j))])) l2 = some (.lst [.bl (decide (3 = j)), .bl (decide (4 = j)), .bl (decide (5 = j))]) := upd_same
    refine ⟨l1, l2, _, _, rfl, rfl, e1', e2, by show 3 + 3 ≤ sizeLine; decide, fun p1 hp1 => ?_⟩
    have s3 := s2.trans (same_upd (o := .lst ([.bl (decide (0 = j)), .bl (decide (1 = j)), .bl (decide (2 = j))] ++ [.bl (decide (3 = j)), .bl (decide (4 = j)), .bl (decide (5 = j))])) hp1)
    have f1 : (upd (upd H1 l2 (.lst [.bl (decide (3 = j)), .bl (decide (4 = j)), .bl (decide (5 = j))])) p1 (.lst ([.bl (decide (0 = j)), .bl (decide (1 = j)), .bl (decide (2 = j))] ++ [.bl (decide (3 = j)), .bl (decide (4 = j)), .bl (decide (5 = j))]))) p1 = some (.lst (([.bl (decide (0 = j)), .bl (decide (1 = j)), .bl (decide (2 = j))] ++ [.bl (decide (3 = j)), .bl (decide (4 = j)), .bl (decide (5 = j))]))) := upd_same
    generalize upd (upd H1 l2 (.lst [.bl (decide (3 = j)), .bl (decide (4 = j)), .bl (decide (5 = j))])) p1 (.lst ([.bl (decide (0 = j)), .bl (decide (1 = j)), .bl (decide (2 = j))] ++ [.bl (decide (3 = j)), .bl (decide (4 = j)), .bl (decide (5 = j))])) = H2 at s3 f1
    generalize eA : ([.bl (decide (0 = j)), .bl (decide (1 = j)), .bl (decide (2 = j))] ++ [.bl (decide (3 = j)), .bl (decide (4 = j)), .bl (decide (5 = j))] : List V) = A6 at f1
    have lA : A6.length = 6 := by rw [← eA]; rfl
    clear e1' e2 s1 s2 e1 hl1 hl2 hp1
    refine ⟨_, rfl, _, rfl, is_step EK (edd.mono s3) (by decide) ⟨_, rfl, is_step EK (edd.mono s3) (by decide) ⟨_, rfl, is_step EK (edd.mono s3) (by decide) ⟨by show 3 ≤ sizeLine; decide, fun l3 hl3 => ?_⟩⟩⟩⟩
    have s4 := s3.trans (same_upd (o := .lst [.bl (decide (6 = j)), .bl (decide (7 = j)), .bl (decide (8 = j))]) hl3)
    have f1' := same_upd (o := .lst [.bl (decide (6 = j)), .bl (decide (7 = j)), .bl (decide (8 = j))]) hl3 _ _ f1
    have e3 : (upd H2 l3 (.lst [.bl (decide (6 = j)), .bl (decide (7 = j)), .bl (decide (8 = j))])) l3 = some (.lst [.bl (decide (6 = j)), .bl (decide (7 = j)), .bl (decide (8 = j))]) := upd_same
    generalize upd H2 l3 (.lst [.bl (decide (6 = j)), .bl (decide (7 = j)), .bl (decide (8 = j))]) = H3 at s4 f1' e3
    refine ⟨p1, l3, _, _, rfl, rfl, f1', e3, by rw [lA]; show 6 + 3 ≤ sizeLine; decide, fun p2 hp2 => ?_⟩
    have s5 := s4.trans (same_upd (o := .lst (A6 ++ [.bl (decide (6 = j)), .bl (decide (7 = j)), .bl (decide (8 = j))])) hp2)
    have f2 : (upd H3 p2 (.lst (A6 ++ [.bl (decide (6 = j)), .bl (decide (7 = j)), .bl (decide (8 = j))]))) p2 = some (.lst (A6 ++ [.bl (decide (6 = j)), .bl (decide (7 = j)), .bl (decide (8 = j))])) := upd_same
    generalize upd H3 p2 (.lst (A6 ++ [.bl (decide (6 = j)), .bl (decide (7 = j)), .bl (decide (8 = j))])) = H4 at s5 f2
    clear f1' e3 s3 s4 f1 hl3 hp2
    refine ⟨_, rfl, _, rfl, is_step EK (edd.mono s5) (by decide) ⟨_, rfl, is_step EK (edd.mono s5) (by decide) ⟨_, rfl, is_step EK (edd.mono s5) (by decide) ⟨by show 3 ≤ sizeLine; decide, fun l4 hl4 => ?_⟩⟩⟩⟩
    have s6 := s5.trans (same_upd (o := .lst [.bl (decide (9 = j)), .bl (decide (10 = j)), .bl (decide (11 = j))]) hl4)
    have f2' := same_upd (o := .lst [.bl (decide (9 = j)), .bl (decide (10 = j)), .bl (decide (11 = j))]) hl4 _ _ f2
    have e4 : (upd H4 l4 (.lst [.bl (decide (9 = j)), .bl (decide (10 = j)), .bl (decide (11 = j))])) l4 = some (.lst [.bl (decide (9 = j)), .bl (decide (10 = j)), .bl (decide (11 = j))]) := upd_same
    generalize upd H4 l4 (.lst [.bl (decide (9 = j)), .bl (decide (10 = j)), .bl (decide (11 = j))]) = H5 at s6 f2' e4
    refine ⟨p2, l4, _, _, rfl, rfl, f2', e4, by rw [List.length_append, lA]; show 9 + 3 ≤ sizeLine; decide, fun p3 hp3 => ?_⟩
    have s7 := s6.trans (same_upd (o := .lst ((A6 ++ [.bl (decide (6 = j)), .bl (decide (7 = j)), .bl (decide (8 = j))]) ++ [.bl (decide (9 = j)), .bl (decide (10 = j)), .bl (decide (11 = j))])) hp3)
    have fk : (upd H5 p3 (.lst ((A6 ++ [.bl (decide (6 = j)), .bl (decide (7 = j)), .bl (decide (8 = j))]) ++ [.bl (decide (9 = j)), .bl (decide (10 = j)), .bl (decide (11 = j))]))) p3 = some (.lst (flags j)) := by rw [upd_same, ← eA]; rfl
    generalize upd H5 p3 (.lst ((A6 ++ [.bl (decide (6 = j)), .bl (decide (7 = j)), .bl (decide (8 = j))]) ++ [.bl (decide (9 = j)), .bl (decide (10 = j)), .bl (decide (11 = j))])) = H6 at s7 fk
    clear f2' e4 s5 s6 f2 eA lA hl4 hp3
    -- one kind
    refine ⟨_, rfl, .inl ⟨rfl, _, SqL.of fk⟩, p3, flags j, .bl true, rfl, rfl, SqL.of fk, rfl, flags_flat j, rfl, _, rfl, ?_⟩
    rw [show (!decide (V.int (((flags j).countP fun z => eqV z (V.bl true) : Nat) : Int) = V.int 1)) = false by rw [flags_one j12]; rfl]
    refine iteF ⟨_, rfl, ve_step EK (edd.mono s7) ⟨_, rfl, iteF ?_⟩⟩
    -- its word
    refine ⟨by show 10 ≤ sizeLine; decide, fun lN hlN => ?_⟩
    generalize eN : ([V.str (Str.ofString "tick"), V.str (Str.ofString "person"), V.str (Str.ofString "limit"), V.str (Str.ofString "different"), V.str (Str.ofString "waiting"), V.str (Str.ofString "contradiction"), V.str (Str.ofString "name"), V.str (Str.ofString "unknown"), V.str (Str.ofString "house"), V.str (Str.ofString "text")] : List V) = N10 at hlN ⊢
    have s8 := s7.trans (same_upd (o := .lst N10) hlN)
    have fk2 := same_upd (o := .lst N10) hlN _ _ fk
    have fN : (upd H6 lN (.lst N10)) lN = some (.lst N10) := upd_same
    generalize upd H6 lN (.lst N10) = H7 at s8 fk2 fN
    refine ⟨_, rfl, by show 2 ≤ sizeLine; decide, fun l5 hl5 => ?_⟩
    have s9 := s8.trans (same_upd (o := .lst [V.str (Str.ofString "code"), V.str (Str.ofString "operation")]) hl5)
    have fk3 := same_upd (o := .lst [V.str (Str.ofString "code"), V.str (Str.ofString "operation")]) hl5 _ _ fk2
    have fN2 := same_upd (o := .lst [V.str (Str.ofString "code"), V.str (Str.ofString "operation")]) hl5 _ _ fN
    have f5 : (upd H7 l5 (.lst [V.str (Str.ofString "code"), V.str (Str.ofString "operation")])) l5 = some (.lst [V.str (Str.ofString "code"), V.str (Str.ofString "operation")]) := upd_same
    generalize upd H7 l5 (.lst [V.str (Str.ofString "code"), V.str (Str.ofString "operation")]) = H8 at s9 fk3 fN2 f5
    have lN10 : N10.length = 10 := by rw [← eN]; rfl
    refine ⟨lN, l5, _, _, rfl, rfl, fN2, f5, by rw [lN10]; show 10 + 2 ≤ sizeLine; decide, fun p5 hp5 => ?_⟩
    have s10 := s9.trans (same_upd (o := .lst (N10 ++ [V.str (Str.ofString "code"), V.str (Str.ofString "operation")])) hp5)
    have fk4 := same_upd (o := .lst (N10 ++ [V.str (Str.ofString "code"), V.str (Str.ofString "operation")])) hp5 _ _ fk3
    have f6 : (upd H8 p5 (.lst (N10 ++ [V.str (Str.ofString "code"), V.str (Str.ofString "operation")]))) p5 = some (.lst (N10 ++ [V.str (Str.ofString "code"), V.str (Str.ofString "operation")])) := upd_same
    generalize upd H8 p5 (.lst (N10 ++ [V.str (Str.ofString "code"), V.str (Str.ofString "operation")])) = H9 at s10 fk4 f6
    clear s7 s8 s9 fk fk2 fk3 fN fN2 f5 hlN hl5 hp5
    refine ⟨_, rfl, .inl ⟨rfl, _, SqL.of fk4⟩, p3, flags j, .bl true, j, .bl true, rfl, rfl, SqL.of fk4, rfl, flags_flat j, flags_yes j12, rfl, fun m z' hm hz' => flags_no hm hz', ?_⟩
    have hL : N10 ++ [V.str (Str.ofString "code"), V.str (Str.ofString "operation")] = errNames.map V.str := by rw [← eN]; rfl
    rw [hL] at f6
    have hat : atI (errNames.map V.str) ((j : Nat) : Int) = some (.str (errAt j)) := by
      have : j = 0 ∨ j = 1 ∨ j = 2 ∨ j = 3 ∨ j = 4 ∨ j = 5 ∨ j = 6 ∨ j = 7 ∨ j = 8 ∨ j = 9 ∨ j = 10 ∨ j = 11 := by omega
      rcases this with rfl | rfl | rfl | rfl | rfl | rfl | rfl | rfl | rfl | rfl | rfl | rfl <;> exact atI_nat rfl
    refine ⟨p5, _, ((j : Nat) : Int), .str (errAt j), rfl, rfl, SqL.of f6, hat, ?_⟩
    rcases fin with ⟨j8, rfl, k⟩ | ⟨rfl, part, i, dd, rfl, edd2, k⟩ | ⟨rfl, i, dd, rfl, edd2, k⟩ | ⟨j10, i, dd, rfl, edd2, k⟩
    · refine ⟨_, rfl, rfl, _, rfl, ?_⟩
      rw [show decide (V.str (errAt j) = V.str (Str.ofString "house")) = false by
        have : j = 0 ∨ j = 1 ∨ j = 2 ∨ j = 3 ∨ j = 4 ∨ j = 5 ∨ j = 6 ∨ j = 7 := by omega
        rcases this with rfl | rfl | rfl | rfl | rfl | rfl | rfl | rfl <;> decide +kernel]
      refine iteF ⟨_, rfl, rfl, _, rfl, ?_⟩
      rw [show decide (V.str (errAt j) = V.str (Str.ofString "text")) = false by
        have : j = 0 ∨ j = 1 ∨ j = 2 ∨ j = 3 ∨ j = 4 ∨ j = 5 ∨ j = 6 ∨ j = 7 := by omega
        rcases this with rfl | rfl | rfl | rfl | rfl | rfl | rfl | rfl <;> decide +kernel]
      refine iteF ⟨_, rfl, _, rfl, by show 2 ≤ sizeLine; decide, fun lq hlq => ⟨lq, _, rfl, .inl (SqL.of upd_same), rfl, rfl, _, rfl, ?_⟩⟩
      have s11 := s10.trans (same_upd (o := .lst [V.str (Str.ofString "code"), V.str (Str.ofString "operation")]) hlq)
      rw [show inV (V.str (errAt j)) [V.str (Str.ofString "code"), V.str (Str.ofString "operation")] = false by
        have : j = 0 ∨ j = 1 ∨ j = 2 ∨ j = 3 ∨ j = 4 ∨ j = 5 ∨ j = 6 ∨ j = 7 := by omega
        rcases this with rfl | rfl | rfl | rfl | rfl | rfl | rfl | rfl <;> decide +kernel]
      refine iteF ⟨by show 2 ≤ sizeLine; decide, fun p hp => ?_⟩
      exact k _ p (s11.trans (same_upd hp)) upd_same
    · have edd2 := s10 _ _ edd2
      refine ⟨_, rfl, rfl, _, rfl, ?_⟩
      rw [show decide (V.str (errAt 8) = V.str (Str.ofString "house")) = true by decide +kernel]
      refine iteT ⟨_, rfl, _, rfl, rfl, rfl, dd, _, .str part, rfl, edd2, rfl, _, rfl, rfl, rfl, dd, _, .int i, rfl, edd2, rfl, by show 2 ≤ sizeLine; decide, fun t ht => ⟨by show 2 ≤ sizeLine; decide, fun p hp => ?_⟩⟩
      exact k _ p t ((s10.trans (same_upd ht)).trans (same_upd hp)) (same_upd hp _ _ upd_same) upd_same
    · have edd2 := s10 _ _ edd2
      refine ⟨_, rfl, rfl, _, rfl, ?_⟩
      rw [show decide (V.str (errAt 9) = V.str (Str.ofString "house")) = false by decide +kernel]
      refine iteF ⟨_, rfl, rfl, _, rfl, ?_⟩
      rw [show decide (V.str (errAt 9) = V.str (Str.ofString "text")) = true by decide +kernel]
      refine iteT ⟨_, rfl, _, rfl, rfl, rfl, dd, _, .int i, rfl, edd2, rfl, by show 2 ≤ sizeLine; decide, fun p hp => ?_⟩
      exact k _ p (s10.trans (same_upd hp)) upd_same
    · have edd2 := s10 _ _ edd2
      have hj : j = 10 ∨ j = 11 := by omega
      have hx := EK'.x10 j hjJ j10
      refine ⟨_, rfl, rfl, _, rfl, ?_⟩
      rw [show decide (V.str (errAt j) = V.str (Str.ofString "house")) = false by rcases hj with rfl | rfl <;> decide +kernel]
      refine iteF ⟨_, rfl, rfl, _, rfl, ?_⟩
      rw [show decide (V.str (errAt j) = V.str (Str.ofString "text")) = false by rcases hj with rfl | rfl <;> decide +kernel]
      refine iteF ⟨_, rfl, _, rfl, by show 2 ≤ sizeLine; decide, fun lq hlq => ⟨lq, _, rfl, .inl (SqL.of upd_same), rfl, rfl, _, rfl, ?_⟩⟩
      have s11 := same_upd (o := .lst [V.str (Str.ofString "code"), V.str (Str.ofString "operation")]) hlq
      rw [show inV (V.str (errAt j)) [V.str (Str.ofString "code"), V.str (Str.ofString "operation")] = true by rcases hj with rfl | rfl <;> decide +kernel]
      refine iteT ⟨rfl, cs j, hx.1, hx.2, rfl, dd, _, .int i, rfl, s11 _ _ edd2, rfl, by show 2 ≤ sizeLine; decide, fun p hp => ?_⟩
      exact k _ p ((s10.trans s11).trans (same_upd hp)) upd_same
  obtain ⟨t, ht, hi⟩ := hh
  refine ⟨fun pins s' σ H' D I h => ?_⟩
  obtain ⟨⟨σ0, rfl⟩, h⟩ := h
  exact ht.run pins s' _ H' D I (hi D _ H' ⟨five I.len, h⟩)
theorem err_gives {X : Cx} {q : Str} {g : Addr} {cdg : Value} (N : TxtN X.mg cs CE) (EK' : ErK X.K cs CE J) (hu : X.A.units + 100 < cLine) :
    LamX.GivesTo X nErr "_law_error_of" (defScope sErrOf) g cdg (defBody sErrOf) "_law_call" q (TErr cs J) := by
  intro f c' s H Q tl act hc h
  have hd : (("HouseError" : Str) == ("__debug__" : Str)) = false := by decide
  refine ⟨_, pss_cons (ps_try_as (X := cxE X g cdg s H) (x := "HouseError") (n := "e") (c := .ref CE) (i := 1) (Wout := fun _ _ _ _ => False) (ts := fun a cls d => tsS cs J a cls d)
      (tb := fun W D σ H => ∃ Ech : XK, (∀ cls d σ' H', Ech cls d H' → W cls d σ' H') ∧ (∃ σ0 : L2.St, σ = σ0 ∧ σ[0]? = some (some (.ref f))) ∧ H c' = some (LamX.CodeO c' q) ∧ tl Ech H fun _ H1 => D.nx σ H1)
      rfl rfl scErr.nd rfl rfl ⟨rfl, hd, .inl N.gE⟩ LamX.takes0 (fun W pn xe tk _ => ?_) (fun a oe cls d pn hz hf => suite_ok N EK' hu hz hf)) (pss_one (ps_ret pe_non)), ?_⟩
  · refine ⟨fun pins s' σ H' D I h' => ?_⟩
    obtain ⟨Ech, hW, ⟨σ0, _, h1⟩, h2, h3⟩ := h'
    exact (show PSs ((cxE X g cdg s H).tr pn xe) bodyE (tDrop _) from pss_one (ps_expr (act W pn xe Ech _ _ tk hW))).run pins s' σ H' D I ⟨h1, h2, h3⟩
  · refine ⟨EErr cs J Q, fun cls d σ' H' hE => ?_, ⟨_, rfl, rfl⟩, hc, ?_⟩
    · refine ⟨true, ?_, fun _ a ha => ⟨⟨σ', rfl⟩, hE⟩, fun z => nomatch z⟩
      obtain ⟨j, hjJ, e, _⟩ := hE
      rw [e]; exact (EK'.kit j hjJ).ex
    · exact h
end
end Dk

set_option Elab.async false
set_option linter.all false
set_option maxRecDepth 100000
set_option maxHeartbeats 4000000
namespace Dk
open PySem PySem.Spec PyProof.Rows L2 TL
/-- a def whose code object is known -/
structure FunC (K : PySem.W.Frag) (x qual : Str) (st : Stmt) (f c : Addr) (fd : FuncData) : Prop where
  ex : ∃ (oc : Value) (od : Option Addr) (kV doc pm : Value) (an : Option Addr) (ct : Value) (osl : Array (Option Value)),
    fd = PySem.W.fnOf x qual (defArgs st) (defBody st) (defScope st) .none kV doc pm an (.ref c) ct ∧ K.lookup f = some ⟨oc, od, .func fd, osl⟩ ∧ PySem.W.codeIn K (.ref c) qual = true
theorem FunC.ok {P : Program} {w : World} {K : PySem.W.Frag} {mg : Str → Option Value} {base : Heap} {x qual : Str} {st : Stmt} {f c : Addr} {fd : FuncData} {N ps : List Str} {k : Nat} {sp : Sp} (F : FunC K x qual st f c fd) (S : FnScope N ps (defScope st)) (len : ∀ vs H Q E, sp vs H Q E → vs.length = ps.length)
    (hbody : ∀ (A : Around) (outer : List Env) (s : Shared) (H : Hp) (vs : List V) (Q : VK) (E : XK), Room k (A.deeper (envOfC qual (defScope st) s.heap.objs.size f (.ref c))) → sp vs H Q E →
      ∃ t, PSs (cxOf CX0 P w K mg base N qual (defScope st) f (.ref c) A outer s H E).nox (defBody st) t ∧ t { nx := fun _ H' => Q .non H', rt := Q } (start N vs) H) : FnOk P w K mg base CX0 (k + 1) f fd ps sp := by
  obtain ⟨oc, od, kV, doc, pm, an, ct, osl, rfl, lk, hcd⟩ := F.ex
  refine fn_of lk hcd S len fun A outer s H vs Q E hr hsp => ?_
  obtain ⟨t, h, q⟩ := hbody A outer s H vs Q E hr hsp
  exact ⟨t, h.nox, q⟩
end Dk

set_option Elab.async false
set_option linter.all false
set_option maxRecDepth 100000
set_option maxHeartbeats 1000000
namespace Dk
open PySem PySem.Spec PyProof.Rows L2 TL
/-! ### _law_error_of(lambda: ..) -/
theorem pe_errof {X : Cx} {cs : Nat → Addr} {J : List Nat} {CE fE c P : Addr} {fdE : FuncData} {T : List (Addr × Str)} {params : Arguments} {body : Expr} {scope : Scope} {t : XK → TE} {p lpos pos : Pos} {k : Nat} (N : TxtN X.mg cs CE) (EK : ErK X.K cs CE J)
    (hg : Gl X "_law_error_of") (hm : X.mg "_law_error_of" = some (.ref fE)) (FE : Fun X.K "_law_error_of" "_law_error_of" sErrOf fE fdE) (bE : Binds X.K fdE ["_law_call"] [])
    (TB : LamX.TabB X.base X.mg c P) (hcode : X.env.code = .ref c) (hmT : (P, X.env.qual ++ "<lambda>") ∈ T) (hu : ∀ p ∈ T, p.1 = P → p.2 = X.env.qual ++ "<lambda>") (hr : Room (k + 2) X.A) (L : LamX.LamS X.env.scope scope) (hdef : defaultsOf params X.env = ([], []))
    (hbind : ∀ (q : Str) (cl : List (Str × Addr)) (pm cv ctv : Value), bindArgs (PySem.W.kla_fn "<lambda>" q params body scope cl pm cv ctv) ⟨[], []⟩ = pure [])
    (hbody : ∀ (A : Around) (outer : List Env) (s : Shared) (H : Hp) (E : XK) (f c' : Addr), Room k (A.deeper (LamX.lamEnv X scope s.heap.objs.size f c')) → PE (LamX.lamCx X A outer s H E scope f c') body (t E)) :
    PE X (.Call (.Name "_law_error_of" p) [.Lambda params body scope lpos] [] pos) (LamX.tLam T (TErr cs J) t) := by
  obtain ⟨oc, od, kV, doc, pm, an, cdv, ct, osl, rfl, lk, hcd⟩ := FE.ex
  refine LamX.pe_lamcall (Ng := nErr) (a := "_law_call") (k := k) hg hm FE.kp lk hcd bE scErr rfl (.inl rfl) (err_gives N EK ?_) TB hcode hmT hu hr L hdef hbind hbody
  have := hr.un
  omega
end Dk

set_option Elab.async false
set_option linter.all false
set_option maxRecDepth 100000
set_option maxHeartbeats 1000000
namespace Dk
open PySem PySem.Spec PyProof.Rows L2 TL
/-! ### pieces of tuples -/
theorem cut_take {xs : List V} {n : Int} (h0 : 0 ≤ n) (h1 : n ≤ (xs.length : Int)) : cutV xs none (some n) = xs.take n.toNat := by
  obtain ⟨k, rfl⟩ := Int.eq_ofNat_of_zero_le h0
  unfold cutV
  rw [HT.sIx_none, HT.sIx_nat, List.drop_zero, Nat.sub_zero, Int.toNat_natCast, Nat.min_eq_left (by omega)]
theorem cut_drop {xs : List V} {n : Int} (h0 : 0 ≤ n) (h1 : n ≤ (xs.length : Int)) : cutV xs (some n) none = xs.drop n.toNat := by
  obtain ⟨k, rfl⟩ := Int.eq_ofNat_of_zero_le h0
  unfold cutV
  rw [HT.sIx_none, HT.sIx_nat, Int.toNat_natCast, Nat.min_eq_left (by omega)]
  exact List.take_of_length_le (by rw [List.length_drop]; omega)
theorem cut_whole {xs : List V} {lo hi : Option Int} (h : HT.sIx xs.length 0 lo = 0 ∧ HT.sIx xs.length xs.length hi = xs.length) : cutV xs lo hi = xs := by
  unfold cutV
  rw [h.1, h.2, List.drop_zero, Nat.sub_zero, List.take_length]
theorem sl_any {K : PySem.W.Frag} {H : Hp} {a : Addr} {xs : List V} {lo hi : Option Int} {Q : VK} (h : SqT K H a xs) (k : ∀ (H' : Hp) (p : Addr), Same H H' → SqT K H' p (cutV xs lo hi) → Q (.ref p) H') : rSlA K (.ref a) lo hi H Q :=
  ⟨a, xs, rfl, h, fun c => k H a (Same.refl H) (by rw [cut_whole c]; exact h), fun _ p hp => k _ p (same_upd hp) (SqT.of upd_same)⟩
theorem cat_any {K : PySem.W.Frag} {H : Hp} {a b : Addr} {xs ys : List V} {Q : VK} (ha : SqT K H a xs) (hb : SqT K H b ys) (hz : xs.length + ys.length ≤ 1000) (k : ∀ (H' : Hp) (p : Addr), Same H H' → SqT K H' p (xs ++ ys) → Q (.ref p) H') : rCatA K (.ref a) (.ref b) H Q :=
  ⟨a, b, xs, ys, rfl, rfl, ha, hb, Nat.le_trans hz (by decide), fun e => k H b (Same.refl H) (by rw [e, List.nil_append]; exact hb), fun _ e => k H a (Same.refl H) (by rw [e, List.append_nil]; exact ha), fun _ _ p hp => k _ p (same_upd hp) (SqT.of upd_same)⟩
end Dk

set_option Elab.async false
set_option linter.all false
set_option maxRecDepth 100000
set_option maxHeartbeats 2000000
namespace Dk
open PySem PySem.Spec PyProof.Rows L2 TL
/-! ### rules told with the law's own K, for blocks -/
section
variable {X : Cx} {K : PySem.W.Frag}
theorem pi_listK {tg l : Expr} {tl : TE} (h : X.K = K) (hl : PE X l tl) : PI X tg l (iList K tl) := by subst h; exact pi_list hl
theorem pi_tupK {tg l : Expr} {tl : TE} (h : X.K = K) (hl : PE X l tl) : PI X tg l (iTup K tl) := by subst h; exact pi_tup hl
theorem ix_tupK (h : X.K = K) : IxR X (rIxT K) := by subst h; exact ix_tup
theorem call_len_seqK (h : X.K = K) : CallR X (.builtin "len") (fun xs H Q => ∃ p ys, xs = [.ref p] ∧ (SqL K H p ys ∨ SqT K H p ys) ∧ Q (.int ys.length) H) := by subst h; exact call_len_seq
theorem op_eqDK (h : X.K = K) (hu : X.A.units + 64 < cLine) : OpR X (compareOp .Eq) (rEqD K) := by subst h; exact op_eqD hu
theorem op_neDK (h : X.K = K) (hu : X.A.units + 64 < cLine) : OpR X (compareOp .NotEq) (rNeD K) := by subst h; exact op_neD hu
end
/-! ### lists of ticks as data -/
def dN (l : List Nat) : List PyData := dI (l.map fun k : Nat => (k : Int))
theorem nV_dp {K : PySem.W.Frag} {H : Hp} {a : Addr} {l : List Nat} (h : H a = some (.lst (nV l))) : Dp K H (.ref a) (.list (dN l)) := by
  rw [nV_map] at h
  exact .lst (SqL.of h) (dpAll_dI _)
theorem dN_len (l : List Nat) : (dN l).length = l.length := by unfold dN dI; simp
theorem nV_in (l : List Nat) (k : Nat) : inV (.int (k : Int)) (nV l) = decide (k ∈ l) := by
  rw [nV_map, any_mem]
  by_cases c : k ∈ l
  · rw [decide_eq_true c]
    exact decide_eq_true (List.mem_map.mpr ⟨k, c, rfl⟩)
  · rw [decide_eq_false c]
    refine decide_eq_false fun z => ?_
    obtain ⟨j, hj, e⟩ := List.mem_map.mp z
    have : j = k := by omega
    exact c (this ▸ hj)
theorem nV_flat (l : List Nat) : (nV l).all flatV = true := by
  unfold nV
  rw [List.all_map]
  exact List.all_eq_true.mpr fun _ _ => rfl
/-! ### the marked ticks by the whole list -/
theorem eT_early (f : Nat → Bool) {b n : Nat} (h : b ≤ n) : (eT f n).filter (fun k => decide (k < b)) = eT f b := by
  obtain ⟨x, rfl⟩ := Nat.exists_eq_add_of_le h
  unfold eT
  rw [List.filter_filter, List.range_add, List.filter_append]
  have e1 : (List.range b).filter (fun k => decide (k < b) && f k) = (List.range b).filter f := List.filter_congr fun k hk => by rw [decide_eq_true (List.mem_range.mp hk)]; rfl
  have e2 : ((List.range x).map fun y => b + y).filter (fun k => decide (k < b) && f k) = [] := by
    rw [List.filter_eq_nil_iff]
    intro k hk
    obtain ⟨y, _, rfl⟩ := List.mem_map.mp hk
    rw [decide_eq_false (by omega)]; simp
  rw [e1, e2, List.append_nil]
theorem eT_late (f : Nat → Bool) {b n : Nat} (h : b ≤ n) : (eT f n).filter (fun k => decide (b ≤ k)) = cT f b n := by
  obtain ⟨x, rfl⟩ := Nat.exists_eq_add_of_le h
  unfold eT cT
  rw [List.filter_filter, List.range_add, List.filter_append, Nat.add_sub_cancel_left]
  have e1 : (List.range b).filter (fun k => decide (b ≤ k) && f k) = [] := by
    rw [List.filter_eq_nil_iff]
    intro k hk
    have := List.mem_range.mp hk
    simp; omega
  have e2 : ((List.range x).map fun y => b + y).filter (fun k => decide (b ≤ k) && f k) = ((List.range x).filter fun k => f (b + k)).map (b + ·) := by
    rw [List.filter_map]
    congr 1
    refine List.filter_congr fun k _ => ?_
    show (decide (b ≤ b + k) && f (b + k)) = f (b + k)
    rw [decide_eq_true (by omega)]; rfl
  rw [e1, e2, List.nil_append]
theorem nat_list_filt (l : List Nat) (g : Int → Bool) (g' : Nat → Bool) (e : ∀ k : Nat, g (k : Int) = g' k) : ((l.map fun k : Nat => (k : Int)).filter g).map V.int = nV (l.filter g') := by
  unfold nV
  rw [List.filter_map, List.map_map]
  congr 1
  exact List.filter_congr fun k _ => e k
theorem mem_eT {f : Nat → Bool} {n k : Nat} : k ∈ eT f n ↔ k < n ∧ f k = true := by unfold eT; rw [List.mem_filter, List.mem_range]
theorem idx_wait {h : Hd} (hT : Tabs h.ts) {b n : Nat} (cy : IsCyc h b n) (p : Int) {t : Nat} (ht : b ≤ t) : waitsB h p (b + (t - b) % (n - b)) = waitsB h p t := by
  unfold waitsB
  rw [stt_near2 hT cy ht]
theorem dI_shaped (l : List Int) : SeqAt.shaped (.list (dI l)) = true := by
  obtain ⟨h1, h2⟩ := dI_lay l
  unfold SeqAt.shaped
  rw [show PyData.canLay0 (.list (dI l)) = true from h1, decide_eq_true (show PyData.depth (.list (dI l)) ≤ 64 by show PyData.depthAll (dI l) + 1 ≤ 64; omega)]
  rfl
theorem dN_nil (l : List Nat) : PyData.eqv (.list (dN l)) (.list []) = l.isEmpty := by cases l <;> rfl
theorem nV_last {l : List Nat} (h : l ≠ []) : ∃ t, t ∈ l ∧ atI (nV l) (-1) = some (.int ((t : Nat) : Int)) := by
  have hl : 0 < l.length := List.length_pos_iff.mpr h
  refine ⟨l[l.length - 1], List.getElem_mem _, ?_⟩
  have e1 : ixN (nV l).length (-1) = some (l.length - 1) := by
    unfold ixN
    rw [if_neg (by decide), nV_len, if_pos (by omega)]
    congr 1
    omega
  unfold atI
  rw [e1]
  show (nV l)[l.length - 1]? = _
  unfold nV
  rw [List.getElem?_map, List.getElem?_eq_getElem (by omega)]
  rfl
theorem dec_le (b k : Nat) : decide ((b : Int) ≤ (k : Int)) = decide (b ≤ k) := by
  by_cases z : b ≤ k
  · rw [decide_eq_true z, decide_eq_true (by omega)]
  · rw [decide_eq_false z, decide_eq_false (by omega)]
theorem dec_lt (b k : Nat) : decide ((b : Int) < (k : Int)) = decide (b < k) := by
  by_cases z : b < k
  · rw [decide_eq_true z, decide_eq_true (by omega)]
  · rw [decide_eq_false z, decide_eq_false (by omega)]
theorem cT_in {f : Nat → Bool} {b n : Nat} (k : Nat) : k ∈ cT f b n → b ≤ k := by
  unfold cT
  intro h
  obtain ⟨y, _, rfl⟩ := List.mem_map.mp h
  omega
end Dk

set_option Elab.async false
set_option linter.all false
set_option maxRecDepth 100000
set_option maxHeartbeats 2000000
namespace Dk
open PySem PySem.Spec PyProof.Rows L2 TL
/-! ### a def that may be called: its name, its promise -/
structure Cal (P : Program) (w : World) (K : PySem.W.Frag) (mg : Str → Option Value) (base : Heap) (k : Nat) (x : Str) (ps : List Str) (sp : Sp) : Prop where
  ex : ∃ f fd, mg x = some (.ref f) ∧ PySem.W.keepIn K (.ref f) = true ∧ Binds K fd ps [] ∧ FnOk P w K mg base CX0 k f fd ps sp
section
variable {X : Cx} {k : Nat} {x : Str} {ps : List Str} {sp : Sp} {p pos : Pos} {e : Expr} {es : List Expr} {t : TA}
theorem pe_cal (c : Cal X.prog X.w X.K X.mg X.base k x ps sp) (hr : Room k X.A) (hg : Gl X x) (ha : PA X (e :: es) t) (hdb : (x == ("__debug__" : Str)) = false := by decide) (he : starEach (e :: es) X.env = (false, eval e X.env) :: starEach es X.env := by rfl) (hpl : (backTo pos (starEach es X.env)).any (·.1) = false := by rfl) :
    PE X (.Call (.Name x p) (e :: es) [] pos) (tCall sp [] E0 t) := by
  obtain ⟨f, fd, g, kp, b, F⟩ := c.ex
  exact pe_call F hr hg g kp b .nil pass0 ha hdb he hpl
theorem pe_cal0 (c : Cal X.prog X.w X.K X.mg X.base k x ps sp) (hr : Room k X.A) (hg : Gl X x) (hdb : (x == ("__debug__" : Str)) = false := by decide) :
    PE X (.Call (.Name x p) [] [] pos) (tCall sp [] E0 tNil) := by
  obtain ⟨f, fd, g, kp, b, F⟩ := c.ex
  exact pe_call0 F hr hg g kp b .nil pass0 hdb
end
/-- a generator def -/
structure GCal (P : Program) (w : World) (K : PySem.W.Frag) (mg : Str → Option Value) (base : Heap) (k : Nat) (x : Str) (ps : List Str) (sp : SpG) : Prop where
  ex : ∃ f fd, mg x = some (.ref f) ∧ PySem.W.keepIn K (.ref f) = true ∧ Binds K fd ps [] ∧ GFn P w K mg base k f fd ps sp
theorem pgen_cal {X : Cx} {k : Nat} {x : Str} {ps : List Str} {sp : SpG} {p pos : Pos} {e : Expr} {es : List Expr} {t : TA} (c : GCal X.prog X.w X.K X.mg X.base k x ps sp) (hr : Room k X.A) (hg : Gl X x) (ha : PA X (e :: es) t) (hdb : (x == ("__debug__" : Str)) = false := by decide) (he : starEach (e :: es) X.env = (false, eval e X.env) :: starEach es X.env := by rfl) (hpl : (backTo pos (starEach es X.env)).any (·.1) = false := by rfl) :
    PGen X k (.Call (.Name x p) (e :: es) [] pos) (tCallG sp [] E0 t) E0 := by
  obtain ⟨f, fd, g, kp, b, F⟩ := c.ex
  exact pgen_call F hr hg g kp b .nil ha hdb he hpl
end Dk

set_option Elab.async false
set_option linter.all false
set_option maxRecDepth 100000
set_option maxHeartbeats 4000000
namespace Dk
open PySem PySem.Spec PyProof.Rows L2 TL
def spPartsN : Sp := fun vs H Q _ => ∃ (d : Addr) (most : Int) (st : List Int), vs = [.ref d, .int most] ∧ H d = some (.lst (st.map V.int)) ∧ Good st ∧ 1 ≤ most ∧ most ≤ 6 ∧
  ∀ (H' : Hp) (st' : List Int) (a : Addr) (ts : List Str) (keys : Int) (cs : List Int) (rs : List Pr), Kp d H H' → H' d = some (.lst (st'.map V.int)) → Good st' → PartsAt H' a ts keys cs rs → Parts ts keys cs rs → (ts.length : Int) ≤ most → Q (.ref a) H'
section
variable {P : Program} {w : World} {K : PySem.W.Frag} {mg : Str → Option Value} {base : Heap}
theorem ok_partsN {f fB fT fL : Addr} {fd fdB fdT fdL : FuncData} (F : Fun K "_law_parts" "_law_parts" sParts f fd) (T : TxtA mg) (B : TxtB K mg fB fdB) (D' : TxtD K mg fT fL fdT fdL) : FnOk P w K mg base CX0 3 f fd ["_law_d", "_law_most"] spPartsN := by
  have GB : FnOk P w K mg base CX0 1 fB fdB ["_law_d", "_law_limit"] spBelow := ok_below B.F T
  have GT : FnOk P w K mg base CX0 2 fT fdT ["_law_d"] spTable := ok_table D'.FT T B
  have GL : FnOk P w K mg base CX0 1 fL fdL ["_law_tables"] (spLength K) := ok_length D'.FL T
  refine F.ok scParts (fun vs H Q E h => ?_) (fun cdv A outer s H vs Q E hr h => ?_)
  · obtain ⟨d, most, st, rfl, _⟩ := h
    rfl
  · obtain ⟨d, most, st, rfl, hd, hg, hm1, hm6, k⟩ := h
    have hr1 : Room 1 _ := hr.mono (by decide)
    have hu : (A.deeper (envOfC (Str.ofString "_law_parts") (defScope sParts) s.heap.objs.size f cdv)).units + 65 < cLine := by have := hr.un; omega
    refine ⟨_, pss_cons (ps_set (i := 3) scParts.nd rfl (.inl rfl) (pe_callTy call_tuple_of (by rfl) D'.tuple (by decide +kernel) (pa_cons
        (pe_lc (own := [("_law_k", 2)]) (g := gName 2) (by rfl) scParts.nd (pi_range1 rfl T.range (pa_cons (pe_op op_add pe_int (pe_call GB hr1 rfl B.g B.F.kp B.b .nil pass0 (pa_cons (pv 0) (pa_cons (pv 1) pa_nil)))) pa_nil)) (blkOk_by (N := nParts) (sc := defScope sParts) (by decide +kernel))
          (fun _ _ _ _ _ => pg_name (i := 2) scParts.nd rfl (Or.inl rfl)) (fun _ _ _ _ _ => pts_nil)
          (fun _ _ _ _ _ => pe_call GT hr rfl D'.gT D'.FT.kp D'.bT .nil pass0 (pa_cons (pv 0) pa_nil))) pa_nil)))
      (pss_cons (ps_set (i := 4) scParts.nd rfl (.inl rfl) (pe_callTy call_tuple_of (by rfl) D'.tuple (by decide +kernel) (pa_cons
        (pe_lc (own := [("_law_k", 2)]) (g := gName 2) (by rfl) scParts.nd (pi_range1 rfl T.range (pa_cons (pe_callB call_len_seq (by rfl) T.len PySem.boot_len (pa_cons (pv 3) pa_nil)) pa_nil)) (blkOk_by (N := nParts) (sc := defScope sParts) (by decide +kernel))
          (fun _ _ _ _ _ => pg_name (i := 2) scParts.nd rfl (Or.inl rfl)) (fun _ _ _ _ _ => pts_one (pt_cmpR op_eq (pe_call GB hr1 rfl B.g B.F.kp B.b .nil pass0 (pa_cons (pv 0) (pa_cons pe_int pa_nil))) pe_int (nomark _)))
          (fun _ _ _ _ _ => pv 2)) pa_nil)))
      (pss_cons (ps_par (by rfl) scParts.nd (i := 5) (j := 6) rfl rfl (by decide) rfl rfl (pa_cons (pe_call GL hr1 rfl D'.gL D'.FL.kp D'.bL .nil pass0 (pa_cons (pv 3) pa_nil)) (pa_cons (pe_lst pa_nil) pa_nil)) (by rfl))
      (pss_cons (ps_for PassesOwn.never rfl (pi_range1 rfl T.range (pa_cons (pe_call GB hr1 rfl B.g B.F.kp B.b .nil pass0 (pa_cons (pv 0) (pa_cons
            (pe_ix ix_list (pe_lst (pa_cons pe_int (pa_cons pe_int (pa_cons pe_int pa_nil)))) (pe_call GB hr1 rfl B.g B.F.kp B.b .nil pass0 (pa_cons (pv 0) (pa_cons pe_int pa_nil))) (fun _ _ => rfl)) pa_nil))) pa_nil)) (pg_name (i := 2) scParts.nd rfl (.inl rfl))
          (pss_cons (ps_set (i := 7) scParts.nd rfl (.inl rfl) (pe_tup (pa_cons (pe_call GB hr1 rfl B.g B.F.kp B.b .nil pass0 (pa_cons (pv 0) (pa_cons (pv 5) pa_nil)))
              (pa_cons (pe_call GB hr1 rfl B.g B.F.kp B.b .nil pass0 (pa_cons (pv 0) (pa_cons (pe_callB call_len_seq (by rfl) T.len PySem.boot_len (pa_cons (pv 3) pa_nil)) pa_nil))) pa_nil))))
          (pss_one (ps_if (pt_cmpR (op_notInD hu) (pv 7) (pv 6) (by rfl))
            (pss_one (ps_expr (pe_bm PySem.F.plainAttrs_list PySem.F.slot_list_append PySem.F.type_list_append mt_append (pv 6) (pa_cons (pv 7) pa_nil)))) pss_nil))))
      (pss_one (ps_ret (pe_tup (pa_cons (pv 3) (pa_cons (pe_call GB hr1 rfl B.g B.F.kp B.b .nil pass0 (pa_cons (pv 0) (pa_cons
            (pe_ix ix_list (pe_lst (pa_cons pe_int (pa_cons pe_int pa_nil))) (pe_call GB hr1 rfl B.g B.F.kp B.b .nil pass0 (pa_cons (pv 0) (pa_cons pe_int pa_nil))) (fun _ _ => rfl)) pa_nil)))
          (pa_cons (pv 4) (pa_cons (pe_callTy call_tuple_of (by rfl) D'.tuple (by decide +kernel) (pa_cons (pe_callB cr_sortedPO (by rfl) D'.sorted (by decide +kernel) (pa_cons (pv 6) pa_nil)) pa_nil)) pa_nil)))))))))), ?_⟩
    -- the timetables
    refine ⟨_, rfl, _, rfl, d, most, st, rfl, hd, hg, hm1, by omega, fun H1 st1 r1 k1 hd1 hg1 r10 r11 => ?_⟩
    refine ⟨_, _, rfl, rfl, _, rfl, by omega, by omega, fun D hD => lc_range (lo := 0) (n := (1 + r1).toNat)
      (fun i H3 => ∃ (st3 : List Int) (ts : List Str), Kp d H1 H3 ∧ H3 d = some (.lst (st3.map V.int)) ∧ Good st3 ∧ H3 D = some (.lst (ts.map V.str)) ∧ ts.length = i ∧ Tabs ts)
      ⟨st1, [], sKp (same_upd hD), same_upd hD _ _ hd1, hg1, upd_same, rfl, fun t ht => by cases ht⟩ ?_ ?_⟩
    · rintro i H3 hi ⟨st3, ts, k3, hd3, hg3, eD, hl, hT⟩
      have ndD : d ≠ D := ne_of_none hd1 hD
      refine ⟨rfl, _, rfl, d, st3, rfl, hd3, hg3, fun H4 st4 t k4 hd4 hg4 ht => ?_⟩
      refine ⟨_, k4 _ _ ndD.symm eD, ?_, st4, ts ++ [t], fun b o nb eb => ?_, by rw [upd_ne ndD]; exact hd4, hg4, by rw [upd_same]; simp, by rw [List.length_append, hl]; rfl, fun x hx => ?_⟩
      · rw [List.length_map, hl]; exact Nat.lt_of_le_of_lt (by omega : i ≤ 1000) (by decide)
      · rw [upd_ne (ne_of_none eb hD)]; exact k4 _ _ nb (k3 _ _ nb eb)
      · rcases List.mem_append.mp hx with hx | hx
        · exact hT x hx
        · rw [List.mem_singleton.mp hx]; exact ht
    rintro H3 ⟨st3, ts, k3, hd3, hg3, eD, hl, hT⟩
    have hl6 : 1 ≤ ts.length ∧ ts.length ≤ 6 := by omega
    have hlm : (ts.length : Int) ≤ most := by omega
    clear hl
    refine ⟨D, ts.map V.str, rfl, .inl ⟨SqL.of eD, fun aT haT => ?_⟩⟩
    have kA : Kp d H (upd H3 aT (.tup (ts.map V.str))) := (k1.trans k3).trans (sKp (same_upd haT))
    have hdA : (upd H3 aT (.tup (ts.map V.str))) d = some (.lst (st3.map V.int)) := same_upd haT _ _ hd3
    have eT : (upd H3 aT (.tup (ts.map V.str))) aT = some (.tup (ts.map V.str)) := upd_same
    generalize upd H3 aT (.tup (ts.map V.str)) = HA at kA hdA eT
    clear k1 hd1 hg1 k3 hd3 eD haT hD hd hg
    -- the careful persons
    refine ⟨_, rfl, aT, _, rfl, .inr (SqT.of eT), _, rfl, by omega, by rw [List.length_map]; omega, fun D hD => lc_range (lo := 0) (n := (((ts.map V.str).length : Nat) : Int).toNat)
      (fun i H3 => ∃ (st3 : List Int) (cs : List Int), Kp d HA H3 ∧ H3 d = some (.lst (st3.map V.int)) ∧ Good st3 ∧ H3 D = some (.lst (cs.map V.int)) ∧ cs.length ≤ i ∧ cs.Pairwise (· < ·) ∧ ∀ c ∈ cs, (0 : Int) ≤ c ∧ c < (i : Int))
      ⟨st3, [], sKp (same_upd hD), same_upd hD _ _ hdA, hg3, upd_same, Nat.le_refl _, .nil, fun t ht => by cases ht⟩ ?_ ?_⟩
    · rintro i H3 hi ⟨st3, cs, k3, hd3, hg3, eD, hl, hP, hC⟩
      have ndD : d ≠ D := ne_of_none hdA hD
      rw [List.length_map] at hi
      refine ⟨rfl, _, rfl, d, 3, st3, rfl, hd3, hg3, by decide, by decide, fun H4 st4 r4 k4 hd4 hg4 r40 r41 => ?_⟩
      have eD4 := k4 _ _ ndD.symm eD
      refine ⟨rfl, _, rfl, ite2 (fun c => ?_) (fun c => ?_)⟩
      · refine ⟨_, rfl, _, eD4, ?_, st4, cs ++ [(0 : Int) + (i : Int)], fun b o nb eb => ?_, by rw [upd_ne ndD]; exact hd4, hg4, by rw [upd_same]; simp, by rw [List.length_append, List.length_singleton]; omega, ?_, fun x hx => ?_⟩
        · rw [List.length_map]; exact Nat.lt_of_le_of_lt (by omega : cs.length ≤ 1000) (by decide)
        · rw [upd_ne (ne_of_none eb hD)]; exact k4 _ _ nb (k3 _ _ nb eb)
        · refine List.pairwise_append.mpr ⟨hP, List.pairwise_singleton _ _, fun x hx y hy => ?_⟩
          rw [List.mem_singleton.mp hy]
          have := hC x hx
          omega
        · rcases List.mem_append.mp hx with hx | hx
          · have := hC x hx; omega
          · rw [List.mem_singleton.mp hx]; omega
      · exact ⟨st4, cs, fun b o nb eb => k4 _ _ nb (k3 _ _ nb eb), hd4, hg4, eD4, by omega, hP, fun x hx => by have := hC x hx; omega⟩
    rintro H3 ⟨st4, cs, k3, hd3, hg4, eD, hl, hCP, hCM⟩
    rw [List.length_map] at hl hCM
    refine ⟨D, cs.map V.int, rfl, .inl ⟨SqL.of eD, fun aC haC => ?_⟩⟩
    have kB : Kp d H (upd H3 aC (.tup (cs.map V.int))) := (kA.trans k3).trans (sKp (same_upd haC))
    have hdB : (upd H3 aC (.tup (cs.map V.int))) d = some (.lst (st4.map V.int)) := same_upd haC _ _ hd3
    have eT2 : (upd H3 aC (.tup (cs.map V.int))) aT = some (.tup (ts.map V.str)) := same_upd haC _ _ (kp_tup k3 hdA _ _ eT)
    have eC : (upd H3 aC (.tup (cs.map V.int))) aC = some (.tup (cs.map V.int)) := upd_same
    generalize upd H3 aC (.tup (cs.map V.int)) = HB at kB hdB eT2 eC
    clear kA hdA eT k3 hd3 hg3 eD haC hD
    -- the period; no reminders yet
    refine ⟨_, rfl, aT, ts, rfl, SqT.of eT2, hT, hl6.2, fun HC sC => ?_⟩
    refine ⟨Nat.zero_le _, fun l hL => ?_⟩
    have kC : Kp d H (upd HC l (.lst [])) := (kB.trans (sKp sC)).trans (sKp (same_upd hL))
    have hdC := same_upd (o := .lst []) hL _ _ (sC _ _ hdB)
    have eT3 := same_upd (o := .lst []) hL _ _ (sC _ _ eT2)
    have eC3 := same_upd (o := .lst []) hL _ _ (sC _ _ eC)
    have eL : (upd HC l (.lst [])) l = some (.lst []) := upd_same
    have ndl : d ≠ l := ne_of_none (sC _ _ hdB) hL
    have nHl : H l = none := by
      cases q : H l with
      | none => rfl
      | some o =>
        have := (kB.trans (sKp sC)) l o ndl.symm q
        rw [hL] at this
        cases this
    generalize upd HC l (.lst []) = HD at kC hdC eT3 eC3 eL
    clear kB hdB eT2 eC sC hL
    refine ⟨_, _, rfl, ?_⟩
    -- the reminders
    refine ⟨_, rfl, by show 3 ≤ sizeLine; decide, fun l1 hl1 => ?_⟩
    have s1 : Same HD (upd HD l1 (.lst [.int 1, .int 4, .int 11])) := same_upd hl1
    have n1 : l1 ≠ d := (ne_of_none hdC hl1).symm
    refine ⟨_, rfl, d, 3, st4, rfl, s1 _ _ hdC, hg4, by decide, by decide, fun HE st5 r5 k5 hd5 hg5 r50 r51 => ?_⟩
    have e1 : HE l1 = some (.lst (([1, 4, 11] : List Int).map V.int)) := k5 _ _ n1 upd_same
    obtain ⟨z1, hz1, a1⟩ := at_mem (L := [1, 4, 11]) r50 (by simpa using r51)
    have hz : 1 ≤ z1 ∧ z1 ≤ 11 := by simp at hz1; omega
    refine ⟨l1, _, r5, _, rfl, rfl, SqL.of e1, a1, d, z1, st5, rfl, hd5, hg5, hz.1, by omega, fun HF st6 r6 k6 hd6 hg6 r60 r61 => ?_⟩
    have kF : Kp d HD HF := (sKp s1).trans (k5.trans k6)
    have tF := kp_tup kF hdC
    refine ⟨_, rfl, by omega, by omega, for_range (lo := 0) (n := r6.toNat)
      (fun i σ H' => ∃ (st7 : List Int) (xs : List V) (rs : List Pr) (v2 v7 : Option V), σ = [some (.ref d), some (.int most), v2, some (.ref aT), some (.ref aC), some (.int ((per ts : Nat) : Int)), some (.ref l), v7] ∧
        Kp d H H' ∧ H' d = some (.lst (st7.map V.int)) ∧ Good st7 ∧ H' aT = some (.tup (ts.map V.str)) ∧ H' aC = some (.tup (cs.map V.int)) ∧ H' l = some (.lst xs) ∧ Prs H' xs rs ∧ rs.Nodup ∧ rs.length ≤ i ∧
        ∀ r ∈ rs, (0 : Int) ≤ r.1 ∧ r.1 < ((per ts : Nat) : Int) ∧ (0 : Int) ≤ r.2 ∧ r.2 < (ts.length : Int))
      ⟨st6, [], [], none, none, rfl, kC.trans kF, hd6, hg6, tF _ _ eT3, tF _ _ eC3, kF _ _ ndl.symm eL, .nil, .nil, Nat.le_refl _, fun r hr => by cases hr⟩ ?_ ?_⟩
    · rintro i σ H' hi ⟨st7, xs, rs, v2, v7, rfl, kG, hd7, hg7, eT4, eC4, eL4, hP, hN, hlen, hM⟩
      refine ⟨_, rfl, _, rfl, d, _, st7, rfl, hd7, hg7, by have := per_pos hT; omega, by have := per_le hT; omega, fun H5 st8 ra k8 hd8 hg8 ra0 ra1 => ?_⟩
      refine ⟨_, rfl, _, rfl, aT, _, rfl, .inr (SqT.of (kp_tup k8 hd7 _ _ eT4)), d, _, st8, rfl, hd8, hg8, by rw [List.length_map]; omega, by rw [List.length_map]; omega, fun H6 st9 rb k9 hd9 hg9 rb0 rb1 => ?_⟩
      rw [List.length_map] at rb1
      have kH : Kp d H' H6 := k8.trans k9
      have tH := kp_tup kH hd7
      refine ⟨by show 2 ≤ sizeLine; decide, fun p hp => ?_⟩
      have eL6 := same_upd (o := .tup [.int ra, .int rb]) hp _ _ (kH _ _ ndl.symm eL4)
      have hP6 : Prs (upd H6 p (.tup [.int ra, .int rb])) xs rs := hP.mono fun t ys h => same_upd hp _ _ (tH _ _ h)
      have hPr : PrAt (upd H6 p (.tup [.int ra, .int rb])) (.ref p) (ra, rb) := ⟨p, rfl, upd_same⟩
      have kI : Kp d H (upd H6 p (.tup [.int ra, .int rb])) := (kG.trans kH).trans (sKp (same_upd hp))
      have hd10 := same_upd (o := .tup [.int ra, .int rb]) hp _ _ hd9
      have eT6 := same_upd (o := .tup [.int ra, .int rb]) hp _ _ (tH _ _ eT4)
      have eC6 := same_upd (o := .tup [.int ra, .int rb]) hp _ _ (tH _ _ eC4)
      generalize upd H6 p (.tup [.int ra, .int rb]) = H7 at eL6 hP6 hPr kI hd10 eT6 eC6
      refine ⟨_, rfl, _, rfl, prR (ra, rb), rs.map prR, dp_pr hPr, .lst (SqL.of eL6) (dpAll_prs hP6), prR_shaped _, prRs_shaped _, _, rfl, ?_⟩
      rw [any_eqv]
      by_cases c : (ra, rb) ∈ rs
      · rw [decide_eq_true c]
        refine iteF ?_
        exact ⟨st9, xs, rs, _, _, rfl, kI, hd10, hg9, eT6, eC6, eL6, hP6, hN, by omega, hM⟩
      · rw [decide_eq_false c]
        refine iteT ?_
        refine ⟨_, rfl, .inl ⟨rfl, _, SqL.of eL6⟩, _, rfl, l, _, _, rfl, rfl, eL6, ?_, ?_⟩
        · rw [hP6.len]; exact Nat.lt_of_le_of_lt (by omega : rs.length ≤ 1000) (by decide)
        · have nlT : aT ≠ l := fun e => by rw [e, eL6] at eT6; cases eT6
          have nlC : aC ≠ l := fun e => by rw [e, eL6] at eC6; cases eC6
          have tK : ∀ t ys, H7 t = some (.tup ys) → (upd H7 l (.lst (xs ++ [V.ref p]))) t = some (.tup ys) := fun t ys h => by
            rw [upd_ne (fun e => by rw [e, eL6] at h; cases h)]; exact h
          refine ⟨st9, _, rs ++ [(ra, rb)], _, _, rfl, fun b o nb eb => ?_, by rw [upd_ne ndl]; exact hd10, hg9, tK _ _ eT6, tK _ _ eC6, upd_same, (hP6.mono tK).app ?_, ?_, ?_, fun r hr => ?_⟩
          · rw [upd_ne (fun e => by rw [e, nHl] at eb; cases eb)]; exact kI _ _ nb eb
          · obtain ⟨t, e, h⟩ := hPr
            exact ⟨t, e, tK _ _ h⟩
          · refine List.nodup_append.mpr ⟨hN, (by simp), fun a ha b hb => ?_⟩
            rw [List.mem_singleton.mp hb]
            exact fun e => c (e ▸ ha)
          · rw [List.length_append, List.length_singleton]; omega
          · rcases List.mem_append.mp hr with hr | hr
            · exact hM r hr
            · rw [List.mem_singleton.mp hr]; exact ⟨ra0, ra1, rb0, rb1⟩
    rintro σ H' ⟨st7, xs, rs, v2, v7, rfl, kG, hd7, hg7, eT4, eC4, eL4, hP, hN, hlen, hM⟩
    have hl10 : rs.length ≤ 10 := by omega
    -- the answer
    refine ⟨_, rfl, _, rfl, by show 2 ≤ sizeLine; decide, fun l2 hl2 => ?_⟩
    have s2 : Same H' (upd H' l2 (.lst [.int 3, .int 10])) := same_upd hl2
    have n2 : l2 ≠ d := (ne_of_none hd7 hl2).symm
    refine ⟨_, rfl, d, 2, st7, rfl, s2 _ _ hd7, hg7, by decide, by decide, fun H5 st8 r8 k8 hd8 hg8 r80 r81 => ?_⟩
    have e2 : H5 l2 = some (.lst (([3, 10] : List Int).map V.int)) := k8 _ _ n2 upd_same
    obtain ⟨z2, hz2, a2⟩ := at_mem (L := [3, 10]) r80 (by simpa using r81)
    have hz3 : 1 ≤ z2 ∧ z2 ≤ 10 := by simp at hz2; omega
    refine ⟨l2, _, r8, _, rfl, rfl, SqL.of e2, a2, d, z2, st8, rfl, hd8, hg8, hz3.1, by omega, fun H6 st9 keys k9 hd9 hg9 ky0 ky1 => ?_⟩
    have k10 : Kp d H' H6 := (sKp s2).trans (k8.trans k9)
    have t10 := kp_tup k10 hd7
    have hP6 := hP.mono t10
    have eL6 := k10 _ _ ndl.symm eL4
    refine ⟨_, rfl, _, rfl, l, xs, kf H6, rfl, SqL.of eL6, fun x hx => hP6.mem x hx, fun ys p hs hst hp => ?_⟩
    refine ⟨p, ys, rfl, .inl ⟨SqL.of upd_same, fun aR haR => ?_⟩⟩
    have s3 := same_upd (o := .lst ys) hp
    have s4 := same_upd (o := .tup ys) haR
    refine ⟨by show 4 ≤ sizeLine; decide, fun a ha => ?_⟩
    have s5 := same_upd (o := .tup [V.ref aT, V.int keys, V.ref aC, V.ref aR]) ha
    have perm : ys.Perm xs := hst.perm
    have hPy : Prs H6 ys (ys.map (kf H6)) := Prs.of_mem fun y hy => hP6.mem y (perm.mem_iff.mp hy)
    have permR : (ys.map (kf H6)).Perm rs := by
      have := perm.map (kf H6)
      rw [hP6.kf] at this
      exact this
    have s6 := (s3.trans s4).trans s5
    refine k _ st9 a ts keys cs (ys.map (kf H6)) ((kG.trans k10).trans (sKp s6)) (s6 _ _ hd9) hg9 ⟨⟨aT, aC, aR, ys, upd_same, s6 _ _ (t10 _ _ eT4), s6 _ _ (t10 _ _ eC4), s5 _ _ upd_same, hPy.mono fun t zs h => s6 _ _ h⟩⟩ ?_ hlm
    refine ⟨hT, hl6.1, hl6.2, ky0, by omega, hCP, fun c hc => ⟨(hCM c hc).1, ?_⟩, ?_, fun r hr => hM r (permR.mem_iff.mp hr), by rw [permR.length_eq]; exact hl10⟩
    · have := (hCM c hc).2; omega
    · refine sorted_plt ?_ (permR.nodup_iff.mpr hN)
      rw [List.pairwise_map]
      exact hs
end
end Dk

set_option Elab.async false
set_option linter.all false
set_option maxRecDepth 100000
set_option maxHeartbeats 4000000
namespace Dk
open PySem PySem.Spec PyProof.Rows L2 TL
/-! ### the law -/
abbrev lamQ : Str := (envOfC (Str.ofString "law") (defScope sLaw) 0 0 .none).qual ++ Str.ofString "<lambda>"
def spLaw (K : PySem.W.Frag) (Pt : Addr) : Sp := fun vs H Q _ => ∃ (a : Addr) (ns : List Int), vs = [.ref a] ∧ SqL K H a (ns.map V.int) ∧ ns.length ≤ 63 ∧ LamX.Tabs [(Pt, lamQ)] H ∧ ∀ H', Q (.bl true) H'
abbrev nLaw : List Str := ["_law_script", "_law_d", "_law_code", "_law_at", "_law_extra", "_law_odd", "_law_wrong", "_law_none", "_law_head", "_law_cases", "_law_bad", "_law_place", "_law_largest", "_law_k"]
theorem scLaw : FnScope nLaw ["_law_script"] (defScope sLaw) := ⟨rfl, rfl, rfl, by decide +kernel, rfl, by decide +kernel, by decide +kernel⟩
structure Use (P : Program) (w : World) (K : PySem.W.Frag) (mg : Str → Option Value) (base : Heap) (CH CC fDe fE cL Pt CE : Addr) (fdDe fdE : FuncData) (cs : Nat → Addr) : Prop where
  T : TxtA mg
  sum : mg "sum" = none
  cRa : Cal P w K mg base 1 "_law_random" ["_law_script", "_law_salt"] (spRandom K)
  cB : Cal P w K mg base 1 "_law_below" ["_law_d", "_law_limit"] spBelow
  cPa : Cal P w K mg base 3 "_law_parts" ["_law_d", "_law_most"] spParts
  cHo : Cal P w K mg base 7 "_law_house" ["_law_parts_here"] (spHouseF K CH)
  cEn : Cal P w K mg base 3 "encode" ["house"] (spEnc K CH)
  GDe : FnOk P w K mg base (L2.CX P w) 8 fDe fdDe ["code"] (spDecodeX K CH CC)
  gDe : mg "decode" = some (.ref fDe)
  kDe : PySem.W.keepIn K (.ref fDe) = true
  bDe : Binds K fdDe ["code"] []
  N : TxtN mg cs CE
  EK : ErK K cs CE [10]
  eCC : cs 10 = CC
  gE : mg "_law_error_of" = some (.ref fE)
  FE : Fun K "_law_error_of" "_law_error_of" sErrOf fE fdE
  bE : Binds K fdE ["_law_call"] []
  TB : LamX.TabB base mg cL Pt
  clH : Cls K CH
  nR : NoAttr K CH "reminders"
/-- what error_of answers of an InvalidCode -/
theorem code_told {cs : Nat → Addr} {CC : Addr} {Q : VK} {H : Hp} {i : Int} (e : cs 10 = CC) (k : ∀ (H' : Hp) (p : Addr), Same H H' → H' p = some (.tup [.str (Str.ofString "code"), .int i]) → Q (.ref p) H') : PlRaised CC (EErr cs [10] Q) H i := fun H' d s n ed =>
  ⟨10, by simp, by rw [e], .inr (.inr (.inr ⟨by decide, i, d, rfl, ed, fun H'' p s2 ep => k H'' p (s.trans s2) ep⟩))⟩
theorem code_lay (i : Int) : PyData.canLay0 (.tuple [.str (Str.ofString "code"), .int i]) = true := by
  show ((PySem.PyData.strOk (Str.ofString "code") && (true && true)) = true)
  decide +kernel
theorem code_shp (i : Int) : SeqAt.shaped (.tuple [.str (Str.ofString "code"), .int i]) = true := by
  unfold SeqAt.shaped
  rw [code_lay]; rfl
theorem code_same {K : PySem.W.Frag} {H : Hp} {p q : Addr} {i : Int} (h1 : H p = some (.tup [.str (Str.ofString "code"), .int i])) (h2 : H q = some (.tup [.str (Str.ofString "code"), .int i])) {Q : VK} (k : Q (.bl false) H) : rNeD K (.ref p) (.ref q) H Q :=
  ⟨.tuple [.str (Str.ofString "code"), .int i], .tuple [.str (Str.ofString "code"), .int i], .tup (SqT.of h1) (.cons (.str _) (.cons (.int _) .nil)), .tup (SqT.of h2) (.cons (.str _) (.cons (.int _) .nil)), code_shp i, code_shp i, by
    rw [PySem.SeqAt.eqv_refl _ (code_lay i)]; exact k⟩
theorem dp_intsL {K : PySem.W.Frag} {H : Hp} (l : List Int) : DpAll K H (l.map V.int) (dL l) := by
  unfold dL
  induction l with
  | nil => exact .nil
  | cons x l ih => exact .cons (.int x) ih
theorem cat_ints {H : Hp} {l b : Addr} {xs zs : List Int} {Q : VK} (h1 : H l = some (.lst (xs.map V.int))) (h2 : H b = some (.lst (zs.map V.int))) (hz : xs.length + zs.length ≤ 1000) (k : ∀ (H' : Hp) (p : Addr), Same H H' → H p = none → H' p = some (.lst ((xs ++ zs).map V.int)) → Q (.ref p) H') : rCat (.ref l) (.ref b) H Q :=
  ⟨l, b, _, _, rfl, rfl, h1, h2, by rw [List.length_map, List.length_map]; exact Nat.le_trans hz (by decide), fun p hp => k _ p (same_upd hp) hp (by rw [upd_same, List.map_append])⟩
theorem new_ints {H : Hp} {Q : VK} (xs : List Int) (k : ∀ (H' : Hp) (l : Addr), Same H H' → H l = none → H' l = some (.lst (xs.map V.int)) → Q (.ref l) H') : ∀ l, H l = none → Q (.ref l) (upd H l (.lst (xs.map V.int))) := fun l hl => k _ l (same_upd hl) hl upd_same
def tail9 : List Int := [9, 2, 0, 1, 2, 0, 1, 1, 0]
theorem parts_big : Parts [⟨#[104, 111]⟩, ⟨#[104]⟩] 9 [0, 1] [(0, 1), (1, 0)] := by
  refine ⟨fun t ht => ?_, by decide, by decide, by decide, by decide, by decide, by decide, ?_, fun r hr => ?_, by decide⟩
  · simp only [List.mem_cons, List.not_mem_nil, or_false] at ht
    rcases ht with rfl | rfl <;> exact ⟨by decide +kernel, by decide +kernel⟩
  · refine .cons (fun r hr => ?_) (.cons (fun r hr => by cases hr) .nil)
    rw [List.mem_singleton.mp hr]
    exact .inl (show (0 : Int) < 1 by decide)
  · have hp : per [(⟨#[104, 111]⟩ : Str), ⟨#[104]⟩] = 2 := by decide +kernel
    rw [hp]
    simp only [List.mem_cons, List.not_mem_nil, or_false] at hr
    rcases hr with rfl | rfl <;> decide
section
variable {P : Program} {w : World} {K : PySem.W.Frag} {mg : Str → Option Value} {base : Heap} {CH CC fDe fE cL Pt CE : Addr} {fdDe fdE : FuncData} {cs : Nat → Addr}
theorem law_z {f : Addr} {A : Around} {outer : List Env} {s : Shared} {H0 : Hp} {E : XK} (hr : Room 13 (A.deeper (envOfC (Str.ofString "law") (defScope sLaw) s.heap.objs.size f (.ref cL)))) (U : Use P w K mg base CH CC fDe fE cL Pt CE fdDe fdE cs) :
    ∃ tm, PSs (cxOf CX0 P w K mg base nLaw "law" (defScope sLaw) f (.ref cL) A outer s H0 E).nox ((defBody sLaw).drop 20) tm ∧ ∀ (D : Ends) (H : Hp) (v0 v2 v3 v4 v5 v6 v7 v9 v12 v13 : Option V) (d ah ab : Addr) (st bs : List Int) (pl : Nat),
      H d = some (.lst (st.map V.int)) → Good st → LamX.Tabs [(Pt, lamQ)] H → H ah = some (.lst (head7.map V.int)) → ah ≠ d → H ab = some (.lst (bs.map V.int)) → ab ≠ d → bs.length ≤ 14 → (∀ t, decR (dL bs ++ t) = .error pl) → (∀ H', D.rt (.bl true) H') →
      tm D [v0, some (.ref d), v2, v3, v4, v5, v6, v7, some (.ref ah), v9, some (.ref ab), some (.int (pl : Int)), v12, v13] H := by
  have hr1 : Room 1 (A.deeper (envOfC (Str.ofString "law") (defScope sLaw) s.heap.objs.size f (.ref cL))) := hr.mono (by decide)
  have hr8 : Room 8 (A.deeper (envOfC (Str.ofString "law") (defScope sLaw) s.heap.objs.size f (.ref cL))) := hr.mono (by decide)
  have hu64 : (A.deeper (envOfC (Str.ofString "law") (defScope sLaw) s.heap.objs.size f (.ref cL))).units + 64 < cLine := by have := hr.un; omega
  have T := U.T
  have hmT : (Pt, lamQ) ∈ [(Pt, lamQ)] := List.mem_singleton.mpr rfl
  have hu : ∀ p ∈ [(Pt, lamQ)], p.1 = Pt → p.2 = lamQ := fun p hp _ => by rw [List.mem_singleton.mp hp]
  refine ⟨_, by
    exact (pss_cons (ps_if (pt_cmpR (op_neD hu64) (pe_errof (T := [(Pt, lamQ)]) (k := 11) (t := fun E => tCall (spDecodeX K CH CC) [] E (tCons (tOp rCat (tVar 10) (tLc (iRng1 (tCons (tC (.int 9)) tNil)) (gName 13) tYes (tCall spBelow [] E0 (tCons (tVar 1) (tCons (tC (.int 256)) tNil))) [13])) tNil)) U.N U.EK (by rfl) U.gE U.FE U.bE U.TB rfl hmT hu hr (LamX.lamS_by (sc := defScope sLaw) (by decide +kernel)) rfl (fun _ _ _ _ _ => rfl) (fun A outer s H E f c' hr' => by
          have h8 := Room.mono hr' (show 8 ≤ 11 by decide)
          have h1 := Room.mono hr' (show 1 ≤ 11 by decide)
          exact pe_call U.GDe h8 rfl U.gDe U.kDe U.bDe .nil (passes_call (takes_of rfl rfl rfl rfl) (fun _ _ _ _ h => h)) (pa_cons (pe_op op_cat (pv 10) (pe_lc (own := [("_law_k", 13)]) (g := gName 13) (by rfl) scLaw.nd (pi_range1 (by rfl) T.range (pa_cons pe_int pa_nil)) (blkOk_by (N := nLaw) (by rfl)) (fun _ _ _ _ _ => (pg_name (i := 13) scLaw.nd rfl (Or.inl rfl))) (fun _ _ _ _ _ => by exact pts_nil) (fun _ _ _ _ _ => by exact (pe_cal U.cB h1 (by rfl) (pa_cons (pv 1) (pa_cons pe_int pa_nil)))))) pa_nil))) (pe_tup (pa_cons pe_str (pa_cons (pv 11) pa_nil))) (nomark _)) (pss_one (ps_ret pe_bl)) pss_nil)
      (pss_cons (ps_set (i := 12) scLaw.nd rfl (.inl rfl) (pe_op op_cat (pv 8) (pe_lst (pa_cons pe_int (pa_cons pe_int (pa_cons pe_int (pa_cons pe_int (pa_cons pe_int (pa_cons pe_int (pa_cons pe_int (pa_cons pe_int (pa_cons pe_int pa_nil))))))))))))
      (pss_one (ps_ret (pe_cmpR (op_eqD hu64) (pe_fld (pe_call U.GDe hr8 (by rfl) U.gDe U.kDe U.bDe .nil passL (pa_cons (pe_op op_cat (pv 12) (pe_lst (pa_cons (pe_op op_mod (pe_callB (cr_sum rfl) (by rfl) U.sum (by decide +kernel) (pa_cons (pv 12) pa_nil)) pe_int) pa_nil))) pa_nil)) rfl) (pe_tup (pa_cons (pe_tup (pa_cons pe_int (pa_cons pe_int pa_nil))) (pa_cons (pe_tup (pa_cons pe_int (pa_cons pe_int pa_nil))) pa_nil))) (nomark _)))))), ?_⟩
  intro D H v0 v2 v3 v4 v5 v6 v7 v9 v12 v13 d ah ab st bs pl hd hg tb eh nh eb nb hbl hc k
  refine ⟨tb, fun H1 x1 T1 => ?_⟩
  have hd1 := ExtN_lst x1 hd
  have eh1 := ExtN_lst x1 eh
  have eb1 := ExtN_lst x1 eb
  refine ⟨_, rfl, 9, rfl, by decide, by decide, fun C hC => lc_range (lo := 0) (n := 9) (fun i H2 => ∃ (st2 q : List Int), Kp d H1 H2 ∧ H2 d = some (.lst (st2.map V.int)) ∧ Good st2 ∧ H2 C = some (.lst (q.map V.int)) ∧ q.length = i)
    ⟨st, [], sKp (same_upd hC), same_upd hC _ _ hd1, hg, upd_same, rfl⟩ ?_ ?_⟩
  · rintro i H2 hi ⟨st2, q, k2, hd2, hg2, eC, hql⟩
    have nC : C ≠ d := fun z => by rw [z, hd1] at hC; cases hC
    refine ⟨rfl, _, rfl, d, 256, st2, rfl, hd2, hg2, by decide, by decide, fun H3 st3 r k3 hd3 hg3 r0 r1 => ?_⟩
    refine ⟨_, k3 _ _ nC eC, by rw [List.length_map, hql]; exact Nat.lt_of_lt_of_le hi (by decide), st3, q ++ [r], fun b o nb' e => ?_, ?_, hg3, ?_, by rw [List.length_append, hql]; rfl⟩
    · rw [upd_ne (ne_of_none e hC)]; exact k3 _ _ nb' (k2 _ _ nb' e)
    · rw [upd_ne nC.symm]; exact hd3
    · rw [upd_same, List.map_append]; rfl
  rintro H2 ⟨st2, q, k2, hd2, hg2, eC, hql⟩
  have eb2 := k2 _ _ nb eb1
  have eh2 := k2 _ _ nh eh1
  have tb2 := tabs_kp T1 k2 hd1
  refine ⟨ab, C, _, _, rfl, rfl, eb2, eC, by rw [List.length_map, List.length_map]; exact Nat.le_trans (by omega : _ ≤ 1000) (by decide), fun u hu => ?_⟩
  have s3 := same_upd (o := .lst (bs.map V.int ++ q.map V.int)) hu
  have eu : (upd H2 u (.lst (bs.map V.int ++ q.map V.int))) u = some (.lst ((bs ++ q).map V.int)) := by rw [upd_same, List.map_append]
  generalize upd H2 u (.lst (bs.map V.int ++ q.map V.int)) = H3 at s3 eu
  have edl : dL (bs ++ q) = dL bs ++ dL q := List.map_append ..
  refine .inl ⟨u, _, dL (bs ++ q), rfl, eu, dp_intsL _, fun e ee => ?_, fun r er => by rw [edl, hc] at er; cases er⟩
  rw [edl, hc] at ee
  injection ee with ee
  subst ee
  refine code_told U.eCC fun H4 p s4 ep => ?_
  refine ⟨_, rfl, by show 2 ≤ sizeLine; decide, fun w hw => ?_⟩
  have s5 := same_upd (o := .tup [.str (Str.ofString "code"), .int (pl : Int)]) hw
  have ew : (upd H4 w (.tup [.str (Str.ofString "code"), .int (pl : Int)])) w = some (.tup [.str (Str.ofString "code"), .int (pl : Int)]) := upd_same
  generalize upd H4 w (.tup [.str (Str.ofString "code"), .int (pl : Int)]) = H5 at s5 ew
  refine code_same (s5 _ _ ep) ew ⟨_, rfl, iteF ?_⟩
  have s25 := (s3.trans s4).trans s5
  have eh5 := s25 _ _ eh2
  -- the largest
  refine ⟨_, rfl, by show 9 ≤ sizeLine; decide, fun l1 hl1 => ?_⟩
  have s6 := same_upd (o := .lst (tail9.map V.int)) hl1
  refine cat_ints (H := upd H5 l1 (.lst (tail9.map V.int))) (zs := tail9) (s6 _ _ eh5) upd_same (by decide) fun H7 l2 s7 _ e7 => ?_
  refine ⟨_, rfl, _, rfl, l2, head7 ++ tail9, rfl, SqL.of e7, _, _, rfl, rfl, by show (0 : Int) < 256; decide, by show 1 ≤ sizeLine; decide, fun l3 hl3 => ?_⟩
  have s8 := same_upd (o := .lst ([(head7 ++ tail9).sum % 256].map V.int)) hl3
  refine cat_ints (H := upd H7 l3 (.lst ([(head7 ++ tail9).sum % 256].map V.int))) (zs := [(head7 ++ tail9).sum % 256]) (s8 _ _ e7) upd_same (by decide) fun H8' l4 s8' _ e9 => ?_
  refine .inl ⟨l4, _, dL ((head7 ++ tail9) ++ [(head7 ++ tail9).sum % 256]), rfl, e9, dp_intsL _, (fun e ee => by unfold tail9 at ee; rw [Dk.cL] at ee; cases ee), fun r er => ?_⟩
  unfold tail9 at er
  rw [Dk.cL] at er
  injection er with er
  subst er
  refine ⟨parts_big, fun H9 p s9 hp hh => ?_⟩
  obtain ⟨dx, bT, bC, bR, xr, g1, g2, g3, g4, g5⟩ := hh.ex
  refine ⟨p, CH, dx, _, _, rfl, g1, U.clH, U.nR, hf_rem _ _ _ _, by show 2 ≤ sizeLine; decide, fun t1 ht1 => ?_⟩
  have u1 := same_upd (o := .tup [.int 0, .int 1]) ht1
  have f1 : (upd H9 t1 (.tup [.int 0, .int 1])) t1 = some (.tup [.int 0, .int 1]) := upd_same
  generalize upd H9 t1 (.tup [.int 0, .int 1]) = HA at u1 f1
  refine ⟨by show 2 ≤ sizeLine; decide, fun t2 ht2 => ?_⟩
  have u2 := same_upd (o := .tup [.int 1, .int 0]) ht2
  have f2 : (upd HA t2 (.tup [.int 1, .int 0])) t2 = some (.tup [.int 1, .int 0]) := upd_same
  generalize upd HA t2 (.tup [.int 1, .int 0]) = HB at u2 f2
  refine ⟨by show 2 ≤ sizeLine; decide, fun t3 ht3 => ?_⟩
  have u3 := same_upd (o := .tup [.ref t1, .ref t2]) ht3
  have f3 : (upd HB t3 (.tup [.ref t1, .ref t2])) t3 = some (.tup [.ref t1, .ref t2]) := upd_same
  generalize upd HB t3 (.tup [.ref t1, .ref t2]) = HC at u3 f3
  have u13 := (u1.trans u2).trans u3
  refine ⟨dPrs [(0, 1), (1, 0)], dPrs [(0, 1), (1, 0)], .tup (sSqT u13 g4) (dpAll_prs (g5.mono fun t zs z => u13 _ _ z)), .tup (SqT.of f3) (.cons (.tup (SqT.of (u3 _ _ (u2 _ _ f1))) (.cons (.int _) (.cons (.int _) .nil))) (.cons (.tup (SqT.of (u3 _ _ f2)) (.cons (.int _) (.cons (.int _) .nil))) .nil)), by decide, by decide, ?_⟩
  rw [show PyData.eqv (dPrs [(0, 1), (1, 0)]) (dPrs [(0, 1), (1, 0)]) = true by decide]
  exact k HC
end
end Dk

set_option Elab.async false
set_option linter.all false
set_option maxRecDepth 100000
set_option maxHeartbeats 4000000
namespace Dk
open PySem PySem.Spec PyProof.Rows L2 TL
def cas18 : List (List Int × Nat) := [([74], 0), ([75, 0], 1), ([75, 7], 1), ([75, 1, 0], 2), ([75, 1, 5], 2), ([75, 1, 25], 2), ([75, 1, 2, 2], 3), (head7 ++ [10], 7), (head7 ++ [1, 3], 8), (head7 ++ [1, 1, 2], 9), (head7 ++ [1, 2, 1, 1], 10), (head7 ++ [1, 2, 1, 0], 10), (head7 ++ [1, 0, 11], 9), (head7 ++ [1, 0, 1, 2], 10), (head7 ++ [1, 0, 1, 1, 2], 11), (head7 ++ [1, 0, 2, 1, 1, 0], 12), (head7 ++ [1, 0, 2, 1, 1, 1, 1], 13), (head7 ++ [1, 0, 2, 1, 1, 1, 0], 13)]
theorem cas_ok : ∀ c ∈ cas18, c.1.length ≤ 14 ∧ ∀ t, decR (dL c.1 ++ t) = .error c.2 := by
  intro c hc
  unfold cas18 at hc
  simp only [List.mem_cons, List.not_mem_nil, or_false] at hc
  rcases hc with rfl | rfl | rfl | rfl | rfl | rfl | rfl | rfl | rfl | rfl | rfl | rfl | rfl | rfl | rfl | rfl | rfl | rfl <;> exact ⟨by decide, fun t => rfl⟩
structure CaseAt (d : Addr) (H : Hp) (v : V) (c : List Int × Nat) : Prop where
  ex : ∃ u l, v = .ref u ∧ u ≠ d ∧ l ≠ d ∧ H u = some (.tup [.ref l, .int (c.2 : Int)]) ∧ H l = some (.lst (c.1.map V.int))
theorem CaseAt.mono {d : Addr} {H H' : Hp} {v : V} {c : List Int × Nat} (h : CaseAt d H v c) (k : Kp d H H') : CaseAt d H' v c := by
  obtain ⟨u, l, e, n1, n2, h1, h2⟩ := h
  exact ⟨u, l, e, n1, n2, k _ _ n1 h1, k _ _ n2 h2⟩
def Cas (d : Addr) (H : Hp) (vs : List V) (cs : List (List Int × Nat)) : Prop := Paired (CaseAt d H) vs cs
theorem Cas.mono {d : Addr} {H H' : Hp} : ∀ {vs : List V} {cs : List (List Int × Nat)}, Cas d H vs cs → Kp d H H' → Cas d H' vs cs
  | [], [], .nil, _ => .nil
  | _ :: _, _ :: _, .cons a b, k => .cons (a.mono k) (Cas.mono b k)
theorem Cas.app {d : Addr} {H : Hp} : ∀ {vs ws : List V} {cs es : List (List Int × Nat)}, Cas d H vs cs → Cas d H ws es → Cas d H (vs ++ ws) (cs ++ es)
  | [], _, [], _, .nil, h => h
  | _ :: _, _, _ :: _, _, .cons a b, h => .cons a (Cas.app b h)
theorem Cas.at {d : Addr} {H : Hp} : ∀ {vs : List V} {cs : List (List Int × Nat)} {i : Nat}, Cas d H vs cs → i < cs.length → ∃ v c, vs[i]? = some v ∧ cs[i]? = some c ∧ CaseAt d H v c
  | [], [], _, .nil, h => absurd h (Nat.not_lt_zero _)
  | v :: _, c :: _, 0, .cons a b, _ => ⟨v, c, rfl, rfl, a⟩
  | _ :: _, _ :: _, i + 1, .cons a b, h => by
    obtain ⟨v, c, h1, h2, h3⟩ := Cas.at (i := i) b (Nat.lt_of_succ_lt_succ h)
    exact ⟨v, c, h1, h2, h3⟩
theorem Cas.len {d : Addr} {H : Hp} {vs : List V} {cs : List (List Int × Nat)} (h : Cas d H vs cs) : vs.length = cs.length := Paired.length h
/-- a case that was just laid -/
theorem case_new {d : Addr} {H H' : Hp} {l u : Addr} {xs : List Int} {p : Nat} {v : HO} (hd : H d = some v) (hl : H l = none) (e : H' l = some (.lst (xs.map V.int))) (s : Same H H') (hu : H' u = none) : CaseAt d (upd H' u (.tup [.ref l, .int (p : Int)])) (.ref u) (xs, p) :=
  ⟨u, l, rfl, (ne_of_none (s _ _ hd) hu).symm, (ne_of_none hd hl).symm, upd_same, same_upd hu _ _ e⟩
section
variable {P : Program} {w : World} {K : PySem.W.Frag} {mg : Str → Option Value} {base : Heap} {CH CC fDe fE cL Pt CE : Addr} {fdDe fdE : FuncData} {cs : Nat → Addr}
theorem law_y {f : Addr} {A : Around} {outer : List Env} {s : Shared} {H0 : Hp} {E : XK} (hr : Room 13 (A.deeper (envOfC (Str.ofString "law") (defScope sLaw) s.heap.objs.size f (.ref cL)))) (U : Use P w K mg base CH CC fDe fE cL Pt CE fdDe fdE cs) :
    ∃ tm, PSs (cxOf CX0 P w K mg base nLaw "law" (defScope sLaw) f (.ref cL) A outer s H0 E).nox ((defBody sLaw).drop 19) tm ∧ ∀ (D : Ends) (H : Hp) (v0 v2 v3 v4 v5 v6 v7 v9 v10 v11 v12 v13 : Option V) (d ah ac : Addr) (st : List Int) (vs : List V),
      H d = some (.lst (st.map V.int)) → Good st → LamX.Tabs [(Pt, lamQ)] H → H ah = some (.lst (head7.map V.int)) → ah ≠ d → H ac = some (.lst vs) → ac ≠ d → Cas d H vs cas18 → (∀ H', D.rt (.bl true) H') →
      tm D [v0, some (.ref d), v2, v3, v4, v5, v6, v7, some (.ref ah), some (.ref ac), v10, v11, v12, v13] H := by
  have hr1 : Room 1 (A.deeper (envOfC (Str.ofString "law") (defScope sLaw) s.heap.objs.size f (.ref cL))) := hr.mono (by decide)
  obtain ⟨tmN, pN, hN⟩ := law_z (P := P) (w := w) (K := K) (mg := mg) (base := base) (CH := CH) (CC := CC) (f := f) (A := A) (outer := outer) (s := s) (H0 := H0) (E := E) hr U
  refine ⟨_, by
    exact (pss_cons (ps_asg (pe_ix ix_list (pv 9) (pe_cal U.cB hr1 (by rfl) (pa_cons (pv 1) (pa_cons pe_int pa_nil))) (fun _ _ => rfl)) (pg_tup rfl (pgs_cons (pg_name (i := 10) scLaw.nd rfl (.inr rfl)) (pgs_cons (pg_name (i := 11) scLaw.nd rfl (.inl rfl)) pgs_nil)))) pN), ?_⟩
  intro D H v0 v2 v3 v4 v5 v6 v7 v9 v10 v11 v12 v13 d ah ac st vs hd hg tb eh nh ec nc hc k
  refine ⟨_, rfl, _, rfl, d, 18, st, rfl, hd, hg, by decide, by decide, fun H1 st1 r k1 hd1 hg1 r0 r1 => ?_⟩
  have h18 : cas18.length = 18 := by decide
  obtain ⟨v, c, e1, e2, ⟨u, l, rfl, n1, n2, h1, h2⟩⟩ := (hc.mono k1).at (i := r.toNat) (by rw [h18]; omega)
  obtain ⟨z1, z2⟩ := cas_ok c (List.mem_of_getElem? e2)
  refine ⟨ac, vs, r, .ref u, rfl, rfl, SqL.of (k1 _ _ nc ec), ?_, u, _, rfl, SqT.of h1, rfl, _, _, rfl, _, _, rfl, rfl, ?_⟩
  · have := atI_nat e1
    rw [Int.toNat_of_nonneg r0] at this; exact this
  exact hN D H1 _ _ _ _ _ _ _ _ _ _ d ah l st1 c.1 c.2 hd1 hg1 (tabs_kp tb k1 hd) (k1 _ _ nh eh) nh h2 n2 z1 z2 k
theorem law_x18 {f : Addr} {A : Around} {outer : List Env} {s : Shared} {H0 : Hp} {E : XK} (hr : Room 13 (A.deeper (envOfC (Str.ofString "law") (defScope sLaw) s.heap.objs.size f (.ref cL)))) (U : Use P w K mg base CH CC fDe fE cL Pt CE fdDe fdE cs) :
    ∃ tm, PSs (cxOf CX0 P w K mg base nLaw "law" (defScope sLaw) f (.ref cL) A outer s H0 E).nox ((defBody sLaw).drop 18) tm ∧ ∀ (D : Ends) (H : Hp) (v0 v2 v3 v4 v5 v6 v7 v9 v10 v11 v12 v13 : Option V) (d ah ac : Addr) (st : List Int) (vs : List V),
      H d = some (.lst (st.map V.int)) → Good st → LamX.Tabs [(Pt, lamQ)] H → H ah = some (.lst (head7.map V.int)) → ah ≠ d → H ac = some (.lst vs) → ac ≠ d → Cas d H vs (cas18.take 16) → (∀ H', D.rt (.bl true) H') →
      tm D [v0, some (.ref d), v2, v3, v4, v5, v6, v7, some (.ref ah), some (.ref ac), v10, v11, v12, v13] H := by
  have hr1 : Room 1 (A.deeper (envOfC (Str.ofString "law") (defScope sLaw) s.heap.objs.size f (.ref cL))) := hr.mono (by decide)
  obtain ⟨tmN, pN, hN⟩ := law_y (P := P) (w := w) (K := K) (mg := mg) (base := base) (CH := CH) (CC := CC) (f := f) (A := A) (outer := outer) (s := s) (H0 := H0) (E := E) hr U
  refine ⟨_, by
    exact (pss_cons (ps_set (i := 9) scLaw.nd rfl (.inl rfl) (pe_op op_cat (pv 9) (pe_lst (pa_cons (pe_tup (pa_cons (pe_op op_cat (pv 8) (pe_lst (pa_cons pe_int (pa_cons pe_int (pa_cons pe_int (pa_cons pe_int (pa_cons pe_int (pa_cons pe_int (pa_cons pe_int pa_nil))))))))) (pa_cons pe_int pa_nil))) (pa_cons (pe_tup (pa_cons (pe_op op_cat (pv 8) (pe_lst (pa_cons pe_int (pa_cons pe_int (pa_cons pe_int (pa_cons pe_int (pa_cons pe_int (pa_cons pe_int (pa_cons pe_int pa_nil))))))))) (pa_cons pe_int pa_nil))) pa_nil))))) pN), ?_⟩
  intro D H v0 v2 v3 v4 v5 v6 v7 v9 v10 v11 v12 v13 d ah ac st vs hd hg tb eh nh ec nc hc k
  refine ⟨_, rfl, _, rfl, by show 7 ≤ sizeLine; decide, fun l0 hl0 => ?_⟩
  have a0 := same_upd (o := .lst (([1, 0, 2, 1, 1, 1, 1] : List Int).map V.int)) hl0
  refine cat_ints (H := upd H l0 (.lst (([1, 0, 2, 1, 1, 1, 1] : List Int).map V.int))) (zs := [1, 0, 2, 1, 1, 1, 1]) (a0 _ _ eh) upd_same (by decide) fun Y0 q0 b0 n0 e0 => ?_
  have c0 := ((Same.refl H).trans a0).trans b0
  refine ⟨by show 2 ≤ sizeLine; decide, fun u0 hu0 => ?_⟩
  have C0 := case_new (p := 13) (((Same.refl H).trans a0) _ _ hd) n0 e0 b0 hu0
  have d0 := same_upd (o := .tup [.ref q0, .int ((13 : Nat) : Int)]) hu0
  have S0 := c0.trans d0
  have G0 : Cas d (upd Y0 u0 (.tup [.ref q0, .int ((13 : Nat) : Int)])) [.ref u0] [(head7 ++ [1, 0, 2, 1, 1, 1, 1], 13)] := .cons C0 .nil
  refine ⟨_, rfl, by show 7 ≤ sizeLine; decide, fun l1 hl1 => ?_⟩
  have a1 := same_upd (o := .lst (([1, 0, 2, 1, 1, 1, 0] : List Int).map V.int)) hl1
  refine cat_ints (H := upd (upd Y0 u0 (.tup [.ref q0, .int ((13 : Nat) : Int)])) l1 (.lst (([1, 0, 2, 1, 1, 1, 0] : List Int).map V.int))) (zs := [1, 0, 2, 1, 1, 1, 0]) (a1 _ _ (S0 _ _ eh)) upd_same (by decide) fun Y1 q1 b1 n1 e1 => ?_
  have c1 := (S0.trans a1).trans b1
  refine ⟨by show 2 ≤ sizeLine; decide, fun u1 hu1 => ?_⟩
  have C1 := case_new (p := 13) ((S0.trans a1) _ _ hd) n1 e1 b1 hu1
  have d1 := same_upd (o := .tup [.ref q1, .int ((13 : Nat) : Int)]) hu1
  have S1 := c1.trans d1
  have G1 := (G0.mono (sKp ((a1.trans b1).trans d1))).app (show Cas d _ [.ref u1] [(head7 ++ [1, 0, 2, 1, 1, 1, 0], 13)] from .cons C1 .nil)
  refine ⟨by show 2 ≤ sizeLine; decide, fun L hL => ?_⟩
  have sL := same_upd (o := .lst [.ref u0, .ref u1]) hL
  have sA := S1.trans sL
  refine ⟨ac, L, vs, _, rfl, rfl, sA _ _ ec, upd_same, by rw [hc.len]; exact (show 16 + 2 ≤ sizeLine by decide), fun M hM => ?_⟩
  have sM := same_upd (o := .lst (vs ++ [.ref u0, .ref u1])) hM
  have sB := sA.trans sM
  exact hN D _ _ _ _ _ _ _ _ none _ _ _ _ d ah M st _ (sB _ _ hd) hg (tb.ext sB) (sB _ _ eh) nh upd_same (ne_of_none (sA _ _ hd) hM).symm ((hc.mono (sKp sB)).app (G1.mono (sKp (sL.trans sM)))) k
theorem law_x17 {f : Addr} {A : Around} {outer : List Env} {s : Shared} {H0 : Hp} {E : XK} (hr : Room 13 (A.deeper (envOfC (Str.ofString "law") (defScope sLaw) s.heap.objs.size f (.ref cL)))) (U : Use P w K mg base CH CC fDe fE cL Pt CE fdDe fdE cs) :
    ∃ tm, PSs (cxOf CX0 P w K mg base nLaw "law" (defScope sLaw) f (.ref cL) A outer s H0 E).nox ((defBody sLaw).drop 17) tm ∧ ∀ (D : Ends) (H : Hp) (v0 v2 v3 v4 v5 v6 v7 v9 v10 v11 v12 v13 : Option V) (d ah ac : Addr) (st : List Int) (vs : List V),
      H d = some (.lst (st.map V.int)) → Good st → LamX.Tabs [(Pt, lamQ)] H → H ah = some (.lst (head7.map V.int)) → ah ≠ d → H ac = some (.lst vs) → ac ≠ d → Cas d H vs (cas18.take 14) → (∀ H', D.rt (.bl true) H') →
      tm D [v0, some (.ref d), v2, v3, v4, v5, v6, v7, some (.ref ah), some (.ref ac), v10, v11, v12, v13] H := by
  have hr1 : Room 1 (A.deeper (envOfC (Str.ofString "law") (defScope sLaw) s.heap.objs.size f (.ref cL))) := hr.mono (by decide)
  obtain ⟨tmN, pN, hN⟩ := law_x18 (P := P) (w := w) (K := K) (mg := mg) (base := base) (CH := CH) (CC := CC) (f := f) (A := A) (outer := outer) (s := s) (H0 := H0) (E := E) hr U
  refine ⟨_, by
    exact (pss_cons (ps_set (i := 9) scLaw.nd rfl (.inl rfl) (pe_op op_cat (pv 9) (pe_lst (pa_cons (pe_tup (pa_cons (pe_op op_cat (pv 8) (pe_lst (pa_cons pe_int (pa_cons pe_int (pa_cons pe_int (pa_cons pe_int (pa_cons pe_int pa_nil))))))) (pa_cons pe_int pa_nil))) (pa_cons (pe_tup (pa_cons (pe_op op_cat (pv 8) (pe_lst (pa_cons pe_int (pa_cons pe_int (pa_cons pe_int (pa_cons pe_int (pa_cons pe_int (pa_cons pe_int pa_nil)))))))) (pa_cons pe_int pa_nil))) pa_nil))))) pN), ?_⟩
  intro D H v0 v2 v3 v4 v5 v6 v7 v9 v10 v11 v12 v13 d ah ac st vs hd hg tb eh nh ec nc hc k
  refine ⟨_, rfl, _, rfl, by show 5 ≤ sizeLine; decide, fun l0 hl0 => ?_⟩
  have a0 := same_upd (o := .lst (([1, 0, 1, 1, 2] : List Int).map V.int)) hl0
  refine cat_ints (H := upd H l0 (.lst (([1, 0, 1, 1, 2] : List Int).map V.int))) (zs := [1, 0, 1, 1, 2]) (a0 _ _ eh) upd_same (by decide) fun Y0 q0 b0 n0 e0 => ?_
  have c0 := ((Same.refl H).trans a0).trans b0
  refine ⟨by show 2 ≤ sizeLine; decide, fun u0 hu0 => ?_⟩
  have C0 := case_new (p := 11) (((Same.refl H).trans a0) _ _ hd) n0 e0 b0 hu0
  have d0 := same_upd (o := .tup [.ref q0, .int ((11 : Nat) : Int)]) hu0
  have S0 := c0.trans d0
  have G0 : Cas d (upd Y0 u0 (.tup [.ref q0, .int ((11 : Nat) : Int)])) [.ref u0] [(head7 ++ [1, 0, 1, 1, 2], 11)] := .cons C0 .nil
  refine ⟨_, rfl, by show 6 ≤ sizeLine; decide, fun l1 hl1 => ?_⟩
  have a1 := same_upd (o := .lst (([1, 0, 2, 1, 1, 0] : List Int).map V.int)) hl1
  refine cat_ints (H := upd (upd Y0 u0 (.tup [.ref q0, .int ((11 : Nat) : Int)])) l1 (.lst (([1, 0, 2, 1, 1, 0] : List Int).map V.int))) (zs := [1, 0, 2, 1, 1, 0]) (a1 _ _ (S0 _ _ eh)) upd_same (by decide) fun Y1 q1 b1 n1 e1 => ?_
  have c1 := (S0.trans a1).trans b1
  refine ⟨by show 2 ≤ sizeLine; decide, fun u1 hu1 => ?_⟩
  have C1 := case_new (p := 12) ((S0.trans a1) _ _ hd) n1 e1 b1 hu1
  have d1 := same_upd (o := .tup [.ref q1, .int ((12 : Nat) : Int)]) hu1
  have S1 := c1.trans d1
  have G1 := (G0.mono (sKp ((a1.trans b1).trans d1))).app (show Cas d _ [.ref u1] [(head7 ++ [1, 0, 2, 1, 1, 0], 12)] from .cons C1 .nil)
  refine ⟨by show 2 ≤ sizeLine; decide, fun L hL => ?_⟩
  have sL := same_upd (o := .lst [.ref u0, .ref u1]) hL
  have sA := S1.trans sL
  refine ⟨ac, L, vs, _, rfl, rfl, sA _ _ ec, upd_same, by rw [hc.len]; exact (show 14 + 2 ≤ sizeLine by decide), fun M hM => ?_⟩
  have sM := same_upd (o := .lst (vs ++ [.ref u0, .ref u1])) hM
  have sB := sA.trans sM
  exact hN D _ _ _ _ _ _ _ _ none _ _ _ _ d ah M st _ (sB _ _ hd) hg (tb.ext sB) (sB _ _ eh) nh upd_same (ne_of_none (sA _ _ hd) hM).symm ((hc.mono (sKp sB)).app (G1.mono (sKp (sL.trans sM)))) k
theorem law_x16 {f : Addr} {A : Around} {outer : List Env} {s : Shared} {H0 : Hp} {E : XK} (hr : Room 13 (A.deeper (envOfC (Str.ofString "law") (defScope sLaw) s.heap.objs.size f (.ref cL)))) (U : Use P w K mg base CH CC fDe fE cL Pt CE fdDe fdE cs) :
    ∃ tm, PSs (cxOf CX0 P w K mg base nLaw "law" (defScope sLaw) f (.ref cL) A outer s H0 E).nox ((defBody sLaw).drop 16) tm ∧ ∀ (D : Ends) (H : Hp) (v0 v2 v3 v4 v5 v6 v7 v9 v10 v11 v12 v13 : Option V) (d ah ac : Addr) (st : List Int) (vs : List V),
      H d = some (.lst (st.map V.int)) → Good st → LamX.Tabs [(Pt, lamQ)] H → H ah = some (.lst (head7.map V.int)) → ah ≠ d → H ac = some (.lst vs) → ac ≠ d → Cas d H vs (cas18.take 11) → (∀ H', D.rt (.bl true) H') →
      tm D [v0, some (.ref d), v2, v3, v4, v5, v6, v7, some (.ref ah), some (.ref ac), v10, v11, v12, v13] H := by
  have hr1 : Room 1 (A.deeper (envOfC (Str.ofString "law") (defScope sLaw) s.heap.objs.size f (.ref cL))) := hr.mono (by decide)
  obtain ⟨tmN, pN, hN⟩ := law_x17 (P := P) (w := w) (K := K) (mg := mg) (base := base) (CH := CH) (CC := CC) (f := f) (A := A) (outer := outer) (s := s) (H0 := H0) (E := E) hr U
  refine ⟨_, by
    exact (pss_cons (ps_set (i := 9) scLaw.nd rfl (.inl rfl) (pe_op op_cat (pv 9) (pe_lst (pa_cons (pe_tup (pa_cons (pe_op op_cat (pv 8) (pe_lst (pa_cons pe_int (pa_cons pe_int (pa_cons pe_int (pa_cons pe_int pa_nil)))))) (pa_cons pe_int pa_nil))) (pa_cons (pe_tup (pa_cons (pe_op op_cat (pv 8) (pe_lst (pa_cons pe_int (pa_cons pe_int (pa_cons pe_int pa_nil))))) (pa_cons pe_int pa_nil))) (pa_cons (pe_tup (pa_cons (pe_op op_cat (pv 8) (pe_lst (pa_cons pe_int (pa_cons pe_int (pa_cons pe_int (pa_cons pe_int pa_nil)))))) (pa_cons pe_int pa_nil))) pa_nil)))))) pN), ?_⟩
  intro D H v0 v2 v3 v4 v5 v6 v7 v9 v10 v11 v12 v13 d ah ac st vs hd hg tb eh nh ec nc hc k
  refine ⟨_, rfl, _, rfl, by show 4 ≤ sizeLine; decide, fun l0 hl0 => ?_⟩
  have a0 := same_upd (o := .lst (([1, 2, 1, 0] : List Int).map V.int)) hl0
  refine cat_ints (H := upd H l0 (.lst (([1, 2, 1, 0] : List Int).map V.int))) (zs := [1, 2, 1, 0]) (a0 _ _ eh) upd_same (by decide) fun Y0 q0 b0 n0 e0 => ?_
  have c0 := ((Same.refl H).trans a0).trans b0
  refine ⟨by show 2 ≤ sizeLine; decide, fun u0 hu0 => ?_⟩
  have C0 := case_new (p := 10) (((Same.refl H).trans a0) _ _ hd) n0 e0 b0 hu0
  have d0 := same_upd (o := .tup [.ref q0, .int ((10 : Nat) : Int)]) hu0
  have S0 := c0.trans d0
  have G0 : Cas d (upd Y0 u0 (.tup [.ref q0, .int ((10 : Nat) : Int)])) [.ref u0] [(head7 ++ [1, 2, 1, 0], 10)] := .cons C0 .nil
  refine ⟨_, rfl, by show 3 ≤ sizeLine; decide, fun l1 hl1 => ?_⟩
  have a1 := same_upd (o := .lst (([1, 0, 11] : List Int).map V.int)) hl1
  refine cat_ints (H := upd (upd Y0 u0 (.tup [.ref q0, .int ((10 : Nat) : Int)])) l1 (.lst (([1, 0, 11] : List Int).map V.int))) (zs := [1, 0, 11]) (a1 _ _ (S0 _ _ eh)) upd_same (by decide) fun Y1 q1 b1 n1 e1 => ?_
  have c1 := (S0.trans a1).trans b1
  refine ⟨by show 2 ≤ sizeLine; decide, fun u1 hu1 => ?_⟩
  have C1 := case_new (p := 9) ((S0.trans a1) _ _ hd) n1 e1 b1 hu1
  have d1 := same_upd (o := .tup [.ref q1, .int ((9 : Nat) : Int)]) hu1
  have S1 := c1.trans d1
  have G1 := (G0.mono (sKp ((a1.trans b1).trans d1))).app (show Cas d _ [.ref u1] [(head7 ++ [1, 0, 11], 9)] from .cons C1 .nil)
  refine ⟨_, rfl, by show 4 ≤ sizeLine; decide, fun l2 hl2 => ?_⟩
  have a2 := same_upd (o := .lst (([1, 0, 1, 2] : List Int).map V.int)) hl2
  refine cat_ints (H := upd (upd Y1 u1 (.tup [.ref q1, .int ((9 : Nat) : Int)])) l2 (.lst (([1, 0, 1, 2] : List Int).map V.int))) (zs := [1, 0, 1, 2]) (a2 _ _ (S1 _ _ eh)) upd_same (by decide) fun Y2 q2 b2 n2 e2 => ?_
  have c2 := (S1.trans a2).trans b2
  refine ⟨by show 2 ≤ sizeLine; decide, fun u2 hu2 => ?_⟩
  have C2 := case_new (p := 10) ((S1.trans a2) _ _ hd) n2 e2 b2 hu2
  have d2 := same_upd (o := .tup [.ref q2, .int ((10 : Nat) : Int)]) hu2
  have S2 := c2.trans d2
  have G2 := (G1.mono (sKp ((a2.trans b2).trans d2))).app (show Cas d _ [.ref u2] [(head7 ++ [1, 0, 1, 2], 10)] from .cons C2 .nil)
  refine ⟨by show 3 ≤ sizeLine; decide, fun L hL => ?_⟩
  have sL := same_upd (o := .lst [.ref u0, .ref u1, .ref u2]) hL
  have sA := S2.trans sL
  refine ⟨ac, L, vs, _, rfl, rfl, sA _ _ ec, upd_same, by rw [hc.len]; exact (show 11 + 3 ≤ sizeLine by decide), fun M hM => ?_⟩
  have sM := same_upd (o := .lst (vs ++ [.ref u0, .ref u1, .ref u2])) hM
  have sB := sA.trans sM
  exact hN D _ _ _ _ _ _ _ _ none _ _ _ _ d ah M st _ (sB _ _ hd) hg (tb.ext sB) (sB _ _ eh) nh upd_same (ne_of_none (sA _ _ hd) hM).symm ((hc.mono (sKp sB)).app (G2.mono (sKp (sL.trans sM)))) k
theorem law_x15 {f : Addr} {A : Around} {outer : List Env} {s : Shared} {H0 : Hp} {E : XK} (hr : Room 13 (A.deeper (envOfC (Str.ofString "law") (defScope sLaw) s.heap.objs.size f (.ref cL)))) (U : Use P w K mg base CH CC fDe fE cL Pt CE fdDe fdE cs) :
    ∃ tm, PSs (cxOf CX0 P w K mg base nLaw "law" (defScope sLaw) f (.ref cL) A outer s H0 E).nox ((defBody sLaw).drop 15) tm ∧ ∀ (D : Ends) (H : Hp) (v0 v2 v3 v4 v5 v6 v7 v9 v10 v11 v12 v13 : Option V) (d ah ac : Addr) (st : List Int) (vs : List V),
      H d = some (.lst (st.map V.int)) → Good st → LamX.Tabs [(Pt, lamQ)] H → H ah = some (.lst (head7.map V.int)) → ah ≠ d → H ac = some (.lst vs) → ac ≠ d → Cas d H vs (cas18.take 7) → (∀ H', D.rt (.bl true) H') →
      tm D [v0, some (.ref d), v2, v3, v4, v5, v6, v7, some (.ref ah), some (.ref ac), v10, v11, v12, v13] H := by
  have hr1 : Room 1 (A.deeper (envOfC (Str.ofString "law") (defScope sLaw) s.heap.objs.size f (.ref cL))) := hr.mono (by decide)
  obtain ⟨tmN, pN, hN⟩ := law_x16 (P := P) (w := w) (K := K) (mg := mg) (base := base) (CH := CH) (CC := CC) (f := f) (A := A) (outer := outer) (s := s) (H0 := H0) (E := E) hr U
  refine ⟨_, by
    exact (pss_cons (ps_set (i := 9) scLaw.nd rfl (.inl rfl) (pe_op op_cat (pv 9) (pe_lst (pa_cons (pe_tup (pa_cons (pe_op op_cat (pv 8) (pe_lst (pa_cons pe_int pa_nil))) (pa_cons pe_int pa_nil))) (pa_cons (pe_tup (pa_cons (pe_op op_cat (pv 8) (pe_lst (pa_cons pe_int (pa_cons pe_int pa_nil)))) (pa_cons pe_int pa_nil))) (pa_cons (pe_tup (pa_cons (pe_op op_cat (pv 8) (pe_lst (pa_cons pe_int (pa_cons pe_int (pa_cons pe_int pa_nil))))) (pa_cons pe_int pa_nil))) (pa_cons (pe_tup (pa_cons (pe_op op_cat (pv 8) (pe_lst (pa_cons pe_int (pa_cons pe_int (pa_cons pe_int (pa_cons pe_int pa_nil)))))) (pa_cons pe_int pa_nil))) pa_nil))))))) pN), ?_⟩
  intro D H v0 v2 v3 v4 v5 v6 v7 v9 v10 v11 v12 v13 d ah ac st vs hd hg tb eh nh ec nc hc k
  refine ⟨_, rfl, _, rfl, by show 1 ≤ sizeLine; decide, fun l0 hl0 => ?_⟩
  have a0 := same_upd (o := .lst (([10] : List Int).map V.int)) hl0
  refine cat_ints (H := upd H l0 (.lst (([10] : List Int).map V.int))) (zs := [10]) (a0 _ _ eh) upd_same (by decide) fun Y0 q0 b0 n0 e0 => ?_
  have c0 := ((Same.refl H).trans a0).trans b0
  refine ⟨by show 2 ≤ sizeLine; decide, fun u0 hu0 => ?_⟩
  have C0 := case_new (p := 7) (((Same.refl H).trans a0) _ _ hd) n0 e0 b0 hu0
  have d0 := same_upd (o := .tup [.ref q0, .int ((7 : Nat) : Int)]) hu0
  have S0 := c0.trans d0
  have G0 : Cas d (upd Y0 u0 (.tup [.ref q0, .int ((7 : Nat) : Int)])) [.ref u0] [(head7 ++ [10], 7)] := .cons C0 .nil
  refine ⟨_, rfl, by show 2 ≤ sizeLine; decide, fun l1 hl1 => ?_⟩
  have a1 := same_upd (o := .lst (([1, 3] : List Int).map V.int)) hl1
  refine cat_ints (H := upd (upd Y0 u0 (.tup [.ref q0, .int ((7 : Nat) : Int)])) l1 (.lst (([1, 3] : List Int).map V.int))) (zs := [1, 3]) (a1 _ _ (S0 _ _ eh)) upd_same (by decide) fun Y1 q1 b1 n1 e1 => ?_
  have c1 := (S0.trans a1).trans b1
  refine ⟨by show 2 ≤ sizeLine; decide, fun u1 hu1 => ?_⟩
  have C1 := case_new (p := 8) ((S0.trans a1) _ _ hd) n1 e1 b1 hu1
  have d1 := same_upd (o := .tup [.ref q1, .int ((8 : Nat) : Int)]) hu1
  have S1 := c1.trans d1
  have G1 := (G0.mono (sKp ((a1.trans b1).trans d1))).app (show Cas d _ [.ref u1] [(head7 ++ [1, 3], 8)] from .cons C1 .nil)
  refine ⟨_, rfl, by show 3 ≤ sizeLine; decide, fun l2 hl2 => ?_⟩
  have a2 := same_upd (o := .lst (([1, 1, 2] : List Int).map V.int)) hl2
  refine cat_ints (H := upd (upd Y1 u1 (.tup [.ref q1, .int ((8 : Nat) : Int)])) l2 (.lst (([1, 1, 2] : List Int).map V.int))) (zs := [1, 1, 2]) (a2 _ _ (S1 _ _ eh)) upd_same (by decide) fun Y2 q2 b2 n2 e2 => ?_
  have c2 := (S1.trans a2).trans b2
  refine ⟨by show 2 ≤ sizeLine; decide, fun u2 hu2 => ?_⟩
  have C2 := case_new (p := 9) ((S1.trans a2) _ _ hd) n2 e2 b2 hu2
  have d2 := same_upd (o := .tup [.ref q2, .int ((9 : Nat) : Int)]) hu2
  have S2 := c2.trans d2
  have G2 := (G1.mono (sKp ((a2.trans b2).trans d2))).app (show Cas d _ [.ref u2] [(head7 ++ [1, 1, 2], 9)] from .cons C2 .nil)
  refine ⟨_, rfl, by show 4 ≤ sizeLine; decide, fun l3 hl3 => ?_⟩
  have a3 := same_upd (o := .lst (([1, 2, 1, 1] : List Int).map V.int)) hl3
  refine cat_ints (H := upd (upd Y2 u2 (.tup [.ref q2, .int ((9 : Nat) : Int)])) l3 (.lst (([1, 2, 1, 1] : List Int).map V.int))) (zs := [1, 2, 1, 1]) (a3 _ _ (S2 _ _ eh)) upd_same (by decide) fun Y3 q3 b3 n3 e3 => ?_
  have c3 := (S2.trans a3).trans b3
  refine ⟨by show 2 ≤ sizeLine; decide, fun u3 hu3 => ?_⟩
  have C3 := case_new (p := 10) ((S2.trans a3) _ _ hd) n3 e3 b3 hu3
  have d3 := same_upd (o := .tup [.ref q3, .int ((10 : Nat) : Int)]) hu3
  have S3 := c3.trans d3
  have G3 := (G2.mono (sKp ((a3.trans b3).trans d3))).app (show Cas d _ [.ref u3] [(head7 ++ [1, 2, 1, 1], 10)] from .cons C3 .nil)
  refine ⟨by show 4 ≤ sizeLine; decide, fun L hL => ?_⟩
  have sL := same_upd (o := .lst [.ref u0, .ref u1, .ref u2, .ref u3]) hL
  have sA := S3.trans sL
  refine ⟨ac, L, vs, _, rfl, rfl, sA _ _ ec, upd_same, by rw [hc.len]; exact (show 7 + 4 ≤ sizeLine by decide), fun M hM => ?_⟩
  have sM := same_upd (o := .lst (vs ++ [.ref u0, .ref u1, .ref u2, .ref u3])) hM
  have sB := sA.trans sM
  exact hN D _ _ _ _ _ _ _ _ none _ _ _ _ d ah M st _ (sB _ _ hd) hg (tb.ext sB) (sB _ _ eh) nh upd_same (ne_of_none (sA _ _ hd) hM).symm ((hc.mono (sKp sB)).app (G3.mono (sKp (sL.trans sM)))) k
theorem law_x14 {f : Addr} {A : Around} {outer : List Env} {s : Shared} {H0 : Hp} {E : XK} (hr : Room 13 (A.deeper (envOfC (Str.ofString "law") (defScope sLaw) s.heap.objs.size f (.ref cL)))) (U : Use P w K mg base CH CC fDe fE cL Pt CE fdDe fdE cs) :
    ∃ tm, PSs (cxOf CX0 P w K mg base nLaw "law" (defScope sLaw) f (.ref cL) A outer s H0 E).nox ((defBody sLaw).drop 14) tm ∧ ∀ (D : Ends) (H : Hp) (v0 v2 v3 v4 v5 v6 v7 v9 v10 v11 v12 v13 : Option V) (d ah ac : Addr) (st : List Int) (vs : List V),
      H d = some (.lst (st.map V.int)) → Good st → LamX.Tabs [(Pt, lamQ)] H → H ah = some (.lst (head7.map V.int)) → ah ≠ d → H ac = some (.lst vs) → ac ≠ d → ac ≠ ah → (∀ H', Kp ac H H' → Cas d H' vs (cas18.take 6)) → (∀ H', D.rt (.bl true) H') →
      tm D [v0, some (.ref d), v2, v3, v4, v5, v6, v7, some (.ref ah), some (.ref ac), v10, v11, v12, v13] H := by
  have hr1 : Room 1 (A.deeper (envOfC (Str.ofString "law") (defScope sLaw) s.heap.objs.size f (.ref cL))) := hr.mono (by decide)
  obtain ⟨tmN, pN, hN⟩ := law_x15 (P := P) (w := w) (K := K) (mg := mg) (base := base) (CH := CH) (CC := CC) (f := f) (A := A) (outer := outer) (s := s) (H0 := H0) (E := E) hr U
  refine ⟨_, by
    exact (pss_cons (ps_expr (pe_bm PySem.F.plainAttrs_list PySem.F.slot_list_append PySem.F.type_list_append mt_append (pv 9) (pa_cons (pe_tup (pa_cons (pe_lst (pa_cons pe_int (pa_cons pe_int (pa_cons pe_int (pa_cons pe_int pa_nil))))) (pa_cons pe_int pa_nil))) pa_nil))) pN), ?_⟩
  intro D H v0 v2 v3 v4 v5 v6 v7 v9 v10 v11 v12 v13 d ah ac st vs hd hg tb eh nh ec nc nca hc k
  have hlen := (hc H Kp.refl).len
  refine ⟨_, rfl, .inl ⟨rfl, _, SqL.of ec⟩, by show 4 ≤ sizeLine; decide, fun l0 hl0 => ?_⟩
  have a0 := same_upd (o := .lst (([75, 1, 2, 2] : List Int).map V.int)) hl0
  refine ⟨by show 2 ≤ sizeLine; decide, fun u0 hu0 => ?_⟩
  have C0 : CaseAt d (upd (upd H l0 (.lst (([75, 1, 2, 2] : List Int).map V.int))) u0 (.tup [.ref l0, .int ((3 : Nat) : Int)])) (.ref u0) ([75, 1, 2, 2], 3) := case_new hd hl0 upd_same a0 hu0
  have a1 := same_upd (o := .tup [.ref l0, .int ((3 : Nat) : Int)]) hu0
  have s2 := a0.trans a1
  have ec2 := s2 _ _ ec
  refine ⟨ac, _, _, rfl, rfl, ec2, Nat.lt_of_le_of_lt (by rw [hlen]; decide : vs.length ≤ 1000) (by decide), ?_⟩
  have kk : Kp ac (upd (upd H l0 (.lst (([75, 1, 2, 2] : List Int).map V.int))) u0 (.tup [.ref l0, .int ((3 : Nat) : Int)])) _ := kp_upd (o := .lst (vs ++ [.ref u0]))
  refine hN D _ _ _ _ _ _ _ _ none _ _ _ _ d ah ac st (vs ++ [.ref u0]) (kk _ _ nc.symm (s2 _ _ hd)) hg (tabs_kp (tb.ext s2) kk ec2) (kk _ _ nca.symm (s2 _ _ eh)) nh upd_same nc ?_ k
  exact Cas.app (hc _ ((sKp s2).trans kk)) (.cons ⟨u0, l0, rfl, (ne_of_none (a0 _ _ hd) hu0).symm, (ne_of_none hd hl0).symm, kk _ _ (ne_of_none (a0 _ _ ec) hu0).symm upd_same, kk _ _ (ne_of_none ec hl0).symm (a1 _ _ upd_same)⟩ .nil)
theorem law_x13 {f : Addr} {A : Around} {outer : List Env} {s : Shared} {H0 : Hp} {E : XK} (hr : Room 13 (A.deeper (envOfC (Str.ofString "law") (defScope sLaw) s.heap.objs.size f (.ref cL)))) (U : Use P w K mg base CH CC fDe fE cL Pt CE fdDe fdE cs) :
    ∃ tm, PSs (cxOf CX0 P w K mg base nLaw "law" (defScope sLaw) f (.ref cL) A outer s H0 E).nox ((defBody sLaw).drop 13) tm ∧ ∀ (D : Ends) (H : Hp) (v0 v2 v3 v4 v5 v6 v7 v9 v10 v11 v12 v13 : Option V) (d ah ac : Addr) (st : List Int) (vs : List V),
      H d = some (.lst (st.map V.int)) → Good st → LamX.Tabs [(Pt, lamQ)] H → H ah = some (.lst (head7.map V.int)) → ah ≠ d →  (∀ H', D.rt (.bl true) H') →
      tm D [v0, some (.ref d), v2, v3, v4, v5, v6, v7, some (.ref ah), v9, v10, v11, v12, v13] H := by
  have hr1 : Room 1 (A.deeper (envOfC (Str.ofString "law") (defScope sLaw) s.heap.objs.size f (.ref cL))) := hr.mono (by decide)
  obtain ⟨tmN, pN, hN⟩ := law_x14 (P := P) (w := w) (K := K) (mg := mg) (base := base) (CH := CH) (CC := CC) (f := f) (A := A) (outer := outer) (s := s) (H0 := H0) (E := E) hr U
  refine ⟨_, by
    exact (pss_cons (ps_set (i := 9) scLaw.nd rfl (.inl rfl) (pe_lst (pa_cons (pe_tup (pa_cons (pe_lst (pa_cons pe_int pa_nil)) (pa_cons pe_int pa_nil))) (pa_cons (pe_tup (pa_cons (pe_lst (pa_cons pe_int (pa_cons pe_int pa_nil))) (pa_cons pe_int pa_nil))) (pa_cons (pe_tup (pa_cons (pe_lst (pa_cons pe_int (pa_cons pe_int pa_nil))) (pa_cons pe_int pa_nil))) (pa_cons (pe_tup (pa_cons (pe_lst (pa_cons pe_int (pa_cons pe_int (pa_cons pe_int pa_nil)))) (pa_cons pe_int pa_nil))) (pa_cons (pe_tup (pa_cons (pe_lst (pa_cons pe_int (pa_cons pe_int (pa_cons pe_int pa_nil)))) (pa_cons pe_int pa_nil))) (pa_cons (pe_tup (pa_cons (pe_lst (pa_cons pe_int (pa_cons pe_int (pa_cons pe_int pa_nil)))) (pa_cons pe_int pa_nil))) pa_nil)))))))) pN), ?_⟩
  intro D H v0 v2 v3 v4 v5 v6 v7 v9 v10 v11 v12 v13 d ah ac st vs hd hg tb eh nh k
  refine ⟨by show 1 ≤ sizeLine; decide, fun l0 hl0 => ?_⟩
  have a0 := same_upd (o := .lst (([74] : List Int).map V.int)) hl0
  refine ⟨by show 2 ≤ sizeLine; decide, fun u0 hu0 => ?_⟩
  have C0 : CaseAt d (upd (upd H l0 (.lst (([74] : List Int).map V.int))) u0 (.tup [.ref l0, .int ((0 : Nat) : Int)])) (.ref u0) ([74], 0) := case_new ((Same.refl H) _ _ hd) hl0 upd_same a0 hu0
  have b0 := same_upd (o := .tup [.ref l0, .int ((0 : Nat) : Int)]) hu0
  have S0 := ((Same.refl H).trans a0).trans b0
  have G0 : Cas d _ [.ref u0] [([74], 0)] := .cons C0 .nil
  refine ⟨by show 2 ≤ sizeLine; decide, fun l1 hl1 => ?_⟩
  have a1 := same_upd (o := .lst (([75, 0] : List Int).map V.int)) hl1
  refine ⟨by show 2 ≤ sizeLine; decide, fun u1 hu1 => ?_⟩
  have C1 : CaseAt d (upd (upd (upd (upd H l0 (.lst (([74] : List Int).map V.int))) u0 (.tup [.ref l0, .int ((0 : Nat) : Int)])) l1 (.lst (([75, 0] : List Int).map V.int))) u1 (.tup [.ref l1, .int ((1 : Nat) : Int)])) (.ref u1) ([75, 0], 1) := case_new (S0 _ _ hd) hl1 upd_same a1 hu1
  have b1 := same_upd (o := .tup [.ref l1, .int ((1 : Nat) : Int)]) hu1
  have S1 := (S0.trans a1).trans b1
  have G1 := (G0.mono (sKp (a1.trans b1))).app (show Cas d _ [.ref u1] [([75, 0], 1)] from .cons C1 .nil)
  refine ⟨by show 2 ≤ sizeLine; decide, fun l2 hl2 => ?_⟩
  have a2 := same_upd (o := .lst (([75, 7] : List Int).map V.int)) hl2
  refine ⟨by show 2 ≤ sizeLine; decide, fun u2 hu2 => ?_⟩
  have C2 : CaseAt d (upd (upd (upd (upd (upd (upd H l0 (.lst (([74] : List Int).map V.int))) u0 (.tup [.ref l0, .int ((0 : Nat) : Int)])) l1 (.lst (([75, 0] : List Int).map V.int))) u1 (.tup [.ref l1, .int ((1 : Nat) : Int)])) l2 (.lst (([75, 7] : List Int).map V.int))) u2 (.tup [.ref l2, .int ((1 : Nat) : Int)])) (.ref u2) ([75, 7], 1) := case_new (S1 _ _ hd) hl2 upd_same a2 hu2
  have b2 := same_upd (o := .tup [.ref l2, .int ((1 : Nat) : Int)]) hu2
  have S2 := (S1.trans a2).trans b2
  have G2 := (G1.mono (sKp (a2.trans b2))).app (show Cas d _ [.ref u2] [([75, 7], 1)] from .cons C2 .nil)
  refine ⟨by show 3 ≤ sizeLine; decide, fun l3 hl3 => ?_⟩
  have a3 := same_upd (o := .lst (([75, 1, 0] : List Int).map V.int)) hl3
  refine ⟨by show 2 ≤ sizeLine; decide, fun u3 hu3 => ?_⟩
  have C3 : CaseAt d (upd (upd (upd (upd (upd (upd (upd (upd H l0 (.lst (([74] : List Int).map V.int))) u0 (.tup [.ref l0, .int ((0 : Nat) : Int)])) l1 (.lst (([75, 0] : List Int).map V.int))) u1 (.tup [.ref l1, .int ((1 : Nat) : Int)])) l2 (.lst (([75, 7] : List Int).map V.int))) u2 (.tup [.ref l2, .int ((1 : Nat) : Int)])) l3 (.lst (([75, 1, 0] : List Int).map V.int))) u3 (.tup [.ref l3, .int ((2 : Nat) : Int)])) (.ref u3) ([75, 1, 0], 2) := case_new (S2 _ _ hd) hl3 upd_same a3 hu3
  have b3 := same_upd (o := .tup [.ref l3, .int ((2 : Nat) : Int)]) hu3
  have S3 := (S2.trans a3).trans b3
  have G3 := (G2.mono (sKp (a3.trans b3))).app (show Cas d _ [.ref u3] [([75, 1, 0], 2)] from .cons C3 .nil)
  refine ⟨by show 3 ≤ sizeLine; decide, fun l4 hl4 => ?_⟩
  have a4 := same_upd (o := .lst (([75, 1, 5] : List Int).map V.int)) hl4
  refine ⟨by show 2 ≤ sizeLine; decide, fun u4 hu4 => ?_⟩
  have C4 : CaseAt d (upd (upd (upd (upd (upd (upd (upd (upd (upd (upd H l0 (.lst (([74] : List Int).map V.int))) u0 (.tup [.ref l0, .int ((0 : Nat) : Int)])) l1 (.lst (([75, 0] : List Int).map V.int))) u1 (.tup [.ref l1, .int ((1 : Nat) : Int)])) l2 (.lst (([75, 7] : List Int).map V.int))) u2 (.tup [.ref l2, .int ((1 : Nat) : Int)])) l3 (.lst (([75, 1, 0] : List Int).map V.int))) u3 (.tup [.ref l3, .int ((2 : Nat) : Int)])) l4 (.lst (([75, 1, 5] : List Int).map V.int))) u4 (.tup [.ref l4, .int ((2 : Nat) : Int)])) (.ref u4) ([75, 1, 5], 2) := case_new (S3 _ _ hd) hl4 upd_same a4 hu4
  have b4 := same_upd (o := .tup [.ref l4, .int ((2 : Nat) : Int)]) hu4
  have S4 := (S3.trans a4).trans b4
  have G4 := (G3.mono (sKp (a4.trans b4))).app (show Cas d _ [.ref u4] [([75, 1, 5], 2)] from .cons C4 .nil)
  refine ⟨by show 3 ≤ sizeLine; decide, fun l5 hl5 => ?_⟩
  have a5 := same_upd (o := .lst (([75, 1, 25] : List Int).map V.int)) hl5
  refine ⟨by show 2 ≤ sizeLine; decide, fun u5 hu5 => ?_⟩
  have C5 : CaseAt d (upd (upd (upd (upd (upd (upd (upd (upd (upd (upd (upd (upd H l0 (.lst (([74] : List Int).map V.int))) u0 (.tup [.ref l0, .int ((0 : Nat) : Int)])) l1 (.lst (([75, 0] : List Int).map V.int))) u1 (.tup [.ref l1, .int ((1 : Nat) : Int)])) l2 (.lst (([75, 7] : List Int).map V.int))) u2 (.tup [.ref l2, .int ((1 : Nat) : Int)])) l3 (.lst (([75, 1, 0] : List Int).map V.int))) u3 (.tup [.ref l3, .int ((2 : Nat) : Int)])) l4 (.lst (([75, 1, 5] : List Int).map V.int))) u4 (.tup [.ref l4, .int ((2 : Nat) : Int)])) l5 (.lst (([75, 1, 25] : List Int).map V.int))) u5 (.tup [.ref l5, .int ((2 : Nat) : Int)])) (.ref u5) ([75, 1, 25], 2) := case_new (S4 _ _ hd) hl5 upd_same a5 hu5
  have b5 := same_upd (o := .tup [.ref l5, .int ((2 : Nat) : Int)]) hu5
  have S5 := (S4.trans a5).trans b5
  have G5 := (G4.mono (sKp (a5.trans b5))).app (show Cas d _ [.ref u5] [([75, 1, 25], 2)] from .cons C5 .nil)
  refine ⟨by show 6 ≤ sizeLine; decide, fun L hL => ?_⟩
  have sL := same_upd (o := .lst [.ref u0, .ref u1, .ref u2, .ref u3, .ref u4, .ref u5]) hL
  have sA := S5.trans sL
  exact hN D _ _ _ _ _ _ _ _ none _ _ _ _ d ah L st _ (sA _ _ hd) hg (tb.ext sA) (sA _ _ eh) nh upd_same (ne_of_none (S5 _ _ hd) hL).symm (ne_of_none (S5 _ _ eh) hL).symm (fun H2 k2 => G5.mono (sKp fun b o e => k2 b o (ne_of_none e hL) (sL b o e))) k
end
end Dk

set_option Elab.async false
set_option linter.all false
set_option maxRecDepth 100000
set_option maxHeartbeats 4000000
namespace Dk
open PySem PySem.Spec PyProof.Rows L2 TL
/-- the code of a house, at ac -/
structure CdAt (Pt d ac : Addr) (H : Hp) (ts : List Str) (kk : Int) (cs' : List Int) (rs : List Pr) : Prop where
  src : ∃ st : List Int, H d = some (.lst (st.map V.int)) ∧ Good st
  tb : LamX.Tabs [(Pt, lamQ)] H
  e : H ac = some (.lst ((enc ts kk cs' rs).map V.int))
  n : ac ≠ d
  P : Parts ts kk cs' rs
theorem CdAt.ext {Pt d ac : Addr} {H H' : Hp} {ts : List Str} {kk : Int} {cs' : List Int} {rs : List Pr} (h : CdAt Pt d ac H ts kk cs' rs) (x : LamX.ExtN H H') (t : LamX.Tabs [(Pt, lamQ)] H') : CdAt Pt d ac H' ts kk cs' rs := by
  obtain ⟨⟨st, a, b⟩, _, c, n, p⟩ := h
  exact ⟨⟨st, ExtN_lst x a, b⟩, t, ExtN_lst x c, n, p⟩
theorem CdAt.same {Pt d ac : Addr} {H H' : Hp} {ts : List Str} {kk : Int} {cs' : List Int} {rs : List Pr} (h : CdAt Pt d ac H ts kk cs' rs) (s : Same H H') : CdAt Pt d ac H' ts kk cs' rs := by
  obtain ⟨⟨st, a, b⟩, t, c, n, p⟩ := h
  exact ⟨⟨st, s _ _ a, b⟩, t.ext s, s _ _ c, n, p⟩
theorem CdAt.kp {Pt d ac : Addr} {H H' : Hp} {ts : List Str} {kk : Int} {cs' : List Int} {rs : List Pr} {st : List Int} (h : CdAt Pt d ac H ts kk cs' rs) (k : Kp d H H') (hd : H' d = some (.lst (st.map V.int))) (hg : Good st) : CdAt Pt d ac H' ts kk cs' rs := by
  obtain ⟨⟨st', a, b⟩, t, c, n, p⟩ := h
  exact ⟨⟨st, hd, hg⟩, tabs_kp t k a, k _ _ n c, n, p⟩
theorem enc_size {ts : List Str} {kk : Int} {cs' : List Int} {rs : List Pr} (h : Parts ts kk cs' rs) : (enc ts kk cs' rs).length ≤ 201 := by
  have := (encB_len h).2
  rw [enc_len]; omega
theorem tup_dp {K : PySem.W.Frag} {H : Hp} {a : Addr} {l : List Int} (h : H a = some (.tup (l.map V.int))) : Dp K H (.ref a) (.tuple (dL l)) := .tup (SqT.of h) (dp_intsL l)
theorem cut_lastX (l : List V) (x : V) : cutV (l ++ [x]) none (some (-1)) = l := by
  unfold cutV
  rw [HT.sIx_none]
  have e : HT.sIx (l ++ [x]).length (l ++ [x]).length (some (-1)) = l.length := by
    show (if (-1 : Int) < 0 then ((-1 : Int) + (((l ++ [x]).length : Nat) : Int)).toNat else min (-1 : Int).toNat (l ++ [x]).length) = l.length
    rw [if_pos (by decide : (-1 : Int) < 0), List.length_append, List.length_singleton]; omega
  rw [e, List.drop_zero, Nat.sub_zero]; simp
theorem at_lastX (l : List V) (x : V) : atI (l ++ [x]) (-1) = some x := by
  unfold atI
  have e : ixN (l ++ [x]).length (-1) = some l.length := by
    unfold ixN
    rw [List.length_append, List.length_singleton, if_neg (by decide), if_pos (by omega)]
    exact congrArg some (by omega)
  rw [e]
  simp
section
variable {P : Program} {w : World} {K : PySem.W.Frag} {mg : Str → Option Value} {base : Heap} {CH CC fDe fE cL Pt CE : Addr} {fdDe fdE : FuncData} {cs : Nat → Addr}
/-- 10 to 12: what is no list -/
theorem law_n {f : Addr} {A : Around} {outer : List Env} {s : Shared} {H0 : Hp} {E : XK} (hr : Room 13 (A.deeper (envOfC (Str.ofString "law") (defScope sLaw) s.heap.objs.size f (.ref cL)))) (U : Use P w K mg base CH CC fDe fE cL Pt CE fdDe fdE cs) :
    ∃ tm, PSs (cxOf CX0 P w K mg base nLaw "law" (defScope sLaw) f (.ref cL) A outer s H0 E).nox ((defBody sLaw).drop 10) tm ∧ ∀ (D : Ends) (H : Hp) (v0 v2 v3 v4 v5 v6 v7 v8 v9 v10 v11 v12 v13 : Option V) (d : Addr) (st : List Int),
      H d = some (.lst (st.map V.int)) → Good st → LamX.Tabs [(Pt, lamQ)] H → (∀ H', D.rt (.bl true) H') →
      tm D [v0, some (.ref d), v2, v3, v4, v5, v6, v7, v8, v9, v10, v11, v12, v13] H := by
  have hr1 : Room 1 (A.deeper (envOfC (Str.ofString "law") (defScope sLaw) s.heap.objs.size f (.ref cL))) := hr.mono (by decide)
  have hu64 : (A.deeper (envOfC (Str.ofString "law") (defScope sLaw) s.heap.objs.size f (.ref cL))).units + 64 < cLine := by have := hr.un; omega
  have hmT : (Pt, lamQ) ∈ [(Pt, lamQ)] := List.mem_singleton.mpr rfl
  have hu : ∀ p ∈ [(Pt, lamQ)], p.1 = Pt → p.2 = lamQ := fun p hp _ => by rw [List.mem_singleton.mp hp]
  obtain ⟨tmN, pN, hN⟩ := law_x13 (P := P) (w := w) (K := K) (mg := mg) (base := base) (CH := CH) (CC := CC) (f := f) (A := A) (outer := outer) (s := s) (H0 := H0) (E := E) hr U
  refine ⟨_, by
    exact (pss_cons (ps_set (i := 7) scLaw.nd rfl (.inr rfl) (pe_ix ix_list (pe_lst (pa_cons pe_non (pa_cons pe_int (pa_cons (pe_tup (pa_cons pe_int (pa_cons pe_int pa_nil))) (pa_cons pe_str (pa_cons pe_bl pa_nil)))))) (pe_cal U.cB hr1 (by rfl) (pa_cons (pv 1) (pa_cons pe_int pa_nil))) (fun _ _ => rfl)))
      (pss_cons (ps_if (pt_cmpR (op_neD hu64) (pe_errof (T := [(Pt, lamQ)]) (k := 11) (t := fun E => tCall (spDecodeX K CH CC) [] E (tCons (tVar 7) tNil)) U.N U.EK (by rfl) U.gE U.FE U.bE U.TB rfl hmT hu hr (LamX.lamS_by (sc := defScope sLaw) (by decide +kernel)) rfl (fun _ _ _ _ _ => rfl) (fun A outer s H E f c' hr' => by
          have h8 := Room.mono hr' (show 8 ≤ 11 by decide)
          exact pe_call U.GDe h8 rfl U.gDe U.kDe U.bDe .nil (passes_call (takes_of rfl rfl rfl rfl) (fun _ _ _ _ h => h)) (pa_cons (pv 7) pa_nil))) (pe_tup (pa_cons pe_str (pa_cons pe_int pa_nil))) (nomark _)) (pss_one (ps_ret pe_bl)) pss_nil)
      (pss_cons (ps_set (i := 8) scLaw.nd rfl (.inl rfl) (pe_lst (pa_cons pe_int (pa_cons pe_int (pa_cons pe_int (pa_cons pe_int (pa_cons pe_int (pa_cons pe_int (pa_cons pe_int pa_nil))))))))) pN))), ?_⟩
  intro D H v0 v2 v3 v4 v5 v6 v7 v8 v9 v10 v11 v12 v13 d st hd hg tb k
  refine ⟨by show 2 ≤ sizeLine; decide, fun t ht => ?_⟩
  have s1 := same_upd (o := .tup [.int 75, .int 1]) ht
  have et : (upd H t (.tup [.int 75, .int 1])) t = some (.tup ([75, 1].map V.int)) := upd_same
  generalize upd H t (.tup [.int 75, .int 1]) = H1 at s1 et
  refine ⟨by show 5 ≤ sizeLine; decide, fun L hL => ?_⟩
  have s2 := same_upd (o := .lst [.non, .int 5, .ref t, .str (Str.ofString "a"), .bl true]) hL
  have eL : (upd H1 L (.lst [.non, .int 5, .ref t, .str (Str.ofString "a"), .bl true])) L = some (.lst [.non, .int 5, .ref t, .str (Str.ofString "a"), .bl true]) := upd_same
  have nL : L ≠ d := (ne_of_none (s1 _ _ hd) hL).symm
  have ntd : t ≠ d := (ne_of_none hd ht).symm
  have s12 := s1.trans s2
  have et2 := s2 _ _ et
  generalize upd H1 L (.lst [.non, .int 5, .ref t, .str (Str.ofString "a"), .bl true]) = H2 at s2 eL s12 et2
  refine ⟨_, rfl, d, 5, st, rfl, s12 _ _ hd, hg, by decide, by decide, fun H3 st3 r k3 hd3 hg3 r0 r1 => ?_⟩
  have tb3 := tabs_kp (tb.ext s12) k3 (s12 _ _ hd)
  have et3 := k3 _ _ ntd et2
  obtain ⟨v, dd, hat, hv, hnl⟩ : ∃ (v : V) (dd : PyData), atI [V.non, .int 5, .ref t, .str (Str.ofString "a"), .bl true] r = some v ∧ (∀ G : Hp, G t = some (.tup ([75, 1].map V.int)) → Dp K G v dd) ∧ (∀ ds, dd ≠ .list ds) := by
    have : r = 0 ∨ r = 1 ∨ r = 2 ∨ r = 3 ∨ r = 4 := by omega
    rcases this with rfl | rfl | rfl | rfl | rfl
    · exact ⟨.non, .none, rfl, fun _ _ => .non, fun ds z => by cases z⟩
    · exact ⟨.int 5, .int 5, rfl, fun _ _ => .int 5, fun ds z => by cases z⟩
    · exact ⟨.ref t, .tuple (dL [75, 1]), rfl, fun G z => tup_dp z, fun ds z => by cases z⟩
    · exact ⟨.str (Str.ofString "a"), .str (Str.ofString "a"), rfl, fun _ _ => .str _, fun ds z => by cases z⟩
    · exact ⟨.bl true, .bool true, rfl, fun _ _ => .bl _, fun ds z => by cases z⟩
  refine ⟨L, _, r, v, rfl, rfl, SqL.of (k3 _ _ nL eL), hat, ?_⟩
  refine ⟨tb3, fun H4 x4 T4 => ?_⟩
  refine ⟨_, rfl, .inr ⟨v, dd, rfl, hv H4 (ExtN_tup x4 et3), hnl, code_told U.eCC fun H5 p s5 ep => ?_⟩⟩
  refine ⟨by show 2 ≤ sizeLine; decide, fun q hq => ?_⟩
  have s6 := same_upd (o := .tup [.str (Str.ofString "code"), .int 0]) hq
  refine code_same (s6 _ _ ep) upd_same ⟨_, rfl, iteF ?_⟩
  have s56 := s5.trans s6
  refine ⟨by show 7 ≤ sizeLine; decide, fun l hl => ?_⟩
  have s7 := same_upd (o := .lst (head7.map V.int)) hl
  have hd6 := s56 _ _ (ExtN_lst x4 hd3)
  exact hN D _ _ _ _ _ _ _ _ _ _ _ _ _ d l l st3 [] (s7 _ _ hd6) hg3 ((T4.ext s56).ext s7) upd_same (ne_of_none hd6 hl).symm k
/-- 8, 9: the last byte is wrong -/
theorem law_m {f : Addr} {A : Around} {outer : List Env} {s : Shared} {H0 : Hp} {E : XK} (hr : Room 13 (A.deeper (envOfC (Str.ofString "law") (defScope sLaw) s.heap.objs.size f (.ref cL)))) (U : Use P w K mg base CH CC fDe fE cL Pt CE fdDe fdE cs) :
    ∃ tm, PSs (cxOf CX0 P w K mg base nLaw "law" (defScope sLaw) f (.ref cL) A outer s H0 E).nox ((defBody sLaw).drop 8) tm ∧ ∀ (D : Ends) (H : Hp) (v0 v3 v4 v5 v6 v7 v8 v9 v10 v11 v12 v13 : Option V) (d ac : Addr) (ts : List Str) (kk : Int) (cs' : List Int) (rs : List Pr),
      CdAt Pt d ac H ts kk cs' rs → (∀ H', D.rt (.bl true) H') →
      tm D [v0, some (.ref d), some (.ref ac), v3, v4, v5, v6, v7, v8, v9, v10, v11, v12, v13] H := by
  have hr1 : Room 1 (A.deeper (envOfC (Str.ofString "law") (defScope sLaw) s.heap.objs.size f (.ref cL))) := hr.mono (by decide)
  have hu64 : (A.deeper (envOfC (Str.ofString "law") (defScope sLaw) s.heap.objs.size f (.ref cL))).units + 64 < cLine := by have := hr.un; omega
  have hmT : (Pt, lamQ) ∈ [(Pt, lamQ)] := List.mem_singleton.mpr rfl
  have hu : ∀ p ∈ [(Pt, lamQ)], p.1 = Pt → p.2 = lamQ := fun p hp _ => by rw [List.mem_singleton.mp hp]
  have T := U.T
  obtain ⟨tmN, pN, hN⟩ := law_n (P := P) (w := w) (K := K) (mg := mg) (base := base) (CH := CH) (CC := CC) (f := f) (A := A) (outer := outer) (s := s) (H0 := H0) (E := E) hr U
  refine ⟨_, by
    exact (pss_cons (ps_set (i := 6) scLaw.nd rfl (.inr rfl) (pe_op op_cat (pe_slice sl_list (pv 2) po_none (po_some (pe_un un_neg pe_int))) (pe_lst (pa_cons (pe_op op_mod (pe_op op_add (pe_op op_add (pe_ix ix_list (pv 2) (pe_un un_neg pe_int) (fun _ _ => rfl)) pe_int) (pe_cal U.cB hr1 (by rfl) (pa_cons (pv 1) (pa_cons pe_int pa_nil)))) pe_int) pa_nil))))
      (pss_cons (ps_if (pt_cmpR (op_neD hu64) (pe_errof (T := [(Pt, lamQ)]) (k := 11) (t := fun E => tCall (spDecodeX K CH CC) [] E (tCons (tVar 6) tNil)) U.N U.EK (by rfl) U.gE U.FE U.bE U.TB rfl hmT hu hr (LamX.lamS_by (sc := defScope sLaw) (by decide +kernel)) rfl (fun _ _ _ _ _ => rfl) (fun A outer s H E f c' hr' => by
          have h8 := Room.mono hr' (show 8 ≤ 11 by decide)
          exact pe_call U.GDe h8 rfl U.gDe U.kDe U.bDe .nil (passes_call (takes_of rfl rfl rfl rfl) (fun _ _ _ _ h => h)) (pa_cons (pv 6) pa_nil))) (pe_tup (pa_cons pe_str (pa_cons (pe_op op_sub (pe_callB call_len_seq (by rfl) T.len PySem.boot_len (pa_cons (pv 2) pa_nil)) pe_int) pa_nil))) (nomark _)) (pss_one (ps_ret pe_bl)) pss_nil)
      pN)), ?_⟩
  intro D H v0 v3 v4 v5 v6 v7 v8 v9 v10 v11 v12 v13 d ac ts kk cs' rs X k
  have hz := enc_size X.P
  have hb := (encB_len X.P).2
  have elast : (enc ts kk cs' rs).map V.int = (encB ts kk cs' rs).map V.int ++ [.int ((encB ts kk cs' rs).sum % 256)] := by
    unfold enc
    rw [List.map_append]; rfl
  refine ⟨_, rfl, _, rfl, _, rfl, ac, _, rfl, SqL.of X.e, fun l hl => ?_⟩
  rw [show cutV ((enc ts kk cs' rs).map V.int) none (some (-1)) = (encB ts kk cs' rs).map V.int by rw [elast]; exact cut_lastX _ _]
  have s1 := same_upd (o := .lst ((encB ts kk cs' rs).map V.int)) hl
  have el : (upd H l (.lst ((encB ts kk cs' rs).map V.int))) l = some (.lst ((encB ts kk cs' rs).map V.int)) := upd_same
  have X1 := X.same s1
  obtain ⟨st, hd, hg⟩ := X.src
  have nld : l ≠ d := (ne_of_none hd hl).symm
  generalize upd H l (.lst ((encB ts kk cs' rs).map V.int)) = H1 at s1 el X1
  obtain ⟨st1, hd1, hg1⟩ := X1.src
  have ec1 := X1.e
  rw [elast] at ec1
  refine ⟨_, rfl, _, rfl, ac, _, _, _, rfl, rfl, SqL.of ec1, at_lastX _ _, _, _, rfl, rfl, ?_⟩
  refine ⟨_, rfl, d, 255, st1, rfl, hd1, hg1, by decide, by decide, fun H2 st2 r k2 hd2 hg2 r0 r1 => ?_⟩
  have X2 := X1.kp k2 hd2 hg2
  have el2 := k2 _ _ nld el
  refine ⟨_, _, rfl, rfl, _, _, rfl, rfl, by show (0 : Int) < 256; decide, ?_⟩
  refine ⟨by show 1 ≤ sizeLine; decide, fun l2 hl2 => ?_⟩
  have s3 := same_upd (o := .lst ([(((encB ts kk cs' rs).sum % 256 + 1) + r) % 256].map V.int)) hl2
  refine cat_ints (H := upd H2 l2 (.lst ([(((encB ts kk cs' rs).sum % 256 + 1) + r) % 256].map V.int))) (zs := [(((encB ts kk cs' rs).sum % 256 + 1) + r) % 256]) (s3 _ _ el2) upd_same (by show (encB ts kk cs' rs).length + 1 ≤ 1000; omega) fun H4 p s4 _ ep => ?_
  have X4 := (X2.same s3).same s4
  refine ⟨X4.tb, fun H5 x5 T5 => ?_⟩
  have X5 := X4.ext x5 T5
  have ep5 := ExtN_lst x5 ep
  have hy : (((encB ts kk cs' rs).sum % 256 + 1) + r) % 256 ≠ (encB ts kk cs' rs).sum % 256 := by omega
  have hdec := dec_wrong X.P hy
  have edl : dL (encB ts kk cs' rs ++ [(((encB ts kk cs' rs).sum % 256 + 1) + r) % 256]) = dL (encB ts kk cs' rs) ++ [.int ((((encB ts kk cs' rs).sum % 256 + 1) + r) % 256)] := List.map_append ..
  refine ⟨_, rfl, .inl ⟨p, _, _, rfl, ep5, dp_intsL _, fun e ee => ?_, fun rr er => by rw [edl, hdec] at er; cases er⟩⟩
  rw [edl, hdec] at ee
  injection ee with ee
  subst ee
  refine code_told U.eCC fun H6 q s6 eq => ?_
  have X6 := X5.same s6
  refine ⟨_, rfl, ac, _, rfl, .inl (SqL.of X6.e), _, _, rfl, rfl, by show 2 ≤ sizeLine; decide, fun u hu' => ?_⟩
  have el6 : ((((enc ts kk cs' rs).map V.int).length : Nat) : Int) - 1 = (((encB ts kk cs' rs).length : Nat) : Int) := by
    rw [List.length_map, enc_len]; omega
  dsimp only
  rw [el6]
  have s7 := same_upd (o := .tup [.str (Str.ofString "code"), .int (((encB ts kk cs' rs).length : Nat) : Int)]) hu'
  refine code_same (s7 _ _ eq) upd_same ⟨_, rfl, iteF ?_⟩
  have X7 := X6.same s7
  obtain ⟨st7, hd7, hg7⟩ := X7.src
  exact hN D _ _ _ _ _ _ _ _ _ _ _ _ _ _ d st7 hd7 hg7 X7.tb k
end
end Dk

set_option Elab.async false
set_option linter.all false
set_option maxRecDepth 100000
set_option maxHeartbeats 4000000
namespace Dk
open PySem PySem.Spec PyProof.Rows L2 TL
theorem cut_dropX (xs : List V) (k : Nat) : cutV xs (some (k : Int)) none = xs.drop k := by
  unfold cutV
  rw [HT.sIx_none, HT.sIx_nat]
  rw [List.take_of_length_le (by rw [List.length_drop]; exact Nat.le_refl _)]
  by_cases h : k ≤ xs.length
  · rw [Nat.min_eq_left h]
  · rw [Nat.min_eq_right (by omega), List.drop_of_length_le (Nat.le_refl _), List.drop_of_length_le (by omega)]
theorem cut_takeX (xs : List V) (k : Nat) : cutV xs none (some (k : Int)) = xs.take k := by
  unfold cutV
  rw [HT.sIx_none, HT.sIx_nat, List.drop_zero, Nat.sub_zero]
  by_cases h : k ≤ xs.length
  · rw [Nat.min_eq_left h]
  · rw [Nat.min_eq_right (by omega), List.take_length, List.take_of_length_le (by omega)]
theorem dpAll_append {K : PySem.W.Frag} {H : Hp} : ∀ {vs ws : List V} {ds es : List PyData}, DpAll K H vs ds → DpAll K H ws es → DpAll K H (vs ++ ws) (ds ++ es)
  | [], _, [], _, .nil, h => h
  | _ :: _, _, _ :: _, _, .cons a b, h => .cons a (dpAll_append b h)
section
variable {P : Program} {w : World} {K : PySem.W.Frag} {mg : Str → Option Value} {base : Heap} {CH CC fDe fE cL Pt CE : Addr} {fdDe fdE : FuncData} {cs : Nat → Addr}
/-- 6, 7: a byte that is none -/
theorem law_o {f : Addr} {A : Around} {outer : List Env} {s : Shared} {H0 : Hp} {E : XK} (hr : Room 13 (A.deeper (envOfC (Str.ofString "law") (defScope sLaw) s.heap.objs.size f (.ref cL)))) (U : Use P w K mg base CH CC fDe fE cL Pt CE fdDe fdE cs) :
    ∃ tm, PSs (cxOf CX0 P w K mg base nLaw "law" (defScope sLaw) f (.ref cL) A outer s H0 E).nox ((defBody sLaw).drop 6) tm ∧ ∀ (D : Ends) (H : Hp) (v0 v4 v5 v6 v7 v8 v9 v10 v11 v12 v13 : Option V) (d ac : Addr) (m : Nat) (ts : List Str) (kk : Int) (cs' : List Int) (rs : List Pr),
      CdAt Pt d ac H ts kk cs' rs → m < (enc ts kk cs' rs).length → (∀ H', D.rt (.bl true) H') →
      tm D [v0, some (.ref d), some (.ref ac), some (.int (m : Int)), v4, v5, v6, v7, v8, v9, v10, v11, v12, v13] H := by
  have hr1 : Room 1 (A.deeper (envOfC (Str.ofString "law") (defScope sLaw) s.heap.objs.size f (.ref cL))) := hr.mono (by decide)
  have hu64 : (A.deeper (envOfC (Str.ofString "law") (defScope sLaw) s.heap.objs.size f (.ref cL))).units + 64 < cLine := by have := hr.un; omega
  have hmT : (Pt, lamQ) ∈ [(Pt, lamQ)] := List.mem_singleton.mpr rfl
  have hu : ∀ p ∈ [(Pt, lamQ)], p.1 = Pt → p.2 = lamQ := fun p hp _ => by rw [List.mem_singleton.mp hp]
  have T := U.T
  obtain ⟨tmN, pN, hN⟩ := law_m (P := P) (w := w) (K := K) (mg := mg) (base := base) (CH := CH) (CC := CC) (f := f) (A := A) (outer := outer) (s := s) (H0 := H0) (E := E) hr U
  refine ⟨_, by
    exact (pss_cons (ps_set (i := 5) scLaw.nd rfl (.inr rfl) (pe_ix ix_list (pe_lst (pa_cons pe_non (pa_cons pe_bl (pa_cons pe_str (pa_cons pe_int (pa_cons (pe_op op_sub pe_int pe_int) (pa_cons (pe_tup (pa_cons pe_int pa_nil)) pa_nil))))))) (pe_cal U.cB hr1 (by rfl) (pa_cons (pv 1) (pa_cons pe_int pa_nil))) (fun _ _ => rfl)))
      (pss_cons (ps_if (pt_cmpR (op_neD hu64) (pe_errof (T := [(Pt, lamQ)]) (k := 11) (t := fun E => tCall (spDecodeX K CH CC) [] E (tCons (tOp rCat (tOp rCat (tSl (rSlL K) (tVar 2) tNoPart (tPart (tVar 3))) (tLst (tCons (tVar 5) tNil))) (tSl (rSlL K) (tVar 2) (tPart (tOp (rI0 fun i j => .int (i + j)) (tVar 3) (tC (.int 1)))) tNoPart)) tNil)) U.N U.EK (by rfl) U.gE U.FE U.bE U.TB rfl hmT hu hr (LamX.lamS_by (sc := defScope sLaw) (by decide +kernel)) rfl (fun _ _ _ _ _ => rfl) (fun A outer s H E f c' hr' => by
          have h8 := Room.mono hr' (show 8 ≤ 11 by decide)
          exact pe_call U.GDe h8 rfl U.gDe U.kDe U.bDe .nil (passes_call (takes_of rfl rfl rfl rfl) (fun _ _ _ _ h => h)) (pa_cons (pe_op op_cat (pe_op op_cat (pe_slice sl_list (pv 2) po_none (po_some (pv 3))) (pe_lst (pa_cons (pv 5) pa_nil))) (pe_slice sl_list (pv 2) (po_some (pe_op op_add (pv 3) pe_int)) po_none)) pa_nil))) (pe_tup (pa_cons pe_str (pa_cons (pv 3) pa_nil))) (nomark _)) (pss_one (ps_ret pe_bl)) pss_nil)
      pN)), ?_⟩
  intro D H v0 v4 v5 v6 v7 v8 v9 v10 v11 v12 v13 d ac m ts kk cs' rs X hm k
  have hz := enc_size X.P
  obtain ⟨st, hd, hg⟩ := X.src
  refine ⟨_, _, rfl, rfl, by show 1 ≤ sizeLine; decide, fun t ht => ?_⟩
  have s1 := same_upd (o := .tup [.int 1]) ht
  have et : (upd H t (.tup [.int 1])) t = some (.tup ([1].map V.int)) := upd_same
  generalize upd H t (.tup [.int 1]) = H1 at s1 et
  have X1 := X.same s1
  refine ⟨by show 6 ≤ sizeLine; decide, fun L hL => ?_⟩
  have s2 := same_upd (o := .lst [.non, .bl true, .str (Str.ofString "a"), .int 256, .int (0 - 1), .ref t]) hL
  have eL : (upd H1 L (.lst [.non, .bl true, .str (Str.ofString "a"), .int 256, .int (0 - 1), .ref t])) L = some (.lst [.non, .bl true, .str (Str.ofString "a"), .int 256, .int (0 - 1), .ref t]) := upd_same
  have nL : L ≠ d := (ne_of_none (s1 _ _ hd) hL).symm
  have ntd : t ≠ d := (ne_of_none hd ht).symm
  have et2 := s2 _ _ et
  have X2 := X1.same s2
  refine ⟨_, rfl, d, 6, st, rfl, s2 _ _ (s1 _ _ hd), hg, by decide, by decide, fun H3 st3 r k3 hd3 hg3 r0 r1 => ?_⟩
  have X3 := X2.kp k3 hd3 hg3
  have et3 := k3 _ _ ntd et2
  obtain ⟨v, dd, hat, hv, hnb⟩ : ∃ (v : V) (dd : PyData), atI [V.non, .bl true, .str (Str.ofString "a"), .int 256, .int (0 - 1), .ref t] r = some v ∧ (∀ G : Hp, G t = some (.tup ([1].map V.int)) → Dp K G v dd) ∧ (∀ x, dd = .int x → x < 0 ∨ 255 < x) := by
    have : r = 0 ∨ r = 1 ∨ r = 2 ∨ r = 3 ∨ r = 4 ∨ r = 5 := by omega
    rcases this with rfl | rfl | rfl | rfl | rfl | rfl
    · exact ⟨.non, .none, rfl, fun _ _ => .non, fun x z => by cases z⟩
    · exact ⟨.bl true, .bool true, rfl, fun _ _ => .bl _, fun x z => by cases z⟩
    · exact ⟨.str (Str.ofString "a"), .str (Str.ofString "a"), rfl, fun _ _ => .str _, fun x z => by cases z⟩
    · exact ⟨.int 256, .int 256, rfl, fun _ _ => .int _, fun x z => by cases z; decide⟩
    · exact ⟨.int (0 - 1), .int (0 - 1), rfl, fun _ _ => .int _, fun x z => by cases z; decide⟩
    · exact ⟨.ref t, .tuple (dL [1]), rfl, fun G z => tup_dp z, fun x z => by cases z⟩
  refine ⟨L, _, r, v, rfl, rfl, SqL.of (k3 _ _ nL eL), hat, ?_⟩
  refine ⟨X3.tb, fun H4 x4 T4 => ?_⟩
  have X4 := X3.ext x4 T4
  have et4 := ExtN_tup x4 et3
  refine ⟨_, rfl, _, rfl, _, rfl, ac, _, rfl, SqL.of X4.e, fun p hp => ?_⟩
  have s5 := same_upd (o := .lst (cutV ((enc ts kk cs' rs).map V.int) none (some (m : Int)))) hp
  have ep : (upd H4 p (.lst (cutV ((enc ts kk cs' rs).map V.int) none (some (m : Int))))) p = some (.lst (((enc ts kk cs' rs).take m).map V.int)) := upd_same.trans (by rw [cut_takeX, List.map_take])
  have X5 := X4.same s5
  have et5 := s5 _ _ et4
  generalize upd H4 p (.lst (cutV ((enc ts kk cs' rs).map V.int) none (some (m : Int)))) = H5 at s5 ep X5 et5
  refine ⟨_, rfl, by show 1 ≤ sizeLine; decide, fun p2 hp2 => ?_⟩
  have s6 := same_upd (o := .lst [v]) hp2
  have ep2 : (upd H5 p2 (.lst [v])) p2 = some (.lst [v]) := upd_same
  have X6 := X5.same s6
  have et6 := s6 _ _ et5
  have ep6 := s6 _ _ ep
  generalize upd H5 p2 (.lst [v]) = H6 at s6 ep2 X6 et6 ep6
  refine ⟨p, p2, _, _, rfl, rfl, ep6, ep2, ?_, fun p3 hp3 => ?_⟩
  · rw [List.length_map, List.length_take]
    exact Nat.le_trans (by show min m _ + 1 ≤ 1000; omega) (by decide)
  have s7 := same_upd (o := .lst (((enc ts kk cs' rs).take m).map V.int ++ [v])) hp3
  have ep3 : (upd H6 p3 (.lst (((enc ts kk cs' rs).take m).map V.int ++ [v]))) p3 = some (.lst (((enc ts kk cs' rs).take m).map V.int ++ [v])) := upd_same
  have X7 := X6.same s7
  have et7 := s7 _ _ et6
  generalize upd H6 p3 (.lst (((enc ts kk cs' rs).take m).map V.int ++ [v])) = H7 at s7 ep3 X7 et7
  refine ⟨_, rfl, _, rfl, _, _, rfl, rfl, _, rfl, ac, _, rfl, SqL.of X7.e, fun p4 hp4 => ?_⟩
  dsimp only
  rw [show ((m : Int) + 1) = ((m + 1 : Nat) : Int) by omega, cut_dropX]
  have s8 := same_upd (o := .lst (((enc ts kk cs' rs).map V.int).drop (m + 1))) hp4
  have ep4 : (upd H7 p4 (.lst (((enc ts kk cs' rs).map V.int).drop (m + 1)))) p4 = some (.lst (((enc ts kk cs' rs).drop (m + 1)).map V.int)) := upd_same.trans (by rw [List.map_drop])
  have X8 := X7.same s8
  have et8 := s8 _ _ et7
  have ep38 := s8 _ _ ep3
  generalize upd H7 p4 (.lst (((enc ts kk cs' rs).map V.int).drop (m + 1))) = H8 at s8 ep4 X8 et8 ep38
  refine ⟨p3, p4, _, _, rfl, rfl, ep38, ep4, ?_, fun p5 hp5 => ?_⟩
  · rw [List.length_append, List.length_map, List.length_map, List.length_take, List.length_drop]
    exact Nat.le_trans (by show min m _ + 1 + _ ≤ 1000; omega) (by decide)
  have s9 := same_upd (o := .lst ((((enc ts kk cs' rs).take m).map V.int ++ [v]) ++ ((enc ts kk cs' rs).drop (m + 1)).map V.int)) hp5
  have hdec := dec_odd X.P hm (d := dd) (q := dL ((enc ts kk cs' rs).drop (m + 1))) hnb
  have edl : (dL ((enc ts kk cs' rs).take m) ++ [dd]) ++ dL ((enc ts kk cs' rs).drop (m + 1)) = (dL (enc ts kk cs' rs)).take m ++ (dd :: dL ((enc ts kk cs' rs).drop (m + 1))) := by
    rw [List.append_assoc]
    unfold dL
    rw [List.map_take]; rfl
  have X9 := X8.same s9
  refine .inl ⟨p5, _, (dL ((enc ts kk cs' rs).take m) ++ [dd]) ++ dL ((enc ts kk cs' rs).drop (m + 1)), rfl, upd_same, dpAll_append (dpAll_append (dp_intsL _) (.cons (hv _ (s9 _ _ et8)) .nil)) (dp_intsL _), fun e ee => ?_, fun rr er => by rw [edl, hdec] at er; cases er⟩
  rw [edl, hdec] at ee
  injection ee with ee
  subst ee
  refine code_told U.eCC fun HA u sA eq => ?_
  have XA := X9.same sA
  refine ⟨_, rfl, by show 2 ≤ sizeLine; decide, fun w hw => ?_⟩
  have sB := same_upd (o := .tup [.str (Str.ofString "code"), .int (m : Int)]) hw
  refine code_same (sB _ _ eq) upd_same ⟨_, rfl, iteF ?_⟩
  exact hN D _ _ _ _ _ _ _ _ _ _ _ _ _ d ac ts kk cs' rs (XA.same sB) k
/-- 4, 5: more bytes -/
theorem law_e {f : Addr} {A : Around} {outer : List Env} {s : Shared} {H0 : Hp} {E : XK} (hr : Room 13 (A.deeper (envOfC (Str.ofString "law") (defScope sLaw) s.heap.objs.size f (.ref cL)))) (U : Use P w K mg base CH CC fDe fE cL Pt CE fdDe fdE cs) :
    ∃ tm, PSs (cxOf CX0 P w K mg base nLaw "law" (defScope sLaw) f (.ref cL) A outer s H0 E).nox ((defBody sLaw).drop 4) tm ∧ ∀ (D : Ends) (H : Hp) (v0 v4 v5 v6 v7 v8 v9 v10 v11 v12 v13 : Option V) (d ac : Addr) (m : Nat) (ts : List Str) (kk : Int) (cs' : List Int) (rs : List Pr),
      CdAt Pt d ac H ts kk cs' rs → m < (enc ts kk cs' rs).length → (∀ H', D.rt (.bl true) H') →
      tm D [v0, some (.ref d), some (.ref ac), some (.int (m : Int)), v4, v5, v6, v7, v8, v9, v10, v11, v12, v13] H := by
  have hr1 : Room 1 (A.deeper (envOfC (Str.ofString "law") (defScope sLaw) s.heap.objs.size f (.ref cL))) := hr.mono (by decide)
  have hu64 : (A.deeper (envOfC (Str.ofString "law") (defScope sLaw) s.heap.objs.size f (.ref cL))).units + 64 < cLine := by have := hr.un; omega
  have hmT : (Pt, lamQ) ∈ [(Pt, lamQ)] := List.mem_singleton.mpr rfl
  have hu : ∀ p ∈ [(Pt, lamQ)], p.1 = Pt → p.2 = lamQ := fun p hp _ => by rw [List.mem_singleton.mp hp]
  have T := U.T
  obtain ⟨tmN, pN, hN⟩ := law_o (P := P) (w := w) (K := K) (mg := mg) (base := base) (CH := CH) (CC := CC) (f := f) (A := A) (outer := outer) (s := s) (H0 := H0) (E := E) hr U
  refine ⟨_, by
    exact (pss_cons (ps_set (i := 4) scLaw.nd rfl (.inr rfl) (pe_op op_cat (pv 2) (pe_lc (own := [("_law_k", 13)]) (g := gName 13) (by rfl) scLaw.nd (pi_range1 (by rfl) T.range (pa_cons (pe_op op_add pe_int (pe_cal U.cB hr1 (by rfl) (pa_cons (pv 1) (pa_cons pe_int pa_nil)))) pa_nil)) (blkOk_by (N := nLaw) (sc := defScope sLaw) (by decide +kernel)) (fun _ _ _ _ _ => (pg_name (i := 13) scLaw.nd rfl (Or.inl rfl))) (fun _ _ _ _ _ => by exact pts_nil) (fun _ _ _ _ _ => by exact (pe_cal U.cB hr1 (by rfl) (pa_cons (pv 1) (pa_cons pe_int pa_nil)))))))
      (pss_cons (ps_if (pt_cmpR (op_neD hu64) (pe_errof (T := [(Pt, lamQ)]) (k := 11) (t := fun E => tCall (spDecodeX K CH CC) [] E (tCons (tVar 4) tNil)) U.N U.EK (by rfl) U.gE U.FE U.bE U.TB rfl hmT hu hr (LamX.lamS_by (sc := defScope sLaw) (by decide +kernel)) rfl (fun _ _ _ _ _ => rfl) (fun A outer s H E f c' hr' => by
          have h8 := Room.mono hr' (show 8 ≤ 11 by decide)
          exact pe_call U.GDe h8 rfl U.gDe U.kDe U.bDe .nil (passes_call (takes_of rfl rfl rfl rfl) (fun _ _ _ _ h => h)) (pa_cons (pv 4) pa_nil))) (pe_tup (pa_cons pe_str (pa_cons (pe_callB call_len_seq (by rfl) T.len PySem.boot_len (pa_cons (pv 2) pa_nil)) pa_nil))) (nomark _)) (pss_one (ps_ret pe_bl)) pss_nil)
      pN)), ?_⟩
  intro D H v0 v4 v5 v6 v7 v8 v9 v10 v11 v12 v13 d ac m ts kk cs' rs X hm k
  have hz := enc_size X.P
  obtain ⟨st, hd, hg⟩ := X.src
  refine ⟨_, rfl, _, rfl, d, 3, st, rfl, hd, hg, by decide, by decide, fun H1 st1 r k1 hd1 hg1 r0 r1 => ?_⟩
  have X1 := X.kp k1 hd1 hg1
  refine ⟨_, _, rfl, rfl, (1 + r), rfl, by omega, by omega, fun C hC => lc_range (lo := 0) (n := (1 + r).toNat) (fun i H2 => ∃ (st2 q : List Int), Kp d H1 H2 ∧ H2 d = some (.lst (st2.map V.int)) ∧ Good st2 ∧ H2 C = some (.lst (q.map V.int)) ∧ q.length = i)
    ⟨st1, [], sKp (same_upd hC), same_upd hC _ _ hd1, hg1, upd_same, rfl⟩ ?_ ?_⟩
  · rintro i H2 hi ⟨st2, q, k2, hd2, hg2, eC, hql⟩
    have nC : C ≠ d := fun z => by rw [z, hd1] at hC; cases hC
    refine ⟨rfl, _, rfl, d, 256, st2, rfl, hd2, hg2, by decide, by decide, fun H3 st3 r' k3 hd3 hg3 r0' r1' => ?_⟩
    refine ⟨_, k3 _ _ nC eC, by rw [List.length_map, hql]; exact Nat.lt_of_lt_of_le (by omega : i < 1000) (by decide), st3, q ++ [r'], fun b o nb' e => ?_, ?_, hg3, ?_, by rw [List.length_append, hql]; rfl⟩
    · rw [upd_ne (ne_of_none e hC)]; exact k3 _ _ nb' (k2 _ _ nb' e)
    · rw [upd_ne nC.symm]; exact hd3
    · rw [upd_same, List.map_append]; rfl
  rintro H2 ⟨st2, q, k2, hd2, hg2, eC, hql⟩
  have X2 := X1.kp k2 hd2 hg2
  refine cat_ints X2.e eC (by omega) fun H3 p s3 _ ep => ?_
  have X3 := X2.same s3
  refine ⟨X3.tb, fun H4 x4 T4 => ?_⟩
  have X4 := X3.ext x4 T4
  have ep4 := ExtN_lst x4 ep
  obtain ⟨y, q', rfl⟩ : ∃ y q', q = y :: q' := by
    cases q with
    | nil => simp at hql; omega
    | cons y q' => exact ⟨y, q', rfl⟩
  have edl : dL (enc ts kk cs' rs ++ (y :: q')) = dL (enc ts kk cs' rs) ++ (.int y :: dL q') := List.map_append ..
  have hdec := dec_more X.P (.int y) (dL q')
  refine ⟨_, rfl, .inl ⟨p, _, _, rfl, ep4, dp_intsL _, fun e ee => ?_, fun rr er => by rw [edl, hdec] at er; cases er⟩⟩
  rw [edl, hdec] at ee
  injection ee with ee
  subst ee
  refine code_told U.eCC fun H6 u s6 eq => ?_
  have X6 := X4.same s6
  refine ⟨_, rfl, ac, _, rfl, .inl (SqL.of X6.e), by show 2 ≤ sizeLine; decide, fun w hw => ?_⟩
  rw [List.length_map]
  have s7 := same_upd (o := .tup [.str (Str.ofString "code"), .int (((enc ts kk cs' rs).length : Nat) : Int)]) hw
  refine code_same (s7 _ _ eq) upd_same ⟨_, rfl, iteF ?_⟩
  exact hN D _ _ _ _ _ _ _ _ _ _ _ _ d ac m ts kk cs' rs (X6.same s7) hm k
/-- 2, 3: fewer bytes -/
theorem law_c {f : Addr} {A : Around} {outer : List Env} {s : Shared} {H0 : Hp} {E : XK} (hr : Room 13 (A.deeper (envOfC (Str.ofString "law") (defScope sLaw) s.heap.objs.size f (.ref cL)))) (U : Use P w K mg base CH CC fDe fE cL Pt CE fdDe fdE cs) :
    ∃ tm, PSs (cxOf CX0 P w K mg base nLaw "law" (defScope sLaw) f (.ref cL) A outer s H0 E).nox ((defBody sLaw).drop 2) tm ∧ ∀ (D : Ends) (H : Hp) (v0 v3 v4 v5 v6 v7 v8 v9 v10 v11 v12 v13 : Option V) (d ac : Addr) (ts : List Str) (kk : Int) (cs' : List Int) (rs : List Pr),
      CdAt Pt d ac H ts kk cs' rs → (∀ H', D.rt (.bl true) H') →
      tm D [v0, some (.ref d), some (.ref ac), v3, v4, v5, v6, v7, v8, v9, v10, v11, v12, v13] H := by
  have hr1 : Room 1 (A.deeper (envOfC (Str.ofString "law") (defScope sLaw) s.heap.objs.size f (.ref cL))) := hr.mono (by decide)
  have hu64 : (A.deeper (envOfC (Str.ofString "law") (defScope sLaw) s.heap.objs.size f (.ref cL))).units + 64 < cLine := by have := hr.un; omega
  have hmT : (Pt, lamQ) ∈ [(Pt, lamQ)] := List.mem_singleton.mpr rfl
  have hu : ∀ p ∈ [(Pt, lamQ)], p.1 = Pt → p.2 = lamQ := fun p hp _ => by rw [List.mem_singleton.mp hp]
  have T := U.T
  obtain ⟨tmN, pN, hN⟩ := law_e (P := P) (w := w) (K := K) (mg := mg) (base := base) (CH := CH) (CC := CC) (f := f) (A := A) (outer := outer) (s := s) (H0 := H0) (E := E) hr U
  refine ⟨_, by
    exact (pss_cons (ps_set (i := 3) scLaw.nd rfl (.inr rfl) (pe_cal U.cB hr1 (by rfl) (pa_cons (pv 1) (pa_cons (pe_callB call_len_seq (by rfl) T.len PySem.boot_len (pa_cons (pv 2) pa_nil)) pa_nil))))
      (pss_cons (ps_if (pt_cmpR (op_neD hu64) (pe_errof (T := [(Pt, lamQ)]) (k := 11) (t := fun E => tCall (spDecodeX K CH CC) [] E (tCons (tSl (rSlL K) (tVar 2) tNoPart (tPart (tVar 3))) tNil)) U.N U.EK (by rfl) U.gE U.FE U.bE U.TB rfl hmT hu hr (LamX.lamS_by (sc := defScope sLaw) (by decide +kernel)) rfl (fun _ _ _ _ _ => rfl) (fun A outer s H E f c' hr' => by
          have h8 := Room.mono hr' (show 8 ≤ 11 by decide)
          exact pe_call U.GDe h8 rfl U.gDe U.kDe U.bDe .nil (passes_call (takes_of rfl rfl rfl rfl) (fun _ _ _ _ h => h)) (pa_cons (pe_slice sl_list (pv 2) po_none (po_some (pv 3))) pa_nil))) (pe_tup (pa_cons pe_str (pa_cons (pv 3) pa_nil))) (nomark _)) (pss_one (ps_ret pe_bl)) pss_nil)
      pN)), ?_⟩
  intro D H v0 v3 v4 v5 v6 v7 v8 v9 v10 v11 v12 v13 d ac ts kk cs' rs X k
  have hz := enc_size X.P
  have hl := enc_len ts kk cs' rs
  obtain ⟨st, hd, hg⟩ := X.src
  refine ⟨_, rfl, _, rfl, ac, _, rfl, .inl (SqL.of X.e), ?_⟩
  rw [List.length_map]
  refine ⟨d, (((enc ts kk cs' rs).length : Nat) : Int), st, rfl, hd, hg, by omega, by omega, fun H1 st1 r k1 hd1 hg1 r0 r1 => ?_⟩
  have X1 := X.kp k1 hd1 hg1
  obtain ⟨m, rfl⟩ : ∃ m : Nat, r = (m : Int) := ⟨r.toNat, by omega⟩
  have hm : m < (enc ts kk cs' rs).length := by omega
  refine ⟨X1.tb, fun H2 x2 T2 => ?_⟩
  have X2 := X1.ext x2 T2
  refine ⟨_, rfl, _, rfl, _, rfl, ac, _, rfl, SqL.of X2.e, fun p hp => ?_⟩
  have s3 := same_upd (o := .lst (cutV ((enc ts kk cs' rs).map V.int) none (some (m : Int)))) hp
  have hdec := dec_cut X.P hm
  have edl : dL ((enc ts kk cs' rs).take m) = (dL (enc ts kk cs' rs)).take m := List.map_take ..
  refine .inl ⟨p, ((enc ts kk cs' rs).take m).map V.int, _, rfl, upd_same.trans (by rw [cut_takeX, List.map_take]), dp_intsL _, fun e ee => ?_, fun rr er => by rw [edl, hdec] at er; cases er⟩
  rw [edl, hdec] at ee
  injection ee with ee
  subst ee
  refine code_told U.eCC fun H6 u s6 eq => ?_
  have X6 := (X2.same s3).same s6
  refine ⟨_, rfl, by show 2 ≤ sizeLine; decide, fun w hw => ?_⟩
  have s7 := same_upd (o := .tup [.str (Str.ofString "code"), .int (m : Int)]) hw
  refine code_same (s7 _ _ eq) upd_same ⟨_, rfl, iteF ?_⟩
  exact hN D _ _ _ _ _ _ _ _ _ _ _ _ d ac m ts kk cs' rs (X6.same s7) hm k
end
end Dk

set_option Elab.async false
set_option linter.all false
set_option maxRecDepth 100000
set_option maxHeartbeats 4000000
namespace Dk
open PySem PySem.Spec PyProof.Rows L2 TL
section
variable {P : Program} {w : World} {K : PySem.W.Frag} {mg : Str → Option Value} {base : Heap} {CH CC fDe fE cL Pt CE : Addr} {fdDe fdE : FuncData} {cs : Nat → Addr}
theorem ok_law {f : Addr} {fd : FuncData} (F : FunC K "law" "law" sLaw f cL fd) (U : Use P w K mg base CH CC fDe fE cL Pt CE fdDe fdE cs) : FnOk P w K mg base CX0 14 f fd ["_law_script"] (spLaw K Pt) := by
  refine F.ok scLaw (fun vs H Q E h => ?_) (fun A outer s H vs Q E hr h => ?_)
  · obtain ⟨a, ns, rfl, _⟩ := h
    rfl
  · obtain ⟨a, ns, rfl, hS, hlen, hTb, k⟩ := h
    have hr1 : Room 1 (A.deeper (envOfC (Str.ofString "law") (defScope sLaw) s.heap.objs.size f (.ref cL))) := hr.mono (by decide)
    have hr3 : Room 3 (A.deeper (envOfC (Str.ofString "law") (defScope sLaw) s.heap.objs.size f (.ref cL))) := hr.mono (by decide)
    have hr7 : Room 7 (A.deeper (envOfC (Str.ofString "law") (defScope sLaw) s.heap.objs.size f (.ref cL))) := hr.mono (by decide)
    obtain ⟨tmN, pN, hN⟩ := law_c (P := P) (w := w) (K := K) (mg := mg) (base := base) (CH := CH) (CC := CC) (f := f) (A := A) (outer := outer) (s := s) (H0 := H) (E := E) hr U
    refine ⟨_, by
      exact (pss_cons (ps_set (i := 1) scLaw.nd rfl (.inr rfl) (pe_cal U.cRa hr1 (by rfl) (pa_cons (pv 0) (pa_cons pe_int pa_nil))))
        (pss_cons (ps_set (i := 2) scLaw.nd rfl (.inr rfl) (pe_cal U.cEn hr3 (by rfl) (pa_cons (pe_cal U.cHo hr7 (by rfl) (pa_cons (pe_cal U.cPa hr3 (by rfl) (pa_cons (pv 1) (pa_cons pe_int pa_nil))) pa_nil)) pa_nil))) pN)), ?_⟩
    refine ⟨_, rfl, a, ns, 17, rfl, hS, hlen, by decide, by decide, fun H1 d st s1 _ hd hg => ?_⟩
    refine ⟨_, rfl, d, 3, st, rfl, hd, hg, by decide, by decide, fun H2 st2 pa ts kk cs' rs k2 hd2 hg2 hPA hPP => ?_⟩
    have tb2 := tabs_kp (hTb.ext s1) k2 hd
    refine ⟨pa, ts, kk, cs', rs, rfl, hPA, hPP, fun H3 p s3 _ hH => ?_⟩
    refine ⟨p, ts, kk, cs', rs, rfl, hH, hPP, fun H4 ac s4 hac eac => ?_⟩
    have s34 := s3.trans s4
    exact hN _ H4 _ _ _ _ _ _ _ _ _ _ _ _ d ac ts kk cs' rs ⟨⟨st2, s34 _ _ hd2, hg2⟩, tb2.ext s34, eac, (ne_of_none (s3 _ _ hd2) hac).symm, hPP⟩ k
end
end Dk

set_option Elab.async false
set_option linter.all false
set_option maxRecDepth 100000
set_option maxHeartbeats 4000000
namespace Dk
open PySem PySem.Spec PyProof.Rows L2 TL
/-! ### what the top has written -/
structure FnAt (K : PySem.W.Frag) (x : Str) (st : Stmt) (f : Addr) (fd : FuncData) : Prop where
  g : PySem.W.nsIn K mainGlobals x = some (some (.ref f))
  F : Fun K x x st f fd
theorem fnAt_mk {K : PySem.W.Frag} {x : Str} {st : Stmt} {f : Addr} {oc : Value} {od an : Option Addr} {osl : Array (Option Value)} {kV doc pm cdv ct : Value} (a : PySem.W.nsIn K mainGlobals x = some (some (.ref f)))
    (l : K.lookup f = some ⟨oc, od, .func (PySem.W.fnOf x x (defArgs st) (defBody st) (defScope st) .none kV doc pm an cdv ct), osl⟩)
    (c : PySem.W.codeIn K cdv x = true) (k : PySem.W.keepIn K (.ref f) = true) : FnAt K x st f (PySem.W.fnOf x x (defArgs st) (defBody st) (defScope st) .none kV doc pm an cdv ct) := ⟨a, fun_mk l c k⟩
/-- an error of the program's own -/
structure ErrAt (K : PySem.W.Frag) (x q : Str) (st : Stmt) (C f : Addr) (fd : FuncData) : Prop where
  g : PySem.W.nsIn K mainGlobals x = some (some (.ref C))
  O : OexC K C
  i : PySem.W.findIn K (.ref C) "__init__" = some (some (.ref f))
  t : PySem.W.typeIn K (.ref f) = some (.type "function")
  F : Fun K "__init__" q st f fd
theorem errAt_mk {K : PySem.W.Frag} {x q : Str} {st : Stmt} {C C0 f : Addr} {nm qn : Str} {N : Addr} {bs : List Value} {sn : List Str} {sub : List Value} {ab : Bool} {col : Option Bool} {dd : Option Addr} {m0 m1 m2 m3 m5 : Option Value}
    {oc : Value} {od an : Option Addr} {osl : Array (Option Value)} {kV doc pm cdv ct : Value}
    (a : PySem.W.nsIn K mainGlobals x = some (some (.ref C)))
    (xL : K.lookup C = some (excClassObj nm qn C N bs [.ref C0, .type "ValueError", .type "Exception", .type "BaseException", .type "object"] true sn sub ab col dd m0 m1 m2 m3 m5 "ValueError.__new__"))
    (sa : PySem.W.findIn K (.ref C) "__setattr__" = some (some (.builtin "object.__setattr__"))) (eC : PySem.W.subIn K (.ref C) (.type "BaseException") = some true) (tC : PySem.W.typeIn K (.ref C) = some (.type "type")) (kC : PySem.W.keepIn K (.ref C) = true)
    (i : PySem.W.findIn K (.ref C) "__init__" = some (some (.ref f))) (t : PySem.W.typeIn K (.ref f) = some (.type "function"))
    (l : K.lookup f = some ⟨oc, od, .func (PySem.W.fnOf "__init__" q (defArgs st) (defBody st) (defScope st) .none kV doc pm an cdv ct), osl⟩)
    (c : PySem.W.codeIn K cdv q = true) (k : PySem.W.keepIn K (.ref f) = true) : ErrAt K x q st C f (PySem.W.fnOf "__init__" q (defArgs st) (defBody st) (defScope st) .none kV doc pm an cdv ct) :=
  ⟨a, ⟨⟨nm, qn, N, bs, _, sn, sub, ab, col, dd, m0, m1, m2, m3, m5, xL, (by decide +kernel : PySem.HandSPX.refsVE [.type "ValueError", .type "Exception", .type "BaseException", .type "object"] = true)⟩, sa, eC, tC, kC⟩, i, t, fun_mk l c k⟩
/-- a tuple of texts or numbers among the globals -/
def TupAt (K : PySem.W.Frag) (x : Str) (xs : List V) : Prop := ∃ a, PySem.W.nsIn K mainGlobals x = some (some (.ref a)) ∧ SqT K (fun _ => none) a xs
theorem tupAt_mk {K : PySem.W.Frag} {x : Str} {xs : List V} {a : Addr} {od : Option Addr} {osl : Array (Option Value)} {its : Array Value} {n : Nat} (g : PySem.W.nsIn K mainGlobals x = some (some (.ref a)))
    (l : K.lookup a = some ⟨.type "tuple", od, .seq its n, osl⟩) (z : its.size ≤ sizeLine) (v : Vals xs its.toList) : TupAt K x xs := ⟨a, g, .inr ⟨_, its, n, l, rfl, rfl, z, v⟩⟩
def IntAt (K : PySem.W.Frag) (x : Str) (i : Int) : Prop := ∃ t, PySem.W.nsIn K mainGlobals x = some (some (.int i t))
theorem intAt_mk {K : PySem.W.Frag} {x : Str} {i : Int} {t : Nat} (g : PySem.W.nsIn K mainGlobals x = some (some (.int i t))) : IntAt K x i := ⟨t, g⟩
def StrAt (K : PySem.W.Frag) (x : Str) (i : Str) : Prop := ∃ t, PySem.W.nsIn K mainGlobals x = some (some (.str i t))
theorem strAt_mk {K : PySem.W.Frag} {x : Str} {i : Str} {t : Nat} (g : PySem.W.nsIn K mainGlobals x = some (some (.str i t))) : StrAt K x i := ⟨t, g⟩
/-- the class of houses -/
structure HouAt (K : PySem.W.Frag) (CH : Addr) (fH : Addr) (fdH : FuncData) (dvs : List V) : Prop where
  g : PySem.W.nsIn K mainGlobals "House" = some (some (.ref CH))
  cl : Cls K CH
  nT : NoAttr K CH "tables"
  nK : NoAttr K CH "key_count"
  nC : NoAttr K CH "careful"
  nR : NoAttr K CH "reminders"
  M : Mk K CH fH
  FH : FunD K "__init__" "House.__init__" (defArgs sInit) (defBody sInit) (defScope sInit) dvs [] fH fdH
  two : dvs.length = 2
theorem houAt_mk {K : PySem.W.Frag} {CH : Addr} {fH T e1 e2 : Addr} {ocH dcH pmH cdH ctH kVH ocT : Value} {odH anH odT : Option Addr} {slH slT : Array (Option Value)} {nT : Nat}
    (g : PySem.W.nsIn K mainGlobals "House" = some (some (.ref CH)))
    (pg : PySem.W.plainGet K CH Str.empty = true) (hd : PySem.W.hasDictIn K CH = true) (po : PySem.W.plainOver K CH = true) (sa : PySem.W.findIn K (.ref CH) "__setattr__" = some (some (.builtin "object.__setattr__")))
    (n1 : PySem.W.findIn K (.ref CH) "tables" = some none) (n2 : PySem.W.findIn K (.ref CH) "key_count" = some none) (n3 : PySem.W.findIn K (.ref CH) "careful" = some none) (n4 : PySem.W.findIn K (.ref CH) "reminders" = some none)
    (mk : PySem.W.makesIn K CH = true) (i : PySem.W.findIn K (.ref CH) "__init__" = some (some (.ref fH))) (fn : PySem.W.isFn K (.ref fH) = true) (kc : PySem.W.keepIn K (.ref CH) = true)
    (lH : K.lookup fH = some ⟨ocH, odH, .func (PySem.W.fnOf "__init__" "House.__init__" (defArgs sInit) (defBody sInit) (defScope sInit) (.ref T) kVH dcH pmH anH cdH ctH), slH⟩) (cH : PySem.W.codeIn K cdH "House.__init__" = true) (kH : PySem.W.keepIn K (.ref fH) = true)
    (lT : K.lookup T = some ⟨ocT, odT, .seq #[.ref e1, .ref e2] nT, slT⟩) :
    HouAt K CH fH (PySem.W.fnOf "__init__" "House.__init__" (defArgs sInit) (defBody sInit) (defScope sInit) (.ref T) kVH dcH pmH anH cdH ctH) [.ref e1, .ref e2] :=
  ⟨g, ⟨pg, hd, po, sa⟩, n1, n2, n3, n4, ⟨mk, i, fn, kc⟩, ⟨⟨ocH, odH, _, _, _, _, _, _, _, _, rfl, lH, cH, .inr ⟨by simp, T, _, [.ref e1, .ref e2], nT, rfl, lT, rfl, .cons rfl (.cons rfl .nil)⟩, .inl rfl⟩, kH⟩, rfl⟩
/-- a method -/
structure MetAt (K : PySem.W.Frag) (C : Addr) (x q : Str) (st : Stmt) (f : Addr) (fd : FuncData) : Prop where
  m : Meth K C x f
  F : Fun K x q st f fd
theorem metAt_mk {K : PySem.W.Frag} {C : Addr} {x q : Str} {st : Stmt} {f : Addr} {oc : Value} {od an : Option Addr} {osl : Array (Option Value)} {kV doc pm cdv ct : Value} (a : PySem.W.findIn K (.ref C) x = some (some (.ref f))) (n : PySem.W.isFn K (.ref f) = true)
    (l : K.lookup f = some ⟨oc, od, .func (PySem.W.fnOf x q (defArgs st) (defBody st) (defScope st) .none kV doc pm an cdv ct), osl⟩)
    (c : PySem.W.codeIn K cdv q = true) (k : PySem.W.keepIn K (.ref f) = true) : MetAt K C x q st f (PySem.W.fnOf x q (defArgs st) (defBody st) (defScope st) .none kV doc pm an cdv ct) := ⟨⟨a, n, k⟩, fun_mk l c k⟩
/-- a property -/
structure PrpAt (K : PySem.W.Frag) (C : Addr) (x q : Str) (st : Stmt) (p f : Addr) (fd : FuncData) : Prop where
  po : PropOf K C x p f
  F : Fun K x q st f fd
theorem prpAt_mk {K : PySem.W.Frag} {C : Addr} {x q : Str} {st : Stmt} {p f : Addr} {oc : Value} {od an : Option Addr} {osl : Array (Option Value)} {kV doc pm cdv ct : Value} {rt : List Value} (a : PySem.W.findIn K (.ref C) x = some (some (.ref p)))
    (pG : PySem.W.specialIn K (.ref p) "__get__" = some (some (.builtin "property.__get__"))) (pK : PySem.W.takesIn K (.ref p) = some true) (pR : PySem.W.recIn K p "property" = some (.ref f :: rt))
    (l : K.lookup f = some ⟨oc, od, .func (PySem.W.fnOf x q (defArgs st) (defBody st) (defScope st) .none kV doc pm an cdv ct), osl⟩)
    (c : PySem.W.codeIn K cdv q = true) (k : PySem.W.keepIn K (.ref f) = true) : PrpAt K C x q st p f (PySem.W.fnOf x q (defArgs st) (defBody st) (defScope st) .none kV doc pm an cdv ct) := ⟨⟨a, pG, pK, ⟨_, pR⟩⟩, fun_mk l c k⟩
/-- a class method -/
structure CMetAt (K : PySem.W.Frag) (C : Addr) (x q : Str) (st : Stmt) (p f : Addr) (fd : FuncData) : Prop where
  rd : ClX.CRead K C (.type "type")
  cm : ClX.CMet K C (.type "type") x p f
  F : Fun K x q st f fd
theorem cmetAt_mk {K : PySem.W.Frag} {C : Addr} {x q : Str} {st : Stmt} {p f : Addr} {oc : Value} {od an : Option Addr} {osl : Array (Option Value)} {kV doc pm cdv ct : Value} {rp : List Value}
    (rd : PySem.W.readsIn K C (.type "type") = true) (ga : PySem.W.specialIn K (.ref C) "__getattribute__" = some (some (.builtin "type.__getattribute__")))
    (cmA : PySem.W.findCls K (.ref C) (.type "type") x = some (.get (.builtin "classmethod.__get__") (.ref p) .none (.ref C))) (cmR : PySem.W.recIn K p "classmethod" = some (.ref f :: rp)) (cmF : PySem.W.fnIn K f = true)
    (l : K.lookup f = some ⟨oc, od, .func (PySem.W.fnOf x q (defArgs st) (defBody st) (defScope st) .none kV doc pm an cdv ct), osl⟩)
    (c : PySem.W.codeIn K cdv q = true) (k : PySem.W.keepIn K (.ref f) = true) : CMetAt K C x q st p f (PySem.W.fnOf x q (defArgs st) (defBody st) (defScope st) .none kV doc pm an cdv ct) := ⟨⟨rd, ga⟩, ⟨cmA, ⟨_, cmR⟩, cmF⟩, fun_mk l c k⟩
/-- a class of the program's own -/
structure ClaAt (K : PySem.W.Frag) (x q : Str) (at' : List Str) (st : Stmt) (CC fC : Addr) (fdC : FuncData) : Prop where
  g : PySem.W.nsIn K mainGlobals x = some (some (.ref CC))
  cl : Cls K CC
  n : ∀ a ∈ at', NoAttr K CC a
  M : Mk K CC fC
  F : Fun K "__init__" q st fC fdC
theorem claAt_mk {K : PySem.W.Frag} {x q : Str} {at' : List Str} {st : Stmt} {CC fC : Addr} {oc : Value} {od an : Option Addr} {osl : Array (Option Value)} {kV doc pm cdv ct : Value}
    (g : PySem.W.nsIn K mainGlobals x = some (some (.ref CC)))
    (pg : PySem.W.plainGet K CC Str.empty = true) (hd : PySem.W.hasDictIn K CC = true) (po : PySem.W.plainOver K CC = true) (sa : PySem.W.findIn K (.ref CC) "__setattr__" = some (some (.builtin "object.__setattr__")))
    (n : ∀ a ∈ at', NoAttr K CC a)
    (mk : PySem.W.makesIn K CC = true) (i : PySem.W.findIn K (.ref CC) "__init__" = some (some (.ref fC))) (fn : PySem.W.isFn K (.ref fC) = true) (kc : PySem.W.keepIn K (.ref CC) = true)
    (l : K.lookup fC = some ⟨oc, od, .func (PySem.W.fnOf "__init__" q (defArgs st) (defBody st) (defScope st) .none kV doc pm an cdv ct), osl⟩)
    (c : PySem.W.codeIn K cdv q = true) (k : PySem.W.keepIn K (.ref fC) = true) : ClaAt K x q at' st CC fC (PySem.W.fnOf "__init__" q (defArgs st) (defBody st) (defScope st) .none kV doc pm an cdv ct) :=
  ⟨g, ⟨pg, hd, po, sa⟩, n, ⟨mk, i, fn, kc⟩, fun_mk l c k⟩

/-- a class of errors: its name, and that it is a class -/
structure ClsAt (K : PySem.W.Frag) (x : Str) (c : Addr) : Prop where
  g : PySem.W.nsIn K mainGlobals x = some (some (.ref c))
  t : PySem.W.typeIn K (.ref c) = some (.type "type")
  i : PySem.W.isClsIn K c = true
theorem kit_no {K : PySem.W.Frag} {x : Str} {D c : Addr} (h : ClsAt K x c) (n : D ≠ c) (s : PySem.W.subIn K (.ref D) (.ref c) = some false) : PySem.W.kitOne K (.ref D) (.ref c) = some false := by
  unfold PySem.W.kitOne
  rw [if_neg (by intro q; exact n (Value.ref.inj (beq_iff_eq.mp q)))]
  show (if ((PySem.W.clsIn K c).isSome && PySem.W.typeIn K (.ref c) == some (.type "type")) = true then PySem.W.subIn K (.ref D) (.ref c) else none) = some false
  rw [show (PySem.W.clsIn K c).isSome = true from h.i, h.t]
  exact s
theorem kit_self {K : PySem.W.Frag} {c : Addr} : PySem.W.kitOne K (.ref c) (.ref c) = some true := by
  unfold PySem.W.kitOne
  rw [if_pos (beq_self_eq_true _)]
theorem kit_ve {K : PySem.W.Frag} {D : Addr} (s : PySem.W.subIn K (.ref D) (.type "ValueError") = some true) : PySem.W.kitOne K (.ref D) (.type "ValueError") = some true := by
  unfold PySem.W.kitOne
  rw [if_neg (by intro q; cases beq_iff_eq.mp q)]
  show (if PySem.W.kitMeta "ValueError" = true then PySem.W.subIn K (.ref D) (.type "ValueError") else none) = some true
  rw [if_pos (by decide +kernel)]
  exact s
structure SubEx (K : PySem.W.Frag) (CE D : Addr) : Prop where
  v : PySem.W.subIn K (.ref D) (.type "ValueError") = some true
  e : PySem.W.subIn K (.ref D) (.ref CE) = some true
  C : ExcC K D
theorem subEx_mk {K : PySem.W.Frag} {CE D : Addr} (v : PySem.W.subIn K (.ref D) (.type "ValueError") = some true) (e : PySem.W.subIn K (.ref D) (.ref CE) = some true)
    (hg : PySem.W.findIn K (.ref D) "__getattribute__" = some (some (.builtin "BaseException.__getattribute__"))) (hk : PySem.W.findIn K (.ref D) "__getattr__" = some none) (hs : PySem.W.subIn K (.ref D) (.type "BaseException") = some true) (hd : PySem.W.hasDictIn K D = true)
    (ha : PySem.W.findIn K (.ref D) "__class__" = some (some (.builtin "object.__class__"))) (hn : PySem.W.specialIn K (.builtin "object.__class__") "__get__" = some (some (.builtin "getset_descriptor.__get__"))) (ht : PySem.W.takesIn K (.builtin "object.__class__") = some true) (hm : PySem.W.mroIn K D (.type "object") = some true) : SubEx K CE D := ⟨v, e, ⟨hg, hk, hs, hd, ha, hn, ht, hm⟩⟩
theorem all_mk {l : PySem.W.OpenLaw} {w : World} {K : PySem.W.Frag} {h : Heap} {mg : Str → Option Value} {fa : Addr} (X : K.In h) (G : h.Ns mainGlobals mg) (hfa : mg "law" = some (.ref fa))
    {f_ii f_ib f_pe f_ct f_ck f_cc f_cr f_it f_ir f_as f_ho f_ra f_be f_ta f_le f_pa f_hs f_enc f_dec f_chs f_rt f_rc f_rp f_er f_rtk f_rtb f_pP f_pS ppP ppS C_ic f_ic C_rdr f_rdr  C_i f_i CH fH  c_0 c_1 c_2 c_3 c_4 c_5 c_6 c_7 c_9 c_10 c_11 CE  f_lw cL_lw Pt_lw  : Addr} {d_ii d_ib d_pe d_ct d_ck d_cc d_cr d_it d_ir d_as d_ho d_ra d_be d_ta d_le d_pa d_hs d_enc d_dec d_chs d_rt d_rc d_rp d_er d_rtk d_rtb d_pP d_pS d_ic d_rdr d_i d_h  : FuncData} {dvs : List V}
    (h_ii : FnAt K "is_integer" sIsInt f_ii d_ii) (h_ib : FnAt K "is_below" sIsBelow f_ib d_ib) (h_pe : FnAt K "common_period" sPeriod f_pe d_pe) (h_ct : FnAt K "check_tables" sChkTables f_ct d_ct) (h_ck : FnAt K "check_keys" sChkKeys f_ck d_ck) (h_cc : FnAt K "check_careful" sChkCareful f_cc d_cc) (h_cr : FnAt K "check_reminders" sChkRem f_cr d_cr) (h_it : FnAt K "is_table" sIsTable f_it d_it) (h_ir : FnAt K "is_reminder" sIsRem f_ir d_ir) (h_as : FnAt K "is_ascending_at" sAsc f_as d_as) (h_ho : FnAt K "has_only" sHasOnly f_ho d_ho) (h_ra : FnAt K "_law_random" sRandom f_ra d_ra) (h_be : FnAt K "_law_below" sBelow f_be d_be) (h_ta : FnAt K "_law_table" sTable f_ta d_ta) (h_le : FnAt K "_law_length" sLength f_le d_le) (h_pa : FnAt K "_law_parts" sParts f_pa d_pa) (h_hs : FnAt K "_law_house" sHouseF f_hs d_hs) (h_enc : FnAt K "encode" sEncode f_enc d_enc) (h_dec : FnAt K "decode" sDecode f_dec d_dec) (h_chs : FnAt K "checksum" sChksum f_chs d_chs) (h_rt : FnAt K "read_table" sRdTable f_rt d_rt) (h_rc : FnAt K "read_careful" sRdCareful f_rc d_rc) (h_rp : FnAt K "read_pairs" sRdPairs f_rp d_rp) (h_er : FnAt K "_law_error_of" sErrOf f_er d_er)
    (m_rtk : MetAt K C_rdr "take" "Reader.take" sTakeR f_rtk d_rtk) (m_rtb : MetAt K C_rdr "take_between" "Reader.take_between" sTakeB f_rtb d_rtb)
    (p_pP : PrpAt K CH "period" "House.period" sPeriodP ppP f_pP d_pP) (p_pS : PrpAt K CH "persons" "House.persons" sPersonsP ppS f_pS d_pS)  
    (e_ic : ErrAt K "InvalidCode" "InvalidCode.__init__" sICInit C_ic f_ic d_ic) (n_ic_place : PySem.W.findIn K (.ref C_ic) "place" = some none) (l_rdr : ClaAt K "Reader" "Reader.__init__" ["code", "place"] sRInit C_rdr f_rdr d_rdr)
     (c11 : StrAt K "CODED_LETTERS" ohS)
    (e_i : ErrAt K "InvalidHouse" "InvalidHouse.__init__" sIHInit C_i f_i d_i) (np : PySem.W.findIn K (.ref C_i) "part" = some none) (ni : PySem.W.findIn K (.ref C_i) "index" = some none)
    (hh : HouAt K CH fH d_h dvs)
    (hE : PySem.W.nsIn K mainGlobals "HouseError" = some (some (.ref CE))) (x1 : PySem.W.subIn K (.ref CE) (.type "BaseException") = some true) (x2 : PySem.W.hasDictIn K CE = true) (x3 : PySem.W.typeIn K (.ref CE) = some (.type "type"))
    (k0 : ClsAt K "InvalidTick" c_0) (k1 : ClsAt K "UnknownPerson" c_1) (k2 : ClsAt K "InvalidLimit" c_2) (k3 : ClsAt K "DifferentHouses" c_3) (k4 : ClsAt K "InvalidWaiting" c_4) (k5 : ClsAt K "Contradiction" c_5) (k6 : ClsAt K "InvalidName" c_6) (k7 : ClsAt K "UnknownName" c_7) (k8 : ClsAt K "InvalidHouse" C_i) (k9 : ClsAt K "TextFault" c_9) (k10 : ClsAt K "InvalidCode" c_10) (k11 : ClsAt K "InvalidOperation" c_11)
    (s10 : SubEx K CE c_10)
    (a10_0 : PySem.W.subIn K (.ref c_10) (.ref c_0) = some false) (m10_0 : c_10 ≠ c_0) (a10_1 : PySem.W.subIn K (.ref c_10) (.ref c_1) = some false) (m10_1 : c_10 ≠ c_1) (a10_2 : PySem.W.subIn K (.ref c_10) (.ref c_2) = some false) (m10_2 : c_10 ≠ c_2) (a10_3 : PySem.W.subIn K (.ref c_10) (.ref c_3) = some false) (m10_3 : c_10 ≠ c_3) (a10_4 : PySem.W.subIn K (.ref c_10) (.ref c_4) = some false) (m10_4 : c_10 ≠ c_4) (a10_5 : PySem.W.subIn K (.ref c_10) (.ref c_5) = some false) (m10_5 : c_10 ≠ c_5) (a10_6 : PySem.W.subIn K (.ref c_10) (.ref c_6) = some false) (m10_6 : c_10 ≠ c_6) (a10_7 : PySem.W.subIn K (.ref c_10) (.ref c_7) = some false) (m10_7 : c_10 ≠ c_7) (a10_8 : PySem.W.subIn K (.ref c_10) (.ref C_i) = some false) (m10_8 : c_10 ≠ C_i) (a10_9 : PySem.W.subIn K (.ref c_10) (.ref c_9) = some false) (m10_9 : c_10 ≠ c_9) (a10_11 : PySem.W.subIn K (.ref c_10) (.ref c_11) = some false) (m10_11 : c_10 ≠ c_11)
    (xf8 : XfC K C_i) (xf9 : XfC K c_9) (nl : PySem.W.findIn K (.ref c_9) "line" = some none)
    (pl10 : PySem.W.findIn K (.ref c_10) "place" = some none)
    {ocl_lw : Value} {odl_lw anl_lw : Option Addr} {osl_lw : Array (Option Value)} {kVl_lw docl_lw pml_lw ctl_lw : Value}
    (gl_lw : PySem.W.nsIn K mainGlobals "law" = some (some (.ref f_lw))) (ll_lw : K.lookup f_lw = some ⟨ocl_lw, odl_lw, .func (PySem.W.fnOf "law" "law" (defArgs sLaw) (defBody sLaw) (defScope sLaw) .none kVl_lw docl_lw pml_lw anl_lw (.ref cL_lw) ctl_lw), osl_lw⟩) (lc_lw : PySem.W.codeIn K (.ref cL_lw) "law" = true) (kl_lw : PySem.W.keepIn K (.ref f_lw) = true)
    (tabE_lw : h.get? Pt_lw = some { cls := .none, data := .fields #[] }) (hC_lw : PySem.W.codeHdIn K cL_lw Pt_lw = true) (nPx_lw : K.lookup Pt_lw = none)
    (c1 : TupAt K "TABLE_LENGTHS" (tabLens.map V.int)) (c3 : IntAt K "MOST_PERSONS" 6) (c4 : IntAt K "MOST_KEYS" 9) (c5 : IntAt K "MOST_REMINDERS" 10) (c10 : IntAt K "HEADER" 75) (c6 : StrAt K "LETTERS" hoS)
    (zl : PySem.W.nsIn K mainGlobals "lcm" = some (some (.builtin "math.lcm")))
    (z_abs : PySem.W.nsIn K mainGlobals "abs" = some none) (z_len : PySem.W.nsIn K mainGlobals "len" = some none) (z_range : PySem.W.nsIn K mainGlobals "range" = some none) (z_tuple : PySem.W.nsIn K mainGlobals "tuple" = some none) (z_sorted : PySem.W.nsIn K mainGlobals "sorted" = some none) (z_enumerate : PySem.W.nsIn K mainGlobals "enumerate" = some none) (z_isinstance : PySem.W.nsIn K mainGlobals "isinstance" = some none) (z_int : PySem.W.nsIn K mainGlobals "int" = some none) (z_bool : PySem.W.nsIn K mainGlobals "bool" = some none) (z_str : PySem.W.nsIn K mainGlobals "str" = some none) (z_all : PySem.W.nsIn K mainGlobals "all" = some none) (z_list : PySem.W.nsIn K mainGlobals "list" = some none) (z_any : PySem.W.nsIn K mainGlobals "any" = some none) (z_sum : PySem.W.nsIn K mainGlobals "sum" = some none) (z_ValueError : PySem.W.nsIn K mainGlobals "ValueError" = some none) (eqC : c_10 = C_ic) :
    LamX.LawAtS l w K CX0 14 63 "_law_script" mg fa h := by
  have e := hfa.symm.trans (PySem.W.mg_of X G gl_lw)
  cases e
  have g_ii := PySem.W.mg_of X G h_ii.g
  have b_ii := h_ii.F.binds (ps := ["value"]) fun _ _ _ _ _ _ us hl => match us, hl with | [_], _ => rfl
  have g_ib := PySem.W.mg_of X G h_ib.g
  have b_ib := h_ib.F.binds (ps := ["value", "limit"]) fun _ _ _ _ _ _ us hl => match us, hl with | [_, _], _ => rfl
  have g_pe := PySem.W.mg_of X G h_pe.g
  have b_pe := h_pe.F.binds (ps := ["tables"]) fun _ _ _ _ _ _ us hl => match us, hl with | [_], _ => rfl
  have g_ct := PySem.W.mg_of X G h_ct.g
  have b_ct := h_ct.F.binds (ps := ["tables"]) fun _ _ _ _ _ _ us hl => match us, hl with | [_], _ => rfl
  have g_ck := PySem.W.mg_of X G h_ck.g
  have b_ck := h_ck.F.binds (ps := ["keys"]) fun _ _ _ _ _ _ us hl => match us, hl with | [_], _ => rfl
  have g_cc := PySem.W.mg_of X G h_cc.g
  have b_cc := h_cc.F.binds (ps := ["careful", "persons"]) fun _ _ _ _ _ _ us hl => match us, hl with | [_, _], _ => rfl
  have g_cr := PySem.W.mg_of X G h_cr.g
  have b_cr := h_cr.F.binds (ps := ["reminders", "period", "persons"]) fun _ _ _ _ _ _ us hl => match us, hl with | [_, _, _], _ => rfl
  have g_it := PySem.W.mg_of X G h_it.g
  have b_it := h_it.F.binds (ps := ["table"]) fun _ _ _ _ _ _ us hl => match us, hl with | [_], _ => rfl
  have g_ir := PySem.W.mg_of X G h_ir.g
  have b_ir := h_ir.F.binds (ps := ["reminder", "period", "persons"]) fun _ _ _ _ _ _ us hl => match us, hl with | [_, _, _], _ => rfl
  have g_as := PySem.W.mg_of X G h_as.g
  have b_as := h_as.F.binds (ps := ["items", "index"]) fun _ _ _ _ _ _ us hl => match us, hl with | [_, _], _ => rfl
  have g_ho := PySem.W.mg_of X G h_ho.g
  have b_ho := h_ho.F.binds (ps := ["word", "characters"]) fun _ _ _ _ _ _ us hl => match us, hl with | [_, _], _ => rfl
  have g_ra := PySem.W.mg_of X G h_ra.g
  have b_ra := h_ra.F.binds (ps := ["_law_script", "_law_salt"]) fun _ _ _ _ _ _ us hl => match us, hl with | [_, _], _ => rfl
  have g_be := PySem.W.mg_of X G h_be.g
  have b_be := h_be.F.binds (ps := ["_law_d", "_law_limit"]) fun _ _ _ _ _ _ us hl => match us, hl with | [_, _], _ => rfl
  have g_ta := PySem.W.mg_of X G h_ta.g
  have b_ta := h_ta.F.binds (ps := ["_law_d"]) fun _ _ _ _ _ _ us hl => match us, hl with | [_], _ => rfl
  have g_le := PySem.W.mg_of X G h_le.g
  have b_le := h_le.F.binds (ps := ["_law_tables"]) fun _ _ _ _ _ _ us hl => match us, hl with | [_], _ => rfl
  have g_pa := PySem.W.mg_of X G h_pa.g
  have b_pa := h_pa.F.binds (ps := ["_law_d", "_law_most"]) fun _ _ _ _ _ _ us hl => match us, hl with | [_, _], _ => rfl
  have g_hs := PySem.W.mg_of X G h_hs.g
  have b_hs := h_hs.F.binds (ps := ["_law_parts_here"]) fun _ _ _ _ _ _ us hl => match us, hl with | [_], _ => rfl
  have g_enc := PySem.W.mg_of X G h_enc.g
  have b_enc := h_enc.F.binds (ps := ["house"]) fun _ _ _ _ _ _ us hl => match us, hl with | [_], _ => rfl
  have g_dec := PySem.W.mg_of X G h_dec.g
  have b_dec := h_dec.F.binds (ps := ["code"]) fun _ _ _ _ _ _ us hl => match us, hl with | [_], _ => rfl
  have g_chs := PySem.W.mg_of X G h_chs.g
  have b_chs := h_chs.F.binds (ps := ["code"]) fun _ _ _ _ _ _ us hl => match us, hl with | [_], _ => rfl
  have g_rt := PySem.W.mg_of X G h_rt.g
  have b_rt := h_rt.F.binds (ps := ["reader"]) fun _ _ _ _ _ _ us hl => match us, hl with | [_], _ => rfl
  have g_rc := PySem.W.mg_of X G h_rc.g
  have b_rc := h_rc.F.binds (ps := ["reader", "persons"]) fun _ _ _ _ _ _ us hl => match us, hl with | [_, _], _ => rfl
  have g_rp := PySem.W.mg_of X G h_rp.g
  have b_rp := h_rp.F.binds (ps := ["reader", "period", "persons"]) fun _ _ _ _ _ _ us hl => match us, hl with | [_, _, _], _ => rfl
  have g_er := PySem.W.mg_of X G h_er.g
  have b_er := h_er.F.binds (ps := ["_law_call"]) fun _ _ _ _ _ _ us hl => match us, hl with | [_], _ => rfl
  have b_rtk := m_rtk.F.binds (ps := ["self", "allowed"]) fun _ _ _ _ _ _ us hl => match us, hl with | [_, _], _ => rfl
  have b_rtb := m_rtb.F.binds (ps := ["self", "low", "high"]) fun _ _ _ _ _ _ us hl => match us, hl with | [_, _, _], _ => rfl
  have b_pP := p_pP.F.binds (ps := ["self"]) fun _ _ _ _ _ _ us hl => match us, hl with | [_], _ => rfl
  have b_pS := p_pS.F.binds (ps := ["self"]) fun _ _ _ _ _ _ us hl => match us, hl with | [_], _ => rfl
  have b_ic := e_ic.F.binds (ps := ["self", "place"]) fun _ _ _ _ _ _ us hl => match us, hl with | [_, _], _ => rfl
  have b_rdr := l_rdr.F.binds (ps := ["self", "code"]) fun _ _ _ _ _ _ us hl => match us, hl with | [_, _], _ => rfl
  obtain ⟨t_c11, g_c11⟩ := c11
  have y_abs := PySem.W.mg_none_of X G z_abs
  have y_len := PySem.W.mg_none_of X G z_len
  have y_range := PySem.W.mg_none_of X G z_range
  have y_tuple := PySem.W.mg_none_of X G z_tuple
  have y_sorted := PySem.W.mg_none_of X G z_sorted
  have y_enumerate := PySem.W.mg_none_of X G z_enumerate
  have y_isinstance := PySem.W.mg_none_of X G z_isinstance
  have y_int := PySem.W.mg_none_of X G z_int
  have y_bool := PySem.W.mg_none_of X G z_bool
  have y_str := PySem.W.mg_none_of X G z_str
  have y_all := PySem.W.mg_none_of X G z_all
  have y_list := PySem.W.mg_none_of X G z_list
  have y_any := PySem.W.mg_none_of X G z_any
  have y_sum := PySem.W.mg_none_of X G z_sum
  have y_ValueError := PySem.W.mg_none_of X G z_ValueError
  have b_i := e_i.F.binds (ps := ["self", "part", "index"]) fun _ _ _ _ _ _ us hl => match us, hl with | [_, _, _], _ => rfl
  have b_h : Binds K d_h ["self", "tables", "keys", "careful", "reminders"] [] := by
    have hq := hh.FH.binds1 (ps := ["self", "tables", "keys", "careful", "reminders"]) 5 2 (fun q => by have := hh.two; rw [q] at this; cases this) (by rw [hh.two]; rfl)
      (fun T kV doc pm an cdv ct us its hl hi => by
        rw [hh.two] at hi
        match us, hl, its, hi with
        | [_, _, _, _, _], _, [_, _], _ => exact ⟨_, rfl, rfl⟩)
    obtain ⟨ds, hv, hb⟩ := hq
    rw [show dvs.drop 2 = [] from List.drop_of_length_le (by rw [hh.two]; exact Nat.le_refl _)] at hv
    cases hv
    exact hb
  obtain ⟨a1, g1, q1⟩ := c1
  obtain ⟨t3, g3⟩ := c3
  obtain ⟨t4, g4⟩ := c4
  obtain ⟨t5, g5⟩ := c5
  obtain ⟨t10, g10⟩ := c10
  obtain ⟨t6, g6⟩ := c6
  have TA : TxtA mg := { abs := y_abs, len := y_len, range := y_range }
  have TB : TxtB K mg f_be d_be := { g := g_be, F := h_be.F, b := b_be }
  have TD : TxtD K mg f_ta f_le d_ta d_le := { gT := g_ta, FT := h_ta.F, bT := b_ta, gL := g_le, FL := h_le.F, bL := b_le, tuple := y_tuple, sorted := y_sorted }
  have TC : TxtC mg := { lcm := PySem.W.mg_of X G zl }
  have TF : TxtF K mg f_ii f_ib f_ho d_ii d_ib d_ho := { isinstance := y_isinstance, int := y_int, bool := y_bool, str := y_str, tuple := y_tuple, all := y_all, gII := g_ii, FII := h_ii.F, bII := b_ii, gIB := g_ib, FIB := h_ib.F, bIB := b_ib, gHO := g_ho, FHO := h_ho.F, bHO := b_ho, letters := ⟨t6, PySem.W.mg_of X G g6⟩, lengths := ⟨a1, PySem.W.mg_of X G g1, q1⟩ }
  have TI : TxtI K mg f_it f_ir f_as d_it d_ir d_as := { enumerate := y_enumerate, most := ⟨t3, PySem.W.mg_of X G g3⟩, keys := ⟨t4, PySem.W.mg_of X G g4⟩, rems := ⟨t5, PySem.W.mg_of X G g5⟩, gIT := g_it, FIT := h_it.F, bIT := b_it, gIR := g_ir, FIR := h_ir.F, bIR := b_ir, gAs := g_as, FAs := h_as.F, bAs := b_as }
  have TH : TxtIH K mg C_i f_i d_i := { gC := PySem.W.mg_of X G e_i.g, O := e_i.O, iC := e_i.i, tI := e_i.t, F := e_i.F, b := b_i, nP := np, nI := ni }
  have TL' : TxtL K mg CH f_pe f_ct f_ck f_cc f_cr d_pe d_ct d_ck d_cc d_cr := { cl := hh.cl, nT := hh.nT, nK := hh.nK, nC := hh.nC, nR := hh.nR, gP := g_pe, FP := h_pe.F, bP := b_pe, gT := g_ct, FT := h_ct.F, bT := b_ct, gK := g_ck, FK := h_ck.F, bK := b_ck, gCa := g_cc, FC := h_cc.F, bC := b_cc, gR := g_cr, FR := h_cr.F, bR := b_cr }
  let ecs : Nat → Addr := fun i => [c_0, c_1, c_2, c_3, c_4, c_5, c_6, c_7, C_i, c_9, c_10, c_11].getD i 0
  have NN : TxtN mg ecs CE := { gE := PySem.W.mg_of X G hE, n0 := PySem.W.mg_of X G k0.g, n1 := PySem.W.mg_of X G k1.g, n2 := PySem.W.mg_of X G k2.g, n3 := PySem.W.mg_of X G k3.g, n4 := PySem.W.mg_of X G k4.g, n5 := PySem.W.mg_of X G k5.g, n6 := PySem.W.mg_of X G k6.g, n7 := PySem.W.mg_of X G k7.g, n8 := PySem.W.mg_of X G k8.g, n9 := PySem.W.mg_of X G k9.g, n10 := PySem.W.mg_of X G k10.g, n11 := PySem.W.mg_of X G k11.g, vE := y_ValueError, isi := y_isinstance }
  have KT10 : ErrKit K ecs CE (ecs 10) 10 := by
    refine ⟨fun i hi => ?_, kit_ve s10.v, PySem.W.exm_ref x1 x2 x3 s10.e, s10.C⟩
    match i, hi with
    | 0, _ => exact kit_no k0 m10_0 a10_0
    | 1, _ => exact kit_no k1 m10_1 a10_1
    | 2, _ => exact kit_no k2 m10_2 a10_2
    | 3, _ => exact kit_no k3 m10_3 a10_3
    | 4, _ => exact kit_no k4 m10_4 a10_4
    | 5, _ => exact kit_no k5 m10_5 a10_5
    | 6, _ => exact kit_no k6 m10_6 a10_6
    | 7, _ => exact kit_no k7 m10_7 a10_7
    | 8, _ => exact kit_no k8 m10_8 a10_8
    | 9, _ => exact kit_no k9 m10_9 a10_9
    | 10, _ => exact kit_self
    | 11, _ => exact kit_no k11 m10_11 a10_11
  have ekit : ∀ j ∈ ([10] : List Nat), ErrKit K ecs CE (ecs j) j := by
    intro j hj
    simp only [List.mem_cons, List.not_mem_nil, or_false] at hj
    subst hj
    exact KT10
  have eten : ∀ j ∈ ([10] : List Nat), 10 ≤ j → XfC K (ecs j) ∧ PySem.W.findIn K (.ref (ecs j)) "place" = some none := by
    intro j hj h10
    simp only [List.mem_cons, List.not_mem_nil, or_false] at hj
    subst hj
    exact ⟨⟨s10.C.hg, s10.C.hk, s10.C.hs, s10.C.hd⟩, pl10⟩
  have EK : ErK K ecs CE [10] := { lt := by decide, kit := ekit, x8 := xf8, x9 := xf9, nP := np, nI := ni, nL := nl, x10 := eten }
  have gH := PySem.W.mg_of X G hh.g
  have EN : TxtEn K mg CH ppS f_pS f_chs d_pS d_chs := { poPs := p_pS.po, FPs := p_pS.F, bPs := b_pS, gSm := g_chs, FSm := h_chs.F, bSm := b_chs, header := ⟨t10, PySem.W.mg_of X G g10⟩, coded := ⟨t_c11, PySem.W.mg_of X G g_c11⟩, sum := y_sum }
  have RR : TxtRd K mg C_rdr f_rdr f_rtk f_rtb d_rdr d_rtk d_rtb := { cl := l_rdr.cl, nC := l_rdr.n _ (by simp), nP := l_rdr.n _ (by simp), FRI := l_rdr.F, bRI := b_rdr, mTk := m_rtk.m, FTk := m_rtk.F, bTk := b_rtk, mTB := m_rtb.m, FTB := m_rtb.F, bTB := b_rtb, list := y_list }
  have DD : TxtDc K mg C_rdr f_rdr f_rt f_rc f_rp d_rt d_rc d_rp := { gR := PySem.W.mg_of X G l_rdr.g, M := l_rdr.M, gRT := g_rt, FRT := h_rt.F, bRT := b_rt, gRC := g_rc, FRC := h_rc.F, bRC := b_rc, gRP := g_rp, FRP := h_rp.F, bRP := b_rp }
  have TX : TxtPl K mg "InvalidCode" "InvalidCode.__init__" sICInit C_ic f_ic d_ic := { gC := PySem.W.mg_of X G e_ic.g, O := e_ic.O, iC := e_ic.i, tI := e_ic.t, F := e_ic.F, b := b_ic, nL := n_ic_place }
  have FO : FunC K "law" "law" sLaw fa cL_lw (PySem.W.fnOf "law" "law" (defArgs sLaw) (defBody sLaw) (defScope sLaw) .none kVl_lw docl_lw pml_lw anl_lw (.ref cL_lw) ctl_lw) := ⟨⟨_, _, _, _, _, _, _, _, rfl, ll_lw, lc_lw⟩⟩
  have U : ∀ base : Heap, LamX.TabB base mg cL_lw Pt_lw → Use l.prog w K mg base CH C_ic f_dec f_er cL_lw Pt_lw CE d_dec d_er ecs := fun base TB' => {
    T := TA, sum := y_sum
    cRa := ⟨_, _, g_ra, h_ra.F.kp, b_ra, ok_random h_ra.F TA⟩
    cB := ⟨_, _, g_be, h_be.F.kp, b_be, ok_below h_be.F TA⟩
    cPa := ⟨_, _, g_pa, h_pa.F.kp, b_pa, ok_parts h_pa.F TA TB TD⟩
    cHo := ⟨_, _, g_hs, h_hs.F.kp, b_hs, ok_housef h_hs.F TA TC TF TI TH TL' hh.FH b_h hh.M gH⟩
    cEn := ⟨_, _, g_enc, h_enc.F.kp, b_enc, ok_encode h_enc.F EN TL' TA⟩
    GDe := ok_decodeX h_dec.F RR DD EN TA TC TF TI TH TL' hh.FH b_h hh.M gH TX
    gDe := g_dec, kDe := h_dec.F.kp, bDe := b_dec
    N := NN, EK := EK, eCC := eqC, gE := g_er, FE := h_er.F, bE := b_er, TB := TB'
    clH := hh.cl, nR := hh.nR }

  refine ⟨PySem.W.fnOf "law" "law" (defArgs sLaw) (defBody sLaw) (defScope sLaw) .none kVl_lw docl_lw pml_lw anl_lw (.ref cL_lw) ctl_lw, [(cL_lw, Pt_lw)], spLaw K Pt_lw, fun p hp => ?_, fun p hp => ?_, fun p hp => ?_, fun s u => .of_eq rfl, fun H a ns hl _ hT hS => ?_, fun base hb hg hTB => ?_⟩
  · rw [List.mem_singleton.mp hp]; exact tabE_lw
  · rw [List.mem_singleton.mp hp]; exact nPx_lw
  · rw [List.mem_singleton.mp hp]; exact PySem.W.codeHd_of_K X hC_lw
  · exact ⟨a, ns, rfl, hS, hl, fun p hp => by rw [List.mem_singleton.mp hp]; exact LamX.TabS.nil (hT _ (List.mem_singleton.mpr rfl)), fun _ => rfl⟩
  · have TB_lw := hTB (cL_lw, Pt_lw) (by simp)
    exact ok_law FO (U base TB_lw)
end Dk

open PySem PySem.W PyProof.Rows
set_option Elab.async false
set_option maxRecDepth 100000 in
set_option maxHeartbeats 0 in
open_top hd for PySem.Challenge.rw_doorkeys_k17_invalid_bytes

set_option Elab.async false
set_option linter.all false
open PySem PySem.W PyProof.Rows
set_option maxRecDepth 100000 in
set_option maxHeartbeats 0 in
theorem PySem.Challenge.cw_doorkeys_k17_invalid_bytes_holds : PySem.Challenge.rw_doorkeys_k17_invalid_bytes.Holds :=
  hd (by
  k_fill
  refine LamX.walk_ofTs (l := PySem.Challenge.rw_doorkeys_k17_invalid_bytes) (n := 63) (k := 14) (x := "_law_script") (CX := fun _ => L2.CX0) rfl (by decide) rfl ⟨rfl, by decide, by decide⟩ (fun w h Y => PySem.W.km_in_of Y) ?F (fun _ _ _ _ _ z => z)
  case F =>
    intro w mg fa h Y KX G hmg
    refine' Dk.all_mk KX G hmg ?h_ii ?h_ib ?h_pe ?h_ct ?h_ck ?h_cc ?h_cr ?h_it ?h_ir ?h_as ?h_ho ?h_ra ?h_be ?h_ta ?h_le ?h_pa ?h_hs ?h_enc ?h_dec ?h_chs ?h_rt ?h_rc ?h_rp ?h_er ?m_rtk ?m_rtb ?p_pP ?p_pS ?e_ic ?n_ic_place ?l_rdr ?c11 ?e_i ?np ?ni ?hh ?hE ?x1 ?x2 ?x3 ?k0 ?k1 ?k2 ?k3 ?k4 ?k5 ?k6 ?k7 ?k8 ?k9 ?k10 ?k11 ?s10 ?a10_0 ?m10_0 ?a10_1 ?m10_1 ?a10_2 ?m10_2 ?a10_3 ?m10_3 ?a10_4 ?m10_4 ?a10_5 ?m10_5 ?a10_6 ?m10_6 ?a10_7 ?m10_7 ?a10_8 ?m10_8 ?a10_9 ?m10_9 ?a10_11 ?m10_11 ?xf8 ?xf9 ?nl ?pl10 ?gl_lw ?ll_lw ?lc_lw ?kl_lw ?tabE_lw ?hC_lw ?nPx_lw ?c1 ?c3 ?c4 ?c5 ?c10 ?c6 ?zl ?z_abs ?z_len ?z_range ?z_tuple ?z_sorted ?z_enumerate ?z_isinstance ?z_int ?z_bool ?z_str ?z_all ?z_list ?z_any ?z_sum ?z_ValueError ?eqC
    (case h_ii => refine' Dk.fnAt_mk ?a ?l ?c ?k; (case a => k_is); (case l => k_is); (case c => k_is); (case k => k_is))
    (case h_ib => refine' Dk.fnAt_mk ?a ?l ?c ?k; (case a => k_is); (case l => k_is); (case c => k_is); (case k => k_is))
    (case h_pe => refine' Dk.fnAt_mk ?a ?l ?c ?k; (case a => k_is); (case l => k_is); (case c => k_is); (case k => k_is))
    (case h_ct => refine' Dk.fnAt_mk ?a ?l ?c ?k; (case a => k_is); (case l => k_is); (case c => k_is); (case k => k_is))
    (case h_ck => refine' Dk.fnAt_mk ?a ?l ?c ?k; (case a => k_is); (case l => k_is); (case c => k_is); (case k => k_is))
    (case h_cc => refine' Dk.fnAt_mk ?a ?l ?c ?k; (case a => k_is); (case l => k_is); (case c => k_is); (case k => k_is))
    (case h_cr => refine' Dk.fnAt_mk ?a ?l ?c ?k; (case a => k_is); (case l => k_is); (case c => k_is); (case k => k_is))
    (case h_it => refine' Dk.fnAt_mk ?a ?l ?c ?k; (case a => k_is); (case l => k_is); (case c => k_is); (case k => k_is))
    (case h_ir => refine' Dk.fnAt_mk ?a ?l ?c ?k; (case a => k_is); (case l => k_is); (case c => k_is); (case k => k_is))
    (case h_as => refine' Dk.fnAt_mk ?a ?l ?c ?k; (case a => k_is); (case l => k_is); (case c => k_is); (case k => k_is))
    (case h_ho => refine' Dk.fnAt_mk ?a ?l ?c ?k; (case a => k_is); (case l => k_is); (case c => k_is); (case k => k_is))
    (case h_ra => refine' Dk.fnAt_mk ?a ?l ?c ?k; (case a => k_is); (case l => k_is); (case c => k_is); (case k => k_is))
    (case h_be => refine' Dk.fnAt_mk ?a ?l ?c ?k; (case a => k_is); (case l => k_is); (case c => k_is); (case k => k_is))
    (case h_ta => refine' Dk.fnAt_mk ?a ?l ?c ?k; (case a => k_is); (case l => k_is); (case c => k_is); (case k => k_is))
    (case h_le => refine' Dk.fnAt_mk ?a ?l ?c ?k; (case a => k_is); (case l => k_is); (case c => k_is); (case k => k_is))
    (case h_pa => refine' Dk.fnAt_mk ?a ?l ?c ?k; (case a => k_is); (case l => k_is); (case c => k_is); (case k => k_is))
    (case h_hs => refine' Dk.fnAt_mk ?a ?l ?c ?k; (case a => k_is); (case l => k_is); (case c => k_is); (case k => k_is))
    (case h_enc => refine' Dk.fnAt_mk ?a ?l ?c ?k; (case a => k_is); (case l => k_is); (case c => k_is); (case k => k_is))
    (case h_dec => refine' Dk.fnAt_mk ?a ?l ?c ?k; (case a => k_is); (case l => k_is); (case c => k_is); (case k => k_is))
    (case h_chs => refine' Dk.fnAt_mk ?a ?l ?c ?k; (case a => k_is); (case l => k_is); (case c => k_is); (case k => k_is))
    (case h_rt => refine' Dk.fnAt_mk ?a ?l ?c ?k; (case a => k_is); (case l => k_is); (case c => k_is); (case k => k_is))
    (case h_rc => refine' Dk.fnAt_mk ?a ?l ?c ?k; (case a => k_is); (case l => k_is); (case c => k_is); (case k => k_is))
    (case h_rp => refine' Dk.fnAt_mk ?a ?l ?c ?k; (case a => k_is); (case l => k_is); (case c => k_is); (case k => k_is))
    (case h_er => refine' Dk.fnAt_mk ?a ?l ?c ?k; (case a => k_is); (case l => k_is); (case c => k_is); (case k => k_is))
    (case e_ic => refine' Dk.errAt_mk ?a ?xL ?sa ?eC ?tC ?kC ?i ?t ?l ?c ?k; (case a => k_is); (case xL => k_is); (case sa => k_is); (case eC => k_is); (case tC => k_is); (case kC => k_is); (case i => k_is); (case t => k_is); (case l => k_is); (case c => k_is); (case k => k_is))
    (case l_rdr => refine' Dk.claAt_mk ?qg ?qpg ?qhd ?qpo ?qsa ?qn ?qmk ?qi ?qfn ?qkc ?ql ?qc ?qk; (case qg => k_is); (case qpg => k_is); (case qhd => k_is); (case qpo => k_is); (case qsa => k_is); (case qn => intro a ha; simp only [List.mem_cons, List.not_mem_nil, or_false] at ha; rcases ha with rfl | rfl; (show PySem.W.findIn _ _ _ = _; k_is); (show PySem.W.findIn _ _ _ = _; k_is)); (case qmk => k_is); (case qi => k_is); (case qfn => k_is); (case qkc => k_is); (case ql => k_is); (case qc => k_is); (case qk => k_is))
    (case c11 => refine' Dk.strAt_mk ?a; (case a => k_is))
    (case e_i => refine' Dk.errAt_mk ?a ?xL ?sa ?eC ?tC ?kC ?i ?t ?l ?c ?k; (case a => k_is); (case xL => k_is); (case sa => k_is); (case eC => k_is); (case tC => k_is); (case kC => k_is); (case i => k_is); (case t => k_is); (case l => k_is); (case c => k_is); (case k => k_is))
    (case np => k_is)
    (case ni => k_is)
    (case hh => refine' Dk.houAt_mk ?qg ?qpg ?qhd ?qpo ?qsa ?qn1 ?qn2 ?qn3 ?qn4 ?qmk ?qi ?qfn ?qkc ?qlH ?qcH ?qkH ?qlT; (case qg => k_is); (case qpg => k_is); (case qhd => k_is); (case qpo => k_is); (case qsa => k_is); (case qn1 => k_is); (case qn2 => k_is); (case qn3 => k_is); (case qn4 => k_is); (case qmk => k_is); (case qi => k_is); (case qfn => k_is); (case qkc => k_is); (case qlH => k_is); (case qcH => k_is); (case qkH => k_is); (case qlT => k_is))
    (case hE => k_is)
    (case x1 => k_is)
    (case x2 => k_is)
    (case x3 => k_is)
    (case k0 => refine' Dk.ClsAt.mk ?a ?b ?c; (case a => k_is); (case b => k_is); (case c => k_is))
    (case k1 => refine' Dk.ClsAt.mk ?a ?b ?c; (case a => k_is); (case b => k_is); (case c => k_is))
    (case k2 => refine' Dk.ClsAt.mk ?a ?b ?c; (case a => k_is); (case b => k_is); (case c => k_is))
    (case k3 => refine' Dk.ClsAt.mk ?a ?b ?c; (case a => k_is); (case b => k_is); (case c => k_is))
    (case k4 => refine' Dk.ClsAt.mk ?a ?b ?c; (case a => k_is); (case b => k_is); (case c => k_is))
    (case k5 => refine' Dk.ClsAt.mk ?a ?b ?c; (case a => k_is); (case b => k_is); (case c => k_is))
    (case k6 => refine' Dk.ClsAt.mk ?a ?b ?c; (case a => k_is); (case b => k_is); (case c => k_is))
    (case k7 => refine' Dk.ClsAt.mk ?a ?b ?c; (case a => k_is); (case b => k_is); (case c => k_is))
    (case k8 => refine' Dk.ClsAt.mk ?a ?b ?c; (case a => k_is); (case b => k_is); (case c => k_is))
    (case k9 => refine' Dk.ClsAt.mk ?a ?b ?c; (case a => k_is); (case b => k_is); (case c => k_is))
    (case k10 => refine' Dk.ClsAt.mk ?a ?b ?c; (case a => k_is); (case b => k_is); (case c => k_is))
    (case k11 => refine' Dk.ClsAt.mk ?a ?b ?c; (case a => k_is); (case b => k_is); (case c => k_is))
    (case gl_lw => k_is)
    (case ll_lw => k_is)
    (case lc_lw => k_is)
    (case kl_lw => k_is)
    (case tabE_lw => exact PySem.W.km_tabs_of Y _ (List.mem_singleton.mpr rfl))
    (case hC_lw => first | k_is | exact rfl)
    (case nPx_lw => first | k_is | exact rfl)
    (case c1 => refine' Dk.tupAt_mk ?a ?b ?z ?v; (case a => k_is); (case b => k_is); (case z => decide); (case v => repeat (first | exact .nil | refine .cons rfl ?_ | refine .cons ⟨_, rfl⟩ ?_)))
    (case c3 => refine' Dk.intAt_mk ?a; (case a => k_is))
    (case c4 => refine' Dk.intAt_mk ?a; (case a => k_is))
    (case c5 => refine' Dk.intAt_mk ?a; (case a => k_is))
    (case c10 => refine' Dk.intAt_mk ?a; (case a => k_is))
    (case c6 => refine' Dk.strAt_mk ?a; (case a => k_is))
    (case zl => k_is)
    (case z_abs => k_is)
    (case z_len => k_is)
    (case z_range => k_is)
    (case z_tuple => k_is)
    (case z_sorted => k_is)
    (case z_enumerate => k_is)
    (case z_isinstance => k_is)
    (case z_int => k_is)
    (case z_bool => k_is)
    (case z_str => k_is)
    (case z_all => k_is)
    (case z_list => k_is)
    (case z_any => k_is)
    (case z_sum => k_is)
    (case z_ValueError => k_is)
    (case eqC => rfl)
    (case m_rtk => refine' Dk.metAt_mk ?a ?n ?l ?c ?k; (case a => k_is); (case n => k_is); (case l => k_is); (case c => k_is); (case k => k_is))
    (case m_rtb => refine' Dk.metAt_mk ?a ?n ?l ?c ?k; (case a => k_is); (case n => k_is); (case l => k_is); (case c => k_is); (case k => k_is))
    (case p_pP => refine' Dk.prpAt_mk ?a ?g ?t ?r ?l ?c ?k; (case a => k_is); (case g => k_is); (case t => k_is); (case r => k_is); (case l => k_is); (case c => k_is); (case k => k_is))
    (case p_pS => refine' Dk.prpAt_mk ?a ?g ?t ?r ?l ?c ?k; (case a => k_is); (case g => k_is); (case t => k_is); (case r => k_is); (case l => k_is); (case c => k_is); (case k => k_is))
    (case n_ic_place => k_is)
    (case s10 => refine' Dk.subEx_mk ?qv ?qe ?qhg ?qhk ?qhs ?qhd ?qha ?qhn ?qht ?qhm; (case qv => k_is); (case qe => k_is); (case qhg => k_is); (case qhk => k_is); (case qhs => k_is); (case qhd => k_is); (case qha => k_is); (case qhn => k_is); (case qht => k_is); (case qhm => k_is))
    (case a10_0 => k_is)
    (case m10_0 => decide)
    (case a10_1 => k_is)
    (case m10_1 => decide)
    (case a10_2 => k_is)
    (case m10_2 => decide)
    (case a10_3 => k_is)
    (case m10_3 => decide)
    (case a10_4 => k_is)
    (case m10_4 => decide)
    (case a10_5 => k_is)
    (case m10_5 => decide)
    (case a10_6 => k_is)
    (case m10_6 => decide)
    (case a10_7 => k_is)
    (case m10_7 => decide)
    (case a10_8 => k_is)
    (case m10_8 => decide)
    (case a10_9 => k_is)
    (case m10_9 => decide)
    (case a10_11 => k_is)
    (case m10_11 => decide)
    (case xf8 => refine' L2.XfC.mk ?a ?b ?c ?d; (case a => k_is); (case b => k_is); (case c => k_is); (case d => k_is))
    (case xf9 => refine' L2.XfC.mk ?a ?b ?c ?d; (case a => k_is); (case b => k_is); (case c => k_is); (case d => k_is))
    (case nl => k_is)
    (case pl10 => k_is)
    )
