import PyProof.Rows.All
import Wide.All
import OpenK.AllK
import Wide.FinOn
import HandS.Base
import HandS.Call
import HandS.List
import HandS.Comp
import HandS.Dict
import HandS.Iter
import HandS.Text
import HandS.More
import HandS.Ends
import HandS.Words
import HandS.Defaults
import HandS.Gcd
import KE.KMathG
import HandS.Deep
import HandS.SortRule
import HandS.Walk
import KE.GoesEnum
import HandS.IsInst
import HandS.WordsExc
import HandS.ExcInit
import HandS.ExcIs
import HandS.ExcField
import HandS.Lambda
import HandS.SetFor
import PyProof.StrBlock2
import HandS.TupAny
import HandS.TupMul
import HandS.Conv
import HandS.Property
import HandS.EndOwn
import KE.KNestM
import PySem.Challenge.RW_doorkeys_k08_invalid_houses
set_option Elab.async false
set_option linter.all false
set_option maxRecDepth 100000
set_option maxHeartbeats 4000000
namespace Dk
open PySem PySem.Spec PyProof.Rows L2
/-! ### the text by places -/
def top (i : Nat) : Stmt := PySem.Challenge.pw_doorkeys_k08_invalid_houses.main.body.getD i (.Pass ⟨0, 0, 0, 0⟩)
abbrev sIsInt : Stmt := top 17
abbrev sIsBelow : Stmt := top 18
abbrev sPeriod : Stmt := top 28
abbrev sChkTables : Stmt := top 29
abbrev sChkKeys : Stmt := top 30
abbrev sChkCareful : Stmt := top 31
abbrev sChkRem : Stmt := top 32
abbrev sIsTable : Stmt := top 33
abbrev sIsRem : Stmt := top 34
abbrev sAsc : Stmt := top 35
abbrev sHasOnly : Stmt := top 36
abbrev sSplit : Stmt := top 37
abbrev sAreArgs : Stmt := top 38
abbrev sIsTW : Stmt := top 39
abbrev sIsNW : Stmt := top 40
abbrev sIsRW : Stmt := top 41
abbrev sRandom : Stmt := top 48
abbrev sBelow : Stmt := top 49
abbrev sTable : Stmt := top 50
abbrev sLength : Stmt := top 51
abbrev sParts : Stmt := top 52
abbrev sErr : Stmt := top 53
abbrev sLaw : Stmt := top 54
abbrev sInit : Stmt := inClass (top 27) 0
abbrev sPeriodP : Stmt := inClass (top 27) 2

/-! ### heaps -/
theorem sSqT {K : PySem.W.Frag} {H H' : Hp} {a : Addr} {xs : List V} (e : Same H H') (h : SqT K H a xs) : SqT K H' a xs := by
  rcases h with (h | ⟨o, h⟩) | h
  · exact .inl (.inl (e _ _ h))
  · exact .inl (.inr ⟨o, e _ _ h⟩)
  · exact .inr h
theorem same_upd {H : Hp} {p : Addr} {o : HO} (h : H p = none) : Same H (upd H p o) := fun b u e => by
  rw [upd_ne (ne_of_none e h)]; exact e
/-- all that was tracked is as it was, but at l -/
def Kp (l : Addr) (H H' : Hp) : Prop := ∀ b o, b ≠ l → H b = some o → H' b = some o
theorem sKp {l : Addr} {H H' : Hp} (s : Same H H') : Kp l H H' := fun b o _ e => s b o e
theorem Kp.refl {l : Addr} {H : Hp} : Kp l H H := fun _ _ _ e => e
theorem Kp.trans {l : Addr} {H H1 H2 : Hp} (a : Kp l H H1) (b : Kp l H1 H2) : Kp l H H2 := fun c o n e => b c o n (a c o n e)
theorem kp_upd {l : Addr} {H : Hp} {o : HO} : Kp l H (upd H l o) := fun b u n e => by rw [upd_ne n]; exact e
theorem Kp.same {l : Addr} {H H' : Hp} (k : Kp l H H') (h : ∀ o, H l = some o → H' l = some o) : Same H H' := fun b o e => by
  by_cases n : b = l
  · subst n; exact h o e
  · exact k b o n e
theorem Kp.sqT {K : PySem.W.Frag} {l : Addr} {xs : List V} {ys : List V} {H H' : Hp} {a : Addr} (k : Kp l H H') (hl : H l = some (.lst ys)) (h : SqT K H a xs) : SqT K H' a xs := by
  rcases h with (h | ⟨o, h⟩) | h
  · exact .inl (.inl (k _ _ (fun e => by rw [e, hl] at h; cases h) h))
  · exact .inl (.inr ⟨o, k _ _ (fun e => by rw [e, hl] at h; cases h) h⟩)
  · exact .inr h
/-- a list other than l stays -/
theorem Kp.lst {l : Addr} {xs : List V} {H H' : Hp} {a : Addr} (k : Kp l H H') (n : a ≠ l) (h : H a = some (.lst xs)) : H' a = some (.lst xs) := k _ _ n h

theorem take_more {α : Type} {l : List α} {i : Nat} {x : α} (h : l[i]? = some x) : l.take (i + 1) = l.take i ++ [x] := by
  rw [List.take_add_one, h]
  rfl
theorem map_at {α : Type} {f : α → V} {l : List α} {i : Nat} {y : V} (h : (l.map f)[i]? = some y) : ∃ z, l[i]? = some z ∧ y = f z := by
  rw [List.getElem?_map] at h
  cases e : l[i]? with
  | none => rw [e] at h; cases h
  | some z => rw [e] at h; exact ⟨z, rfl, (Option.some.inj h).symm⟩

/-! ### the law's source of numbers -/
/-- what is always true of the source's list -/
structure Good (st : List Int) : Prop where
  ex : ∃ s0 s1 r, st = s0 :: s1 :: r ∧ 0 ≤ s0 ∧ s0 < 2147483647 ∧ 0 ≤ s1 ∧ (∀ z ∈ r, (0 : Int) ≤ z) ∧ r.length ≤ 63

def spRandom (K : PySem.W.Frag) : Sp := fun vs H Q _ => ∃ (a : Addr) (ns : List Int) (salt : Int), vs = [.ref a, .int salt] ∧ SqL K H a (ns.map V.int) ∧ ns.length ≤ 63 ∧ 0 ≤ salt ∧ salt < 2147483647 ∧
  ∀ (H' : Hp) (p : Addr) (st : List Int), Same H H' → H p = none → H' p = some (.lst (st.map V.int)) → Good st → Q (.ref p) H'
structure TxtA (mg : Str → Option Value) : Prop where
  abs : mg "abs" = none
  len : mg "len" = none
  range : mg "range" = none

section
variable {P : Program} {w : World} {K : PySem.W.Frag} {mg : Str → Option Value} {base : Heap}
theorem scRandom : FnScope ["_law_script", "_law_salt", "_law_seed", "_law_cell"] ["_law_script", "_law_salt"] (defScope sRandom) := ⟨rfl, rfl, rfl, by decide +kernel, rfl, by decide +kernel, by decide +kernel⟩
theorem ok_random {f : Addr} {fd : FuncData} (F : Fun K "_law_random" "_law_random" sRandom f fd) (T : TxtA mg) : FnOk P w K mg base CX0 1 f fd ["_law_script", "_law_salt"] (spRandom K) := by
  refine F.ok scRandom (fun vs H Q E h => ?_) (fun cdv A outer s H vs Q E hr h => ?_)
  · obtain ⟨a, ns, salt, rfl, _⟩ := h
    rfl
  · obtain ⟨a, ns, salt, rfl, hS, hlen, hs0, hs1, k⟩ := h
    refine ⟨_, pss_cons (ps_set (i := 2) scRandom.nd rfl (.inl rfl) (pv 1))
      (pss_cons (ps_for PassesOwn.never rfl (pi_list (pv 0)) (pg_name (i := 3) scRandom.nd rfl (.inl rfl))
        (pss_one (ps_set (i := 2) scRandom.nd rfl (.inl rfl) (pe_op op_mod (pe_op op_add (pe_op op_mul (pv 2) pe_int) (pe_callB call_abs (by rfl) T.abs (by decide +kernel) (pa_cons (pv 3) pa_nil))) pe_int))))
      (pss_one (ps_ret (pe_op op_cat (pe_lst (pa_cons (pv 2) (pa_cons pe_int pa_nil)))
        (pe_lc (own := [("_law_cell", 3)]) (g := gName 3) (by rfl) scRandom.nd (pi_list (pv 0)) (blkOk_by (N := ["_law_script", "_law_salt", "_law_seed", "_law_cell"]) (sc := defScope sRandom) (by decide +kernel))
          (fun _ _ _ _ _ => pg_name (i := 3) scRandom.nd rfl (Or.inl rfl)) (fun _ _ _ _ _ => pts_one (pt_cmpR op_ge (pv 3) (pe_op op_pow pe_int pe_int) (nomark _))) (fun _ _ _ _ _ => pv 3)))))), ?_⟩
    refine ⟨_, rfl, ?_⟩
    refine ⟨_, rfl, a, rfl, ⟨_, hS⟩, for_list (K := K) (a := a) (xs := ns.map V.int) (fun i σ H' => ∃ (z : Int) (v : Option V), σ = [some (.ref a), some (.int salt), some (.int z), v] ∧ H' = H ∧ 0 ≤ z ∧ z < 2147483647)
      ⟨salt, none, rfl, rfl, hs0, hs1⟩ (fun i σ H' _ ⟨_, _, _, e, _⟩ => by rw [e]; exact hS) ?_ ?_⟩
    · rintro i y σ H' hi ⟨z, v, rfl, rfl, h0, h1⟩
      obtain ⟨u, hu, rfl⟩ := map_at hi
      refine ⟨_, rfl, _, _, rfl, rfl, .inl ⟨by omega, by omega⟩, _, rfl, _, rfl, _, _, rfl, rfl, _, _, rfl, rfl, (by show (0 : Int) < 2147483647; decide), ?_⟩
      exact ⟨_, _, rfl, rfl, Int.emod_nonneg _ (by decide), Int.emod_lt_of_pos _ (by decide)⟩
    · rintro σ H' ⟨z, v, rfl, rfl, h0, h1⟩
      refine ⟨_, rfl, (by show 2 ≤ sizeLine; decide), fun l hl => ?_⟩
      have s1 : Same H' (upd H' l (.lst [.int z, .int 0])) := same_upd hl
      refine ⟨_, rfl, a, rfl, ⟨_, s1.seq hS⟩, fun D hD => lc_list (K := K) (a := a) (xs := ns.map V.int)
        (fun i H2 => ∃ r : List Int, Same (upd H' l (.lst [.int z, .int 0])) H2 ∧ H2 D = some (.lst (r.map V.int)) ∧ r.length ≤ i ∧ ∀ x : Int, x ∈ r → 0 ≤ x)
        ⟨[], same_upd hD, upd_same, Nat.le_refl _, fun x hx => by cases hx⟩ (fun i H2 _ ⟨_, e, _⟩ => e.seq (s1.seq hS)) ?_ ?_⟩
      · rintro i y H2 hi ⟨r, e2, eD, hr1, hr2⟩
        obtain ⟨u, hu, rfl⟩ := map_at hi
        have hil : i < ns.length := (List.getElem?_eq_some_iff.mp hu).1
        refine ⟨rfl, _, rfl, _, _, rfl, rfl, ?_, _, _, rfl, rfl, _, rfl, ite2 (fun c => ?_) (fun c => ?_)⟩
        · exact ⟨by decide, by decide, by decide⟩
        · refine ⟨_, rfl, _, eD, ?_, r ++ [u], fun b o eb => ?_, ?_, ?_, fun x hx => ?_⟩
          · rw [List.length_map]; exact Nat.lt_of_le_of_lt (by omega : r.length ≤ 1000) (by decide)
          · have nb : b ≠ D := ne_of_none eb hD
            rw [upd_ne nb]; exact e2 _ _ eb
          · rw [upd_same]; simp
          · rw [List.length_append, List.length_singleton]; omega
          · rcases List.mem_append.mp hx with hx | hx
            · exact hr2 x hx
            · rw [List.mem_singleton] at hx
              subst hx
              have c' : (10 : Int) ^ (18 : Int).toNat ≤ x := of_decide_eq_true c
              exact Int.le_trans (by decide) c'
        · exact ⟨r, e2, eD, by omega, hr2⟩
      · rintro H2 ⟨r, e2, eD, hr1, hr2⟩
        rw [List.length_map] at hr1
        have el : H2 l = some (.lst [.int z, .int 0]) := e2 _ _ upd_same
        refine ⟨_, _, _, _, rfl, rfl, el, eD, ?_, fun p hp => ?_⟩
        · simp only [List.length_cons, List.length_nil, List.length_map]
          exact Nat.le_trans (by omega : _ ≤ 1000) (by decide)
        · have s2 : Same H' H2 := s1.trans e2
          refine k _ p (z :: 0 :: r) (s2.trans (same_upd hp)) (s2.free hp) (by rw [upd_same]; rfl) ⟨⟨z, 0, r, rfl, h0, h1, Int.le_refl _, hr2, by omega⟩⟩
end
end Dk

set_option Elab.async false
set_option linter.all false
set_option maxRecDepth 100000
set_option maxHeartbeats 4000000
namespace Dk
open PySem PySem.Spec PyProof.Rows L2
theorem at0 {a : V} {l : List V} : atI (a :: l) 0 = some a := atI_nat (j := 0) rfl
theorem at1 {a b : V} {l : List V} : atI (a :: b :: l) 1 = some b := atI_nat (j := 1) rfl
theorem at2 {a b c : V} {l : List V} : atI (a :: b :: c :: l) 2 = some c := atI_nat (j := 2) rfl
theorem at3 {a b c e : V} {l : List V} : atI (a :: b :: c :: e :: l) 3 = some e := atI_nat (j := 3) rfl
theorem ix0 {a : V} {l : List V} : ixN (a :: l).length 0 = some 0 := by
  unfold ixN; rw [if_pos (by decide), if_pos (by rw [List.length_cons]; omega)]; rfl
theorem ix1 {a b : V} {l : List V} : ixN (a :: b :: l).length 1 = some 1 := by
  unfold ixN; rw [if_pos (by decide), if_pos (by rw [List.length_cons, List.length_cons]; omega)]; rfl
theorem sq2 {a b c : V} {l : List V} : seqIndex? 2 (a :: b :: c :: l).length = some 2 := (ixN_seq (by
  unfold ixN; rw [if_pos (by decide), if_pos (by rw [List.length_cons, List.length_cons, List.length_cons]; omega)]; rfl)).1
def spBelow : Sp := fun vs H Q _ => ∃ (d : Addr) (lim : Int) (st : List Int), vs = [.ref d, .int lim] ∧ H d = some (.lst (st.map V.int)) ∧ Good st ∧ 1 ≤ lim ∧ lim < 1073741824 ∧
  ∀ (H' : Hp) (st' : List Int) (r : Int), Kp d H H' → H' d = some (.lst (st'.map V.int)) → Good st' → 0 ≤ r → r < lim → Q (.int r) H'
section
variable {P : Program} {w : World} {K : PySem.W.Frag} {mg : Str → Option Value} {base : Heap}
theorem scBelow : FnScope ["_law_d", "_law_limit", "_law_result"] ["_law_d", "_law_limit"] (defScope sBelow) := ⟨rfl, rfl, rfl, by decide +kernel, rfl, by decide +kernel, by decide +kernel⟩
theorem ok_below {f : Addr} {fd : FuncData} (F : Fun K "_law_below" "_law_below" sBelow f fd) (T : TxtA mg) : FnOk P w K mg base CX0 1 f fd ["_law_d", "_law_limit"] spBelow := by
  refine F.ok scBelow (fun vs H Q E h => ?_) (fun cdv A outer s H vs Q E hr h => ?_)
  · obtain ⟨d, lim, st, rfl, _⟩ := h
    rfl
  · obtain ⟨d, lim, st, rfl, hd, ⟨s0, s1, r, rfl, h0, h1, h2, h3, h4⟩, hl1, hl2, k⟩ := h
    refine ⟨_, pss_cons (ps_if (PW.pt (pw_and (pt_cmpR op_eq (pe_ix ix_list (pv 0) pe_int (fun _ _ => rfl)) pe_int (nomark _)) (pw_and1 (pt_cmpR op_gt (pe_callB call_len_seq (by rfl) T.len PySem.boot_len (pa_cons (pv 0) pa_nil)) pe_int (nomark _)))))
        (pss_one (ps_asg (pe_bm PySem.F.plainAttrs_list PySem.F.slot_list_pop PySem.F.type_list_pop mt_popAt (pv 0) (pa_cons pe_int pa_nil)) (pg_sub (pv 0) pe_int set_list))) pss_nil)
      (pss_cons (ps_if (pt_cmpR op_gt (pe_ix ix_list (pv 0) pe_int (fun _ _ => rfl)) pe_int (nomark _))
        (pss_cons (ps_set (i := 2) scBelow.nd rfl (.inl rfl) (pe_op op_modN (pe_ix ix_list (pv 0) pe_int (fun _ _ => rfl)) (pv 1)))
        (pss_cons (ps_asg (pe_op op_fdivN (pe_ix ix_list (pv 0) pe_int (fun _ _ => rfl)) (pv 1)) (pg_sub (pv 0) pe_int set_list))
        (pss_one (ps_ret (pv 2))))) pss_nil)
      (pss_cons (ps_asg (pe_op op_mod (pe_op op_add (pe_op op_mul (pe_ix ix_list (pv 0) pe_int (fun _ _ => rfl)) pe_int) pe_int) pe_int) (pg_sub (pv 0) pe_int set_list))
      (pss_one (ps_ret (pe_op op_modN (pe_op op_fdiv (pe_ix ix_list (pv 0) pe_int (fun _ _ => rfl)) pe_int) (pv 1)))))), ?_⟩
    have hd' : H d = some (.lst (V.int s0 :: V.int s1 :: r.map V.int)) := hd
    refine ⟨_, rfl, d, _, 1, V.int s1, rfl, rfl, SqL.of hd', at1, rfl, _, rfl, ite2 (fun c => ?_) (fun c => ?_)⟩
    · refine ⟨_, rfl, d, _, rfl, .inl (SqL.of hd'), _, _, rfl, rfl, _, rfl, ite2 (fun c2 => ?_) (fun c2 => ?_)⟩
      · cases r with
        | nil => exact absurd (of_decide_eq_true c2) (by simp)
        | cons r0 r =>
          refine ⟨_, rfl, .inl ⟨rfl, _, SqL.of hd'⟩, d, _, 2, 2, V.int r0, rfl, rfl, hd', (by decide), (by decide), sq2, rfl, ?_⟩
          refine ⟨_, rfl, d, _, _, 1, rfl, rfl, upd_same, ix1, ?_⟩
          generalize e : (upd (upd H d (HO.lst ((V.int s0 :: V.int s1 :: List.map V.int (r0 :: r)).eraseIdx 2))) d (HO.lst (((V.int s0 :: V.int s1 :: List.map V.int (r0 :: r)).eraseIdx 2).set 1 (V.int r0)))) = H1
          have kp1 : Kp d H H1 := by rw [← e]; exact kp_upd.trans kp_upd
          obtain ⟨t0, t1, r', hd1, g0, g1, g2, g3, g4⟩ : ∃ t0 t1 r', H1 d = some (.lst (V.int t0 :: V.int t1 :: r'.map V.int)) ∧ 0 ≤ t0 ∧ t0 < 2147483647 ∧ 0 ≤ t1 ∧ (∀ z ∈ r', (0 : Int) ≤ z) ∧ r'.length ≤ 63 :=
            ⟨s0, r0, r, by rw [← e, upd_same]; rfl, h0, h1, h3 _ (List.mem_cons_self ..), fun z hz => h3 z (List.mem_cons_of_mem _ hz), by rw [List.length_cons] at h4; omega⟩
          refine ⟨_, rfl, d, _, 1, V.int t1, rfl, rfl, SqL.of hd1, at1, _, _, rfl, rfl, _, rfl, ite2 (fun c3 => ?_) (fun c3 => ?_)⟩
          · have c3' : 0 < t1 := of_decide_eq_true c3
            refine ⟨_, rfl, d, _, 1, V.int t1, rfl, rfl, SqL.of hd1, at1, _, rfl, _, _, rfl, rfl, (by omega), ?_⟩
            refine ⟨_, rfl, d, _, 1, V.int t1, rfl, rfl, SqL.of hd1, at1, _, rfl, _, _, rfl, rfl, ⟨by omega, by omega⟩, _, rfl, d, _, _, 1, rfl, rfl, hd1, ix1, ?_⟩
            exact ⟨_, rfl, k _ (t0 :: t1.fdiv lim :: r') _ (kp1.trans kp_upd) upd_same ⟨⟨t0, _, r', rfl, g0, g1, Int.fdiv_nonneg g2 (by omega), g3, g4⟩⟩ (Int.fmod_nonneg_of_pos _ (by omega)) (Int.fmod_lt_of_pos _ (by omega))⟩
          · refine ⟨_, rfl, d, _, 0, V.int t0, rfl, rfl, SqL.of hd1, at0, _, _, rfl, rfl, .inl ⟨by omega, by omega⟩, _, _, rfl, rfl, _, _, rfl, rfl, (by show (0 : Int) < 2147483647; decide), _, rfl, d, _, _, 0, rfl, rfl, hd1, ix0, ?_⟩
            refine ⟨_, rfl, d, _, 0, V.int ((t0 * 48271 + 11) % 2147483647), rfl, rfl, SqL.of upd_same, at0, _, _, rfl, rfl, ⟨by decide, by decide⟩, _, rfl, _, _, rfl, rfl, (by omega), ?_⟩
            exact k _ ((t0 * 48271 + 11) % 2147483647 :: t1 :: r') _ (kp1.trans kp_upd) upd_same ⟨⟨_, _, r', rfl, Int.emod_nonneg _ (by decide), Int.emod_lt_of_pos _ (by decide), g2, g3, g4⟩⟩ (Int.fmod_nonneg_of_pos _ (by omega)) (Int.fmod_lt_of_pos _ (by omega))
      · have kp1 : Kp d H H := Kp.refl
        obtain ⟨t0, t1, r', hd1, g0, g1, g2, g3, g4⟩ : ∃ t0 t1 r', H d = some (.lst (V.int t0 :: V.int t1 :: r'.map V.int)) ∧ 0 ≤ t0 ∧ t0 < 2147483647 ∧ 0 ≤ t1 ∧ (∀ z ∈ r', (0 : Int) ≤ z) ∧ r'.length ≤ 63 :=
          ⟨s0, s1, r, hd', h0, h1, h2, h3, h4⟩
        refine ⟨_, rfl, d, _, 1, V.int t1, rfl, rfl, SqL.of hd1, at1, _, _, rfl, rfl, _, rfl, ite2 (fun c3 => ?_) (fun c3 => ?_)⟩
        · have c3' : 0 < t1 := of_decide_eq_true c3
          refine ⟨_, rfl, d, _, 1, V.int t1, rfl, rfl, SqL.of hd1, at1, _, rfl, _, _, rfl, rfl, (by omega), ?_⟩
          refine ⟨_, rfl, d, _, 1, V.int t1, rfl, rfl, SqL.of hd1, at1, _, rfl, _, _, rfl, rfl, ⟨by omega, by omega⟩, _, rfl, d, _, _, 1, rfl, rfl, hd1, ix1, ?_⟩
          exact ⟨_, rfl, k _ (t0 :: t1.fdiv lim :: r') _ (kp1.trans kp_upd) upd_same ⟨⟨t0, _, r', rfl, g0, g1, Int.fdiv_nonneg g2 (by omega), g3, g4⟩⟩ (Int.fmod_nonneg_of_pos _ (by omega)) (Int.fmod_lt_of_pos _ (by omega))⟩
        · refine ⟨_, rfl, d, _, 0, V.int t0, rfl, rfl, SqL.of hd1, at0, _, _, rfl, rfl, .inl ⟨by omega, by omega⟩, _, _, rfl, rfl, _, _, rfl, rfl, (by show (0 : Int) < 2147483647; decide), _, rfl, d, _, _, 0, rfl, rfl, hd1, ix0, ?_⟩
          refine ⟨_, rfl, d, _, 0, V.int ((t0 * 48271 + 11) % 2147483647), rfl, rfl, SqL.of upd_same, at0, _, _, rfl, rfl, ⟨by decide, by decide⟩, _, rfl, _, _, rfl, rfl, (by omega), ?_⟩
          exact k _ ((t0 * 48271 + 11) % 2147483647 :: t1 :: r') _ (kp1.trans kp_upd) upd_same ⟨⟨_, _, r', rfl, Int.emod_nonneg _ (by decide), Int.emod_lt_of_pos _ (by decide), g2, g3, g4⟩⟩ (Int.fmod_nonneg_of_pos _ (by omega)) (Int.fmod_lt_of_pos _ (by omega))
    · have kp1 : Kp d H H := Kp.refl
      obtain ⟨t0, t1, r', hd1, g0, g1, g2, g3, g4⟩ : ∃ t0 t1 r', H d = some (.lst (V.int t0 :: V.int t1 :: r'.map V.int)) ∧ 0 ≤ t0 ∧ t0 < 2147483647 ∧ 0 ≤ t1 ∧ (∀ z ∈ r', (0 : Int) ≤ z) ∧ r'.length ≤ 63 :=
        ⟨s0, s1, r, hd', h0, h1, h2, h3, h4⟩
      refine ⟨_, rfl, d, _, 1, V.int t1, rfl, rfl, SqL.of hd1, at1, _, _, rfl, rfl, _, rfl, ite2 (fun c3 => ?_) (fun c3 => ?_)⟩
      · have c3' : 0 < t1 := of_decide_eq_true c3
        refine ⟨_, rfl, d, _, 1, V.int t1, rfl, rfl, SqL.of hd1, at1, _, rfl, _, _, rfl, rfl, (by omega), ?_⟩
        refine ⟨_, rfl, d, _, 1, V.int t1, rfl, rfl, SqL.of hd1, at1, _, rfl, _, _, rfl, rfl, ⟨by omega, by omega⟩, _, rfl, d, _, _, 1, rfl, rfl, hd1, ix1, ?_⟩
        exact ⟨_, rfl, k _ (t0 :: t1.fdiv lim :: r') _ (kp1.trans kp_upd) upd_same ⟨⟨t0, _, r', rfl, g0, g1, Int.fdiv_nonneg g2 (by omega), g3, g4⟩⟩ (Int.fmod_nonneg_of_pos _ (by omega)) (Int.fmod_lt_of_pos _ (by omega))⟩
      · refine ⟨_, rfl, d, _, 0, V.int t0, rfl, rfl, SqL.of hd1, at0, _, _, rfl, rfl, .inl ⟨by omega, by omega⟩, _, _, rfl, rfl, _, _, rfl, rfl, (by show (0 : Int) < 2147483647; decide), _, rfl, d, _, _, 0, rfl, rfl, hd1, ix0, ?_⟩
        refine ⟨_, rfl, d, _, 0, V.int ((t0 * 48271 + 11) % 2147483647), rfl, rfl, SqL.of upd_same, at0, _, _, rfl, rfl, ⟨by decide, by decide⟩, _, rfl, _, _, rfl, rfl, (by omega), ?_⟩
        exact k _ ((t0 * 48271 + 11) % 2147483647 :: t1 :: r') _ (kp1.trans kp_upd) upd_same ⟨⟨_, _, r', rfl, Int.emod_nonneg _ (by decide), Int.emod_lt_of_pos _ (by decide), g2, g3, g4⟩⟩ (Int.fmod_nonneg_of_pos _ (by omega)) (Int.fmod_lt_of_pos _ (by omega))
end
end Dk

set_option Elab.async false
set_option linter.all false
set_option maxRecDepth 100000
set_option maxHeartbeats 4000000
namespace Dk
open PySem PySem.Spec PyProof.Rows L2 TL
theorem at_mem {L : List Int} {r : Int} (h0 : 0 ≤ r) (h1 : r < L.length) : ∃ z, z ∈ L ∧ atI (L.map V.int) r = some (.int z) := by
  obtain ⟨n, rfl⟩ := Int.eq_ofNat_of_zero_le h0
  have hn : n < L.length := by omega
  exact ⟨L[n], List.getElem_mem hn, atI_nat (by rw [List.getElem?_map, List.getElem?_eq_getElem hn]; rfl)⟩
theorem joinL_nil : ∀ ls : List (List Nat), joinL [] ls = ls.flatten
  | [] => rfl
  | [p] => by simp [joinL]
  | p :: q :: r => by
    show p ++ ([] ++ joinL [] (q :: r)) = _
    rw [List.nil_append, joinL_nil (q :: r)]
    rfl
def one (c : Nat) : Str := ⟨#[c]⟩
theorem tl_one (c : Nat) : tl (one c) = [c] := rfl
theorem tl_joined (cs : List Nat) : tl (Txt.join Str.empty (cs.map one)) = cs := by
  rw [join_eq, tl_join, show tl Str.empty = [] from rfl, joinL_nil, List.map_map]
  induction cs with
  | nil => rfl
  | cons c cs ih => show [c] ++ (List.map (tl ∘ one) cs).flatten = _; rw [ih]; rfl
theorem ones_sum (cs : List Nat) : ((cs.map one).map (·.length)).sum = cs.length := by
  induction cs with
  | nil => rfl
  | cons c cs ih => rw [List.map_cons, List.map_cons, List.sum_cons, ih, List.length_cons]; show 1 + _ = _; omega
/-- a timetable -/
structure IsTab (t : Str) : Prop where
  len : (tl t).length ∈ [1, 2, 3, 4, 6, 8, 12, 24]
  ho : ∀ c ∈ tl t, c = 104 ∨ c = 111
theorem IsTab.pos {t : Str} (h : IsTab t) : 1 ≤ (tl t).length ∧ (tl t).length ≤ 24 := by
  have := h.len
  simp only [List.mem_cons, List.not_mem_nil, or_false] at this
  omega
def spTable : Sp := fun vs H Q _ => ∃ (d : Addr) (st : List Int), vs = [.ref d] ∧ H d = some (.lst (st.map V.int)) ∧ Good st ∧
  ∀ (H' : Hp) (st' : List Int) (t : Str), Kp d H H' → H' d = some (.lst (st'.map V.int)) → Good st' → IsTab t → Q (.str t) H'
structure TxtB (K : PySem.W.Frag) (mg : Str → Option Value) (fB : Addr) (fdB : FuncData) : Prop where
  g : mg "_law_below" = some (.ref fB)
  F : Fun K "_law_below" "_law_below" sBelow fB fdB
  b : Binds K fdB ["_law_d", "_law_limit"] []
section
variable {P : Program} {w : World} {K : PySem.W.Frag} {mg : Str → Option Value} {base : Heap}
theorem scTable : FnScope ["_law_d", "_law_length_here", "_law_k"] ["_law_d"] (defScope sTable) := ⟨rfl, rfl, rfl, by decide +kernel, rfl, by decide +kernel, by decide +kernel⟩
theorem ok_table {f fB : Addr} {fd fdB : FuncData} (F : Fun K "_law_table" "_law_table" sTable f fd) (T : TxtA mg) (B : TxtB K mg fB fdB) : FnOk P w K mg base CX0 2 f fd ["_law_d"] spTable := by
  have GB : FnOk P w K mg base CX0 1 fB fdB ["_law_d", "_law_limit"] spBelow := ok_below B.F T
  refine F.ok scTable (fun vs H Q E h => ?_) (fun cdv A outer s H vs Q E hr h => ?_)
  · obtain ⟨d, st, rfl, _⟩ := h
    rfl
  · obtain ⟨d, st, rfl, hd, hg, k⟩ := h
    refine ⟨_, pss_cons (ps_set (i := 1) scTable.nd rfl (.inl rfl) (pe_ix ix_list (pe_lst (pa_cons pe_int (pa_cons pe_int (pa_cons pe_int (pa_cons pe_int (pa_cons pe_int (pa_cons pe_int (pa_cons pe_int (pa_cons pe_int (pa_cons pe_int pa_nil))))))))))
        (pe_call GB hr rfl B.g B.F.kp B.b .nil pass0 (pa_cons (pv 0) (pa_cons (pe_ix ix_list (pe_lst (pa_cons pe_int (pa_cons pe_int (pa_cons pe_int pa_nil)))) (pe_call GB hr rfl B.g B.F.kp B.b .nil pass0 (pa_cons (pv 0) (pa_cons pe_int pa_nil))) (fun _ _ => rfl)) pa_nil))) (fun _ _ => rfl)))
      (pss_one (ps_ret (pe_join pe_str
        (pe_lc (own := [("_law_k", 2)]) (g := gName 2) (by rfl) scTable.nd (pi_range1 rfl T.range (pa_cons (pv 1) pa_nil)) (blkOk_by (N := ["_law_d", "_law_length_here", "_law_k"]) (sc := defScope sTable) (by decide +kernel))
          (fun _ _ _ _ _ => pg_name (i := 2) scTable.nd rfl (Or.inl rfl)) (fun _ _ _ _ _ => pts_nil)
          (fun _ _ _ _ _ => pe_item_str pe_str (pe_call GB hr rfl B.g B.F.kp B.b .nil pass0 (pa_cons (pv 0) (pa_cons pe_int pa_nil))) (fun _ _ => rfl)))))), ?_⟩
    refine ⟨by show 9 ≤ sizeLine; decide, fun l1 hl1 => ?_⟩
    have nl1 : d ≠ l1 := ne_of_none hd hl1
    refine ⟨_, rfl, by show 3 ≤ sizeLine; decide, fun l2 hl2 => ?_⟩
    have hd0 : (upd (upd H l1 (.lst [.int 1, .int 2, .int 3, .int 4, .int 4, .int 6, .int 8, .int 12, .int 24])) l2 (.lst [.int 5, .int 7, .int 9])) d = some (.lst (st.map V.int)) := same_upd hl2 _ _ (same_upd hl1 _ _ hd)
    have nl12 : l1 ≠ l2 := ne_of_none upd_same hl2
    have nl2 : d ≠ l2 := ne_of_none (same_upd hl1 _ _ hd) hl2
    refine ⟨_, rfl, d, 3, st, rfl, hd0, hg, by decide, by decide, fun H1 st1 r1 k1 hd1 hg1 r10 r11 => ?_⟩
    have e2 : H1 l2 = some (.lst (([5, 7, 9] : List Int).map V.int)) := k1 _ _ nl2.symm upd_same
    have e1 : H1 l1 = some (.lst (([1, 2, 3, 4, 4, 6, 8, 12, 24] : List Int).map V.int)) := k1 _ _ nl1.symm (by rw [upd_ne nl12]; exact upd_same)
    have kA : Kp d H H1 := (sKp ((same_upd hl1).trans (same_upd hl2))).trans k1
    obtain ⟨z1, hz1, a1⟩ := at_mem (L := [5, 7, 9]) r10 (by simpa using r11)
    refine ⟨l2, _, r1, _, rfl, rfl, SqL.of e2, a1, d, z1, st1, rfl, hd1, hg1, ?_, ?_, fun H2 st2 r2 k2 hd2 hg2 r20 r21 => ?_⟩
    · simp at hz1; omega
    · simp at hz1; omega
    have e3 := k2 _ _ nl1.symm e1
    have kB : Kp d H H2 := kA.trans k2
    obtain ⟨z2, hz2, a2⟩ := at_mem (L := [1, 2, 3, 4, 4, 6, 8, 12, 24]) r20 (by simp at hz1 ⊢; omega)
    refine ⟨l1, _, r2, _, rfl, rfl, SqL.of e3, a2, ?_⟩
    have hz3 : 1 ≤ z2 ∧ z2 ≤ 24 ∧ z2.toNat ∈ [1, 2, 3, 4, 6, 8, 12, 24] := by
      simp only [List.mem_cons, List.not_mem_nil, or_false] at hz2
      rcases hz2 with h | h | h | h | h | h | h | h | h <;> subst h <;> decide
    refine ⟨⟨_, rfl⟩, _, rfl, z2, rfl, by omega, by omega, fun D hD => lc_range (lo := 0) (n := z2.toNat)
      (fun i H3 => ∃ (st3 : List Int) (cs : List Nat), Kp d H2 H3 ∧ H3 d = some (.lst (st3.map V.int)) ∧ Good st3 ∧ H3 D = some (.lst ((cs.map one).map V.str)) ∧ cs.length = i ∧ ∀ c ∈ cs, c = 104 ∨ c = 111)
      ⟨st2, [], sKp (same_upd hD), same_upd hD _ _ hd2, hg2, upd_same, rfl, fun c hc => by cases hc⟩ ?_ ?_⟩
    · rintro i H3 hi ⟨st3, cs, k3, hd3, hg3, eD, hcl, hc⟩
      have ndD : d ≠ D := ne_of_none hd2 hD
      refine ⟨rfl, _, rfl, d, 2, st3, rfl, hd3, hg3, by decide, by decide, fun H4 st4 r4 k4 hd4 hg4 r40 r41 => ?_⟩
      have add : ∀ (c : Nat), (c = 104 ∨ c = 111) → ∃ acc, H4 D = some (.lst acc) ∧ acc.length < sizeLine ∧
          ∃ (st3 : List Int) (cs : List Nat), Kp d H2 (upd H4 D (.lst (acc ++ [V.str (one c)]))) ∧ (upd H4 D (.lst (acc ++ [V.str (one c)]))) d = some (.lst (st3.map V.int)) ∧ Good st3 ∧ (upd H4 D (.lst (acc ++ [V.str (one c)]))) D = some (.lst ((cs.map one).map V.str)) ∧ cs.length = i + 1 ∧ ∀ c ∈ cs, c = 104 ∨ c = 111 := fun c hc1 => by
        refine ⟨_, k4 _ _ ndD.symm eD, ?_, st4, cs ++ [c], fun b o nb eb => ?_, by rw [upd_ne ndD]; exact hd4, hg4, by rw [upd_same]; simp, by rw [List.length_append, hcl]; rfl, fun x hx => ?_⟩
        · rw [List.length_map, List.length_map, hcl]; exact Nat.lt_of_le_of_lt (by omega : i ≤ 1000) (by decide)
        · rw [upd_ne (ne_of_none eb hD)]; exact k4 _ _ nb (k3 _ _ nb eb)
        · rcases List.mem_append.mp hx with hx | hx
          · exact hc x hx
          · rw [List.mem_singleton.mp hx]; exact hc1
      have r4c : r4 = 0 ∨ r4 = 1 := by omega
      rcases r4c with rfl | rfl
      · exact ⟨_, 0, 104, rfl, rfl, by decide, by decide, by decide +kernel, by decide +kernel, add 104 (.inl rfl)⟩
      · exact ⟨_, 1, 111, rfl, rfl, by decide, by decide, by decide +kernel, by decide +kernel, add 111 (.inr rfl)⟩
    · rintro H3 ⟨st3, cs, k3, hd3, hg3, eD, hcl, hc⟩
      refine ⟨_, D, cs.map one, rfl, rfl, .inl (SqL.of eD), ?_, ?_⟩
      · rw [ones_sum, hcl]
        have : (Str.ofString "").length = 0 := by decide +kernel
        rw [this]
        omega
      · refine k _ st3 _ (kB.trans k3) hd3 hg3 ⟨?_, ?_⟩
        · have e := tl_joined cs
          rw [show tl (Txt.join (Str.ofString "") (cs.map one)) = cs from e, hcl]
          exact hz3.2.2
        · rw [show tl (Txt.join (Str.ofString "") (cs.map one)) = cs from tl_joined cs]
          exact hc
end
end Dk

set_option Elab.async false
set_option linter.all false
set_option maxRecDepth 100000
set_option maxHeartbeats 4000000
namespace Dk
open PySem PySem.Spec PyProof.Rows L2 TL
/-! ### the period -/
def lens (ts : List Str) : List Nat := ts.map fun t => (tl t).length
def lcmL : List Nat → Nat → Nat
  | [], a => a
  | n :: r, a => lcmL r (a.lcm n)
def per (ts : List Str) : Nat := lcmL (lens ts) 1
theorem lcmL_dvd : ∀ (l : List Nat) (a m : Nat), a ∣ m → (∀ n ∈ l, n ∣ m) → lcmL l a ∣ m
  | [], a, m, h, _ => h
  | n :: r, a, m, h, k => lcmL_dvd r _ m (Nat.lcm_dvd h (k n (List.mem_cons_self ..))) fun x hx => k x (List.mem_cons_of_mem _ hx)
theorem dvd_lcmL : ∀ (l : List Nat) (a : Nat), a ∣ lcmL l a ∧ ∀ n ∈ l, n ∣ lcmL l a
  | [], a => ⟨Nat.dvd_refl _, fun n h => by cases h⟩
  | n :: r, a => by
    have ih := dvd_lcmL r (a.lcm n)
    refine ⟨Nat.dvd_trans (Nat.dvd_lcm_left a n) ih.1, fun x hx => ?_⟩
    rcases List.mem_cons.mp hx with e | hx
    · rw [e]; exact Nat.dvd_trans (Nat.dvd_lcm_right a n) ih.1
    · exact ih.2 x hx
def Tabs (ts : List Str) : Prop := ∀ t ∈ ts, IsTab t
theorem IsTab.dvd {t : Str} (h : IsTab t) : (tl t).length ∣ 24 := by
  have := h.len
  simp only [List.mem_cons, List.not_mem_nil, or_false] at this
  rcases this with e | e | e | e | e | e | e | e <;> rw [e] <;> decide
theorem per_24 {ts : List Str} (h : Tabs ts) : per ts ∣ 24 := lcmL_dvd _ _ _ (Nat.one_dvd _) fun n hn => by
  obtain ⟨t, ht, rfl⟩ := List.mem_map.mp hn
  exact (h t ht).dvd
theorem per_le {ts : List Str} (h : Tabs ts) : per ts ≤ 24 := Nat.le_of_dvd (by decide) (per_24 h)
theorem per_pos {ts : List Str} (h : Tabs ts) : 1 ≤ per ts := Nat.pos_of_ne_zero fun e => by
  have := per_24 h
  rw [e] at this
  exact absurd (Nat.eq_zero_of_zero_dvd this) (by decide)
theorem dvd_per {ts : List Str} {t : Str} (h : t ∈ ts) : (tl t).length ∣ per ts := (dvd_lcmL _ _).2 _ (List.mem_map.mpr ⟨t, h, rfl⟩)
theorem per_min {ts : List Str} {m : Nat} (h : ∀ t ∈ ts, (tl t).length ∣ m) : per ts ∣ m := lcmL_dvd _ _ _ (Nat.one_dvd _) fun n hn => by
  obtain ⟨t, ht, rfl⟩ := List.mem_map.mp hn
  exact h t ht
theorem IsTab.strOk {t : Str} (h : IsTab t) : PyData.strOk t = true := by
  unfold PyData.strOk
  rw [← Array.all_toList, List.all_eq_true]
  intro c hc
  have := h.ho c hc
  simp only [decide_eq_true_eq]
  omega
theorem dpAll_strs {K : PySem.W.Frag} {H : Hp} : ∀ ys : List Str, DpAll K H (ys.map V.str) (ys.map PyData.str)
  | [] => .nil
  | y :: ys => .cons (.str y) (dpAll_strs ys)
theorem shaped_strs : ∀ {ys : List Str}, Tabs ys → SeqAt.shaped (.list (ys.map PyData.str)) = true := by
  intro ys h
  have h1 : PyData.canLayAll0 (ys.map PyData.str) = true := by
    induction ys with
    | nil => rfl
    | cons y ys ih =>
      show (PyData.canLay0 (.str y) && PyData.canLayAll0 (ys.map PyData.str)) = true
      rw [ih fun t ht => h t (List.mem_cons_of_mem _ ht)]
      have := (h y (List.mem_cons_self ..)).strOk
      simp [PyData.canLay0, this]
  have h2 : PyData.depthAll (ys.map PyData.str) = 0 := by
    clear h h1
    induction ys with
    | nil => rfl
    | cons y ys ih => show max (PyData.depth (.str y)) (PyData.depthAll _) = 0; rw [ih]; rfl
  unfold SeqAt.shaped
  simp only [PyData.canLay0, PyData.depth, h1, h2]
  decide
theorem eqv_strs (ys : List Str) : PyData.eqv (.list (ys.map PyData.str)) (.list []) = ys.isEmpty := by
  cases ys <;> rfl
theorem fmod_pos {n m : Nat} (hm : 1 ≤ m) : (0 < (n : Int).fmod (m : Int)) ↔ ¬ m ∣ n := by
  have e : (n : Int).fmod (m : Int) = ((n % m : Nat) : Int) := by
    rw [Int.fmod_eq_emod_of_nonneg _ (by omega)]; rfl
  rw [e]
  constructor
  · intro h d
    rw [Nat.mod_eq_zero_of_dvd d] at h
    exact absurd h (by decide)
  · intro h
    have : n % m ≠ 0 := fun q => h (Nat.dvd_of_mod_eq_zero q)
    omega
/-! ### lcm -/
def rLcm : List V → Hp → VK → Prop := fun vs H Q => ∃ a b : Nat, vs = [.int (a : Int), .int (b : Int)] ∧ a ≤ 1000 ∧ b ≤ 1000 ∧ Q (.int ((Nat.lcm a b : Nat) : Int)) H
theorem cr_lcm {X : Cx} : CallR X (.builtin "math.lcm") rLcm := by
  intro pins s σ H vs us Q I r h
  obtain ⟨a, b, rfl, ha, hb, q⟩ := h
  obtain ⟨t, u, rfl⟩ := Vals.int2 r
  have e : (Nat.lcm 1 (a : Int).natAbs).lcm (b : Int).natAbs = Nat.lcm a b := by
    rw [Nat.lcm_one_left]; rfl
  have hle : Nat.lcm a b ≤ 1000000 := by
    have h1 : Nat.lcm a b ≤ a * b := Nat.div_le_self _ _
    have h2 : a * b ≤ 1000 * 1000 := Nat.mul_le_mul ha hb
    omega
  refine PySem.W.mg_lcm_v (c := ((Nat.lcm a b : Nat) : Int)) (by simp; omega) (by simp; omega) (by rw [e]) ?_ ⟨.int _, H, I.tok _, ⟨_, rfl⟩, q⟩
  rw [bitsLine_eq]
  have h3 : ((Nat.lcm a b : Nat) : Int).natAbs.log2 ≤ ((Nat.lcm a b : Nat) : Int).natAbs := Nat.log2_le_self _
  have h4 : ((Nat.lcm a b : Nat) : Int).natAbs = Nat.lcm a b := rfl
  omega
theorem lcmL_take {l : List Nat} {i x a : Nat} (h : l[i]? = some x) : lcmL (l.take (i + 1)) a = (lcmL (l.take i) a).lcm x := by
  rw [take_more h]
  generalize l.take i = p
  induction p generalizing a with
  | nil => rfl
  | cons y p ih => exact ih (a := a.lcm y)
theorem Tabs.take {ts : List Str} (h : Tabs ts) (n : Nat) : Tabs (ts.take n) := fun t ht => h t (List.mem_of_mem_take ht)
theorem lens_take (ts : List Str) (n : Nat) : lens (ts.take n) = (lens ts).take n := by unfold lens; rw [List.map_take]
theorem small_str {t : Str} (h : t.length ≤ 1000) : t.length ≤ sizeLine := Nat.le_trans h (by decide)
theorem IsTab.size {t : Str} (h : IsTab t) : t.length ≤ sizeLine := small_str (by rw [len_tl t]; have := h.pos.2; omega)
theorem filt1 {α : Type} {p : α → Bool} {x : α} (h : p x = true) : [x].filter p = [x] := by simp [h]
theorem filt0 {α : Type} {p : α → Bool} {x : α} (h : p x = false) : [x].filter p = [] := by simp [h]
def spPeriod (K : PySem.W.Frag) : Sp := fun vs H Q _ => ∃ (a : Addr) (ts : List Str), vs = [.ref a] ∧ SqT K H a (ts.map V.str) ∧ Tabs ts ∧ Q (.int ((per ts : Nat) : Int)) H
def spLength (K : PySem.W.Frag) : Sp := fun vs H Q _ => ∃ (a : Addr) (ts : List Str), vs = [.ref a] ∧ SqT K H a (ts.map V.str) ∧ Tabs ts ∧ ts.length ≤ 6 ∧ ∀ H', Same H H' → Q (.int ((per ts : Nat) : Int)) H'
structure TxtC (mg : Str → Option Value) : Prop where
  lcm : mg "lcm" = some (.builtin "math.lcm")
section
variable {P : Program} {w : World} {K : PySem.W.Frag} {mg : Str → Option Value} {base : Heap}
theorem scPeriod : FnScope ["tables", "ticks", "table"] ["tables"] (defScope sPeriod) := ⟨rfl, rfl, rfl, by decide +kernel, rfl, by decide +kernel, by decide +kernel⟩
theorem ok_period {f : Addr} {fd : FuncData} (F : Fun K "common_period" "common_period" sPeriod f fd) (T : TxtA mg) (TC : TxtC mg) : FnOk P w K mg base CX0 1 f fd ["tables"] (spPeriod K) := by
  refine F.ok scPeriod (fun vs H Q E h => ?_) (fun cdv A outer s H vs Q E hr h => ?_)
  · obtain ⟨a, ts, rfl, _⟩ := h
    rfl
  · obtain ⟨a, ts, rfl, hS, hT, k⟩ := h
    refine ⟨_, pss_cons (ps_set (i := 1) scPeriod.nd rfl (.inl rfl) pe_int)
      (pss_cons (ps_for PassesOwn.never rfl (pi_tup (pv 0)) (pg_name (i := 2) scPeriod.nd rfl (.inl rfl))
        (pss_one (ps_set (i := 1) scPeriod.nd rfl (.inl rfl) (pe_callBfun cr_lcm (by rfl) TC.lcm (pa_cons (pv 1) (pa_cons (pe_callB call_len_str (by rfl) T.len PySem.boot_len (pa_cons (pv 2) pa_nil)) pa_nil))))))
      (pss_one (ps_ret (pv 1)))), ?_⟩
    refine ⟨_, rfl, a, rfl, ⟨_, hS⟩, for_tup (K := K) (a := a) (xs := ts.map V.str) (fun i σ H' => ∃ v : Option V, σ = [some (.ref a), some (.int ((per (ts.take i) : Nat) : Int)), v] ∧ H' = H)
      ⟨none, rfl, rfl⟩ (fun i σ H' _ ⟨_, _, e⟩ => by rw [e]; exact hS) ?_ ?_⟩
    · rintro i y σ H' hi ⟨v, rfl, rfl⟩
      obtain ⟨t, ht, rfl⟩ := map_at hi
      have hm : t ∈ ts := List.mem_of_getElem? ht
      have hit := hT t hm
      have ex : (lens ts)[i]? = some (tl t).length := by unfold lens; rw [List.getElem?_map, ht]; rfl
      refine ⟨_, rfl, _, rfl, _, rfl, hit.size, per (ts.take i), (tl t).length, ?_, ?_, ?_, ?_⟩
      · rw [len_tl t]
      · have := per_le (hT.take i); omega
      · have := hit.pos.2; omega
      · refine ⟨some (.str t), ?_, rfl⟩
        show _ = [some (V.ref a), some (V.int ((per (ts.take (i + 1)) : Nat) : Int)), some (V.str t)]
        unfold per
        rw [lens_take, lens_take, lcmL_take ex]
        rfl
    · rintro σ H' ⟨v, rfl, rfl⟩
      rw [List.length_map, List.take_length]
      exact ⟨_, rfl, k⟩
theorem scLength : FnScope ["_law_tables", "_law_length_here", "_law_table_here"] ["_law_tables"] (defScope sLength) := ⟨rfl, rfl, rfl, by decide +kernel, rfl, by decide +kernel, by decide +kernel⟩
theorem ok_length {f : Addr} {fd : FuncData} (F : Fun K "_law_length" "_law_length" sLength f fd) (T : TxtA mg) : FnOk P w K mg base CX0 1 f fd ["_law_tables"] (spLength K) := by
  refine F.ok scLength (fun vs H Q E h => ?_) (fun cdv A outer s H vs Q E hr h => ?_)
  · obtain ⟨a, ts, rfl, _⟩ := h
    rfl
  · obtain ⟨a, ts, rfl, hS, hT, hl6, k⟩ := h
    refine ⟨_, pss_cons (ps_set (i := 1) scLength.nd rfl (.inr rfl) pe_int)
      (pss_cons (ps_while PassesOwn.never (pt_cmpR (op_neD hr.units) (pe_lc (own := [("_law_table_here", 2)]) (g := gName 2) (by rfl) scLength.nd (pi_tup (pv 0)) (blkOk_by (N := ["_law_tables", "_law_length_here", "_law_table_here"]) (sc := defScope sLength) (by decide +kernel))
          (fun _ _ _ _ _ => pg_name (i := 2) scLength.nd rfl (Or.inl rfl)) (fun _ _ _ _ _ => pts_one (pt_cmpR op_gt (pe_op op_modN (pv 1) (pe_callB call_len_str (by rfl) T.len PySem.boot_len (pa_cons (pv 2) pa_nil))) pe_int (nomark _))) (fun _ _ _ _ _ => pv 2)) (pe_lst pa_nil) (nomark _))
        (pss_one (ps_set (i := 1) scLength.nd rfl (.inr rfl) (pe_op op_add (pv 1) pe_int))))
      (pss_one (ps_ret (pv 1)))), ?_⟩
    refine ⟨fun m σ H' => ∃ n : Nat, σ = [some (.ref a), some (.int (n : Int)), none] ∧ Same H H' ∧ 1 ≤ n ∧ n ≤ per ts ∧ m = per ts - n, ⟨_, 1, rfl, Same.refl H, Nat.le_refl _, per_pos hT, rfl⟩, ?_⟩
    rintro m σ H' ⟨n, rfl, s1, h1, h2, rfl⟩
    have hS1 := sSqT s1 hS
    refine ⟨_, rfl, a, rfl, ⟨_, hS1⟩, fun D hD => lc_tup (K := K) (a := a) (xs := ts.map V.str)
      (fun i H3 => ∃ ys : List Str, Same H' H3 ∧ H3 D = some (.lst (ys.map V.str)) ∧ ys = (ts.take i).filter (fun t => decide (¬ (tl t).length ∣ n)) ∧ ys.length ≤ i)
      ⟨[], same_upd hD, upd_same, rfl, Nat.le_refl _⟩ (fun i H3 _ ⟨_, e, _⟩ => sSqT e hS1) ?_ ?_⟩
    · rintro i y H3 hi ⟨ys, s3, eD, hys, hyl⟩
      obtain ⟨t, ht, rfl⟩ := map_at hi
      have hil : i < ts.length := (List.getElem?_eq_some_iff.mp ht).1
      have hit := hT t (List.mem_of_getElem? ht)
      have hlen : t.length = (tl t).length := len_tl t
      refine ⟨rfl, _, rfl, _, rfl, _, rfl, hit.size, _, _, rfl, rfl, (by have := hit.pos.1; omega), _, _, rfl, rfl, _, rfl, ite2 (fun c => ?_) (fun c => ?_)⟩
      · have c' := of_decide_eq_true c
        rw [hlen, fmod_pos hit.pos.1] at c'
        refine ⟨_, rfl, _, eD, ?_, ys ++ [t], fun b o eb => ?_, ?_, ?_, ?_⟩
        · rw [List.length_map]; exact Nat.lt_of_le_of_lt (by omega : ys.length ≤ 1000) (by decide)
        · rw [upd_ne (ne_of_none eb hD)]; exact s3 _ _ eb
        · rw [upd_same]; simp
        · rw [take_more ht, List.filter_append, ← hys, show List.filter (fun t => decide (¬ (tl t).length ∣ n)) [t] = [t] from filt1 (decide_eq_true c')]
        · rw [List.length_append, List.length_singleton]; omega
      · have c' : ¬ (0 < (n : Int).fmod (t.length : Int)) := fun q => c (decide_eq_true q)
        rw [hlen, fmod_pos hit.pos.1] at c'
        refine ⟨ys, s3, eD, ?_, by omega⟩
        rw [take_more ht, List.filter_append, ← hys, show List.filter (fun t => decide (¬ (tl t).length ∣ n)) [t] = [] from filt0 (decide_eq_false c'), List.append_nil]
    · rintro H3 ⟨ys, s3, eD, hys, hyl⟩
      rw [List.length_map, List.take_length] at hys
      refine ⟨Nat.zero_le _, fun l hl => ?_⟩
      have eD2 := same_upd (o := .lst []) hl _ _ eD
      have hTy : Tabs ys := fun t ht => hT t (by rw [hys] at ht; exact (List.mem_filter.mp ht).1)
      refine ⟨.list (ys.map PyData.str), .list [], .lst (SqL.of eD2) (dpAll_strs ys), .lst (SqL.of upd_same) .nil, shaped_strs hTy, by decide, _, rfl, ?_⟩
      rw [eqv_strs]
      have s5 : Same H (upd H3 l (.lst [])) := (s1.trans s3).trans (same_upd hl)
      cases hy : ys with
      | nil =>
        refine iteF ⟨_, rfl, ?_⟩
        have all : ∀ t ∈ ts, (tl t).length ∣ n := fun t ht => by
          by_cases d : (tl t).length ∣ n
          · exact d
          · have : t ∈ ys := by rw [hys]; exact List.mem_filter.mpr ⟨ht, decide_eq_true d⟩
            rw [hy] at this
            cases this
        have e : n = per ts := Nat.le_antisymm h2 (Nat.le_of_dvd h1 (per_min all))
        rw [e]
        exact k _ s5
      | cons t0 ys' =>
        refine iteT ?_
        have hne : n ≠ per ts := fun e => by
          have hm : t0 ∈ ts.filter (fun t => decide (¬ (tl t).length ∣ n)) := by rw [← hys, hy]; exact List.mem_cons_self ..
          have := List.mem_filter.mp hm
          exact (of_decide_eq_true this.2) (by rw [e]; exact dvd_per this.1)
        refine ⟨fun σ' H'' => ∃ n' : Nat, σ' = [some (.ref a), some (.int (n' : Int)), none] ∧ Same H H'' ∧ 1 ≤ n' ∧ n' ≤ per ts ∧ n' = n + 1, fun σ' H'' ⟨n', e1, e2, e3, e4, e5⟩ => ⟨per ts - n', by omega, n', e1, e2, e3, e4, rfl⟩, ?_⟩
        exact ⟨_, rfl, _, _, rfl, rfl, n + 1, rfl, s5, by omega, by omega, rfl⟩
end
end Dk

set_option Elab.async false
set_option linter.all false
set_option maxRecDepth 100000
set_option maxHeartbeats 4000000
namespace Dk
open PySem PySem.Spec PyProof.Rows L2 TL
/-! ### pairs -/
abbrev Pr := Int × Int
def PrAt (H : Hp) (x : V) (r : Pr) : Prop := ∃ t, x = .ref t ∧ H t = some (.tup [.int r.1, .int r.2])
def Prs (H : Hp) (xs : List V) (rs : List Pr) : Prop := Paired (PrAt H) xs rs
theorem Prs.app {H : Hp} : ∀ {xs : List V} {rs : List Pr} {x : V} {r : Pr}, Prs H xs rs → PrAt H x r → Prs H (xs ++ [x]) (rs ++ [r])
  | [], [], _, _, .nil, h => .cons h .nil
  | _ :: _, _ :: _, _, _, .cons a b, h => .cons a (Prs.app b h)
theorem Prs.mono {H H' : Hp} : ∀ {xs : List V} {rs : List Pr}, (∀ t ys, H t = some (.tup ys) → H' t = some (.tup ys)) → Prs H xs rs → Prs H' xs rs
  | [], [], _, .nil => .nil
  | _ :: _, _ :: _, k, .cons ⟨t, e, h⟩ b => .cons ⟨t, e, k _ _ h⟩ (Prs.mono k b)
theorem kp_tup {d : Addr} {H H' : Hp} {xs : List V} (k : Kp d H H') (hd : H d = some (.lst xs)) : ∀ t ys, H t = some (.tup ys) → H' t = some (.tup ys) := fun t ys h => k t _ (fun e => by rw [e, hd] at h; cases h) h
theorem Prs.len {H : Hp} {xs : List V} {rs : List Pr} (h : Prs H xs rs) : xs.length = rs.length := Paired.length h
def kf (H : Hp) : V → Pr
  | .ref t => match H t with
    | some (.tup [.int i, .int j]) => (i, j)
    | _ => (0, 0)
  | _ => (0, 0)
theorem kf_at {H : Hp} {x : V} {r : Pr} (h : PrAt H x r) : kf H x = r := by
  obtain ⟨t, rfl, e⟩ := h
  show (match H t with | some (.tup [.int i, .int j]) => (i, j) | _ => (0, 0)) = r
  rw [e]
theorem Prs.kf {H : Hp} : ∀ {xs : List V} {rs : List Pr}, Prs H xs rs → xs.map (kf H) = rs
  | [], [], .nil => rfl
  | _ :: _, _ :: _, .cons a b => by rw [List.map_cons, kf_at a, Prs.kf b]
theorem Prs.mem {H : Hp} : ∀ {xs : List V} {rs : List Pr}, Prs H xs rs → ∀ x ∈ xs, PrAt H x (Dk.kf H x)
  | [], [], .nil, _, h => by cases h
  | _ :: _, _ :: _, .cons a b, x, h => by
    rcases List.mem_cons.mp h with rfl | h
    · rw [kf_at a]; exact a
    · exact Prs.mem b x h
theorem Prs.of_mem {H : Hp} : ∀ {xs : List V}, (∀ x ∈ xs, PrAt H x (Dk.kf H x)) → Prs H xs (xs.map (Dk.kf H))
  | [], _ => .nil
  | x :: xs, h => .cons (h x (List.mem_cons_self ..)) (Prs.of_mem fun y hy => h y (List.mem_cons_of_mem _ hy))
/-- r before s -/
def plt (r s : Pr) : Prop := r.1 < s.1 ∨ (r.1 = s.1 ∧ r.2 < s.2)
def prR (r : Pr) : PyData := .tuple [.int r.1, .int r.2]
theorem prR_eqv (r s : Pr) : PyData.eqv (prR r) (prR s) = decide (r = s) := by
  obtain ⟨a, b⟩ := r
  obtain ⟨c, d⟩ := s
  show (a == c && (b == d && true)) = decide ((a, b) = (c, d))
  by_cases h1 : a = c
  · by_cases h2 : b = d
    · subst h1 h2; simp
    · simp [h2]
  · simp [h1]
theorem any_eqv (rs : List Pr) (r : Pr) : ((rs.map prR).any fun z => PyData.eqv z (prR r)) = decide (r ∈ rs) := by
  induction rs with
  | nil => rfl
  | cons s rs ih =>
    rw [List.map_cons, List.any_cons, ih, prR_eqv]
    by_cases h : s = r
    · subst h; simp
    · have h' : r ≠ s := fun e => h e.symm
      simp [h, h']
theorem prR_shaped (r : Pr) : SeqAt.shaped (prR r) = true := by
  unfold SeqAt.shaped prR
  simp [PyData.canLay0, PyData.canLayAll0, PyData.depth, PyData.depthAll]
theorem prRs_shaped (rs : List Pr) : SeqAt.shaped (.list (rs.map prR)) = true := by
  have h1 : PyData.canLayAll0 (rs.map prR) = true := by
    induction rs with
    | nil => rfl
    | cons r rs ih => show (PyData.canLay0 (prR r) && PyData.canLayAll0 (rs.map prR)) = true; rw [ih]; rfl
  have h2 : PyData.depthAll (rs.map prR) ≤ 1 := by
    clear h1
    induction rs with
    | nil => exact Nat.zero_le _
    | cons r rs ih => show max (PyData.depth (prR r)) (PyData.depthAll (rs.map prR)) ≤ 1; exact Nat.max_le.mpr ⟨by show max 0 (max 0 0) + 1 ≤ 1; decide, ih⟩
  have h3 : PyData.depth (.list (rs.map prR)) ≤ 64 := by
    show PyData.depthAll (rs.map prR) + 1 ≤ 64
    omega
  unfold SeqAt.shaped
  rw [show PyData.canLay0 (.list (rs.map prR)) = true from h1, decide_eq_true h3]
  rfl
theorem dp_pr {K : PySem.W.Frag} {H : Hp} {x : V} {r : Pr} (h : PrAt H x r) : Dp K H x (prR r) := by
  obtain ⟨t, rfl, e⟩ := h
  exact .tup (SqT.of e) (.cons (.int _) (.cons (.int _) .nil))
theorem dpAll_prs {K : PySem.W.Frag} {H : Hp} : ∀ {xs : List V} {rs : List Pr}, Prs H xs rs → DpAll K H xs (rs.map prR)
  | [], [], .nil => .nil
  | _ :: _, _ :: _, .cons a b => .cons (dp_pr a) (dpAll_prs b)
theorem lex_plt {r s : Pr} (h : SrtO.lexB s r = false) (n : r ≠ s) : plt r s := by
  have a := SrtO.lexB_no.mp h
  obtain ⟨r1, r2⟩ := r
  obtain ⟨s1, s2⟩ := s
  simp only [plt] at *
  by_cases h1 : r1 = s1
  · subst h1
    by_cases h2 : r2 = s2
    · subst h2; exact absurd rfl n
    · right; omega
  · left; omega
theorem sorted_plt : ∀ {l : List Pr}, l.Pairwise (fun x y => SrtO.lexB y x = false) → l.Nodup → l.Pairwise plt
  | [], _, _ => .nil
  | x :: l, h, n => by
    have h' := List.pairwise_cons.mp h
    have n' := List.nodup_cons.mp n
    exact .cons (fun y hy => lex_plt (h'.1 y hy) fun e => n'.1 (e ▸ hy)) (sorted_plt h'.2 n'.2)
/-- the parts of a house -/
structure Parts (ts : List Str) (keys : Int) (cs : List Int) (rs : List Pr) : Prop where
  tabs : Tabs ts
  n1 : 1 ≤ ts.length
  n6 : ts.length ≤ 6
  k0 : 0 ≤ keys
  k9 : keys ≤ 9
  cp : cs.Pairwise (· < ·)
  cm : ∀ c ∈ cs, (0 : Int) ≤ c ∧ c < (ts.length : Int)
  rp : rs.Pairwise plt
  rm : ∀ r ∈ rs, (0 : Int) ≤ r.1 ∧ r.1 < ((per ts : Nat) : Int) ∧ (0 : Int) ≤ r.2 ∧ r.2 < (ts.length : Int)
  r10 : rs.length ≤ 10
structure PartsAt (H : Hp) (a : Addr) (ts : List Str) (keys : Int) (cs : List Int) (rs : List Pr) : Prop where
  ex : ∃ aT aC aR xs, H a = some (.tup [.ref aT, .int keys, .ref aC, .ref aR]) ∧ H aT = some (.tup (ts.map V.str)) ∧ H aC = some (.tup (cs.map V.int)) ∧ H aR = some (.tup xs) ∧ Prs H xs rs
theorem PartsAt.mono {H H' : Hp} {a : Addr} {ts : List Str} {keys : Int} {cs : List Int} {rs : List Pr} (h : PartsAt H a ts keys cs rs) (k : ∀ t ys, H t = some (.tup ys) → H' t = some (.tup ys)) : PartsAt H' a ts keys cs rs := by
  obtain ⟨aT, aC, aR, xs, e1, e2, e3, e4, e5⟩ := h
  exact ⟨aT, aC, aR, xs, k _ _ e1, k _ _ e2, k _ _ e3, k _ _ e4, e5.mono k⟩
end Dk

set_option Elab.async false
set_option linter.all false
set_option maxRecDepth 100000
set_option maxHeartbeats 4000000
namespace Dk
open PySem PySem.Spec PyProof.Rows L2 TL
def spParts : Sp := fun vs H Q _ => ∃ (d : Addr) (most : Int) (st : List Int), vs = [.ref d, .int most] ∧ H d = some (.lst (st.map V.int)) ∧ Good st ∧ 1 ≤ most ∧ most ≤ 6 ∧
  ∀ (H' : Hp) (st' : List Int) (a : Addr) (ts : List Str) (keys : Int) (cs : List Int) (rs : List Pr), Kp d H H' → H' d = some (.lst (st'.map V.int)) → Good st' → PartsAt H' a ts keys cs rs → Parts ts keys cs rs → Q (.ref a) H'
structure TxtD (K : PySem.W.Frag) (mg : Str → Option Value) (fT fL : Addr) (fdT fdL : FuncData) : Prop where
  gT : mg "_law_table" = some (.ref fT)
  FT : Fun K "_law_table" "_law_table" sTable fT fdT
  bT : Binds K fdT ["_law_d"] []
  gL : mg "_law_length" = some (.ref fL)
  FL : Fun K "_law_length" "_law_length" sLength fL fdL
  bL : Binds K fdL ["_law_tables"] []
  tuple : mg "tuple" = none
  sorted : mg "sorted" = none
abbrev nParts : List Str := ["_law_d", "_law_most", "_law_k", "_law_tables", "_law_careful", "_law_length_here", "_law_reminders", "_law_reminder"]
section
variable {P : Program} {w : World} {K : PySem.W.Frag} {mg : Str → Option Value} {base : Heap}
theorem scParts : FnScope nParts ["_law_d", "_law_most"] (defScope sParts) := ⟨rfl, rfl, rfl, by decide +kernel, rfl, by decide +kernel, by decide +kernel⟩
theorem ok_parts {f fB fT fL : Addr} {fd fdB fdT fdL : FuncData} (F : Fun K "_law_parts" "_law_parts" sParts f fd) (T : TxtA mg) (B : TxtB K mg fB fdB) (D' : TxtD K mg fT fL fdT fdL) : FnOk P w K mg base CX0 3 f fd ["_law_d", "_law_most"] spParts := by
  have GB : FnOk P w K mg base CX0 1 fB fdB ["_law_d", "_law_limit"] spBelow := ok_below B.F T
  have GT : FnOk P w K mg base CX0 2 fT fdT ["_law_d"] spTable := ok_table D'.FT T B
  have GL : FnOk P w K mg base CX0 1 fL fdL ["_law_tables"] (spLength K) := ok_length D'.FL T
  refine F.ok scParts (fun vs H Q E h => ?_) (fun cdv A outer s H vs Q E hr h => ?_)
  · obtain ⟨d, most, st, rfl, _⟩ := h
    rfl
  · obtain ⟨d, most, st, rfl, hd, hg, hm1, hm6, k⟩ := h
    have hr1 : Room 1 _ := hr.mono (by decide)
    have hu : (A.deeper (envOfC (Str.ofString "_law_parts") (defScope sParts) s.heap.objs.size f cdv)).units + 65 < cLine := by have := hr.un; omega
    refine ⟨_, pss_cons (ps_set (i := 3) scParts.nd rfl (.inl rfl) (pe_callTy call_tuple_of (by rfl) D'.tuple (by decide +kernel) (pa_cons
        (pe_lc (own := [("_law_k", 2)]) (g := gName 2) (by rfl) scParts.nd (pi_range1 rfl T.range (pa_cons (pe_op op_add pe_int (pe_call GB hr1 rfl B.g B.F.kp B.b .nil pass0 (pa_cons (pv 0) (pa_cons (pv 1) pa_nil)))) pa_nil)) (blkOk_by (N := nParts) (sc := defScope sParts) (by decide +kernel))
          (fun _ _ _ _ _ => pg_name (i := 2) scParts.nd rfl (Or.inl rfl)) (fun _ _ _ _ _ => pts_nil)
          (fun _ _ _ _ _ => pe_call GT hr rfl D'.gT D'.FT.kp D'.bT .nil pass0 (pa_cons (pv 0) pa_nil))) pa_nil)))
      (pss_cons (ps_set (i := 4) scParts.nd rfl (.inl rfl) (pe_callTy call_tuple_of (by rfl) D'.tuple (by decide +kernel) (pa_cons
        (pe_lc (own := [("_law_k", 2)]) (g := gName 2) (by rfl) scParts.nd (pi_range1 rfl T.range (pa_cons (pe_callB call_len_seq (by rfl) T.len PySem.boot_len (pa_cons (pv 3) pa_nil)) pa_nil)) (blkOk_by (N := nParts) (sc := defScope sParts) (by decide +kernel))
          (fun _ _ _ _ _ => pg_name (i := 2) scParts.nd rfl (Or.inl rfl)) (fun _ _ _ _ _ => pts_one (pt_cmpR op_eq (pe_call GB hr1 rfl B.g B.F.kp B.b .nil pass0 (pa_cons (pv 0) (pa_cons pe_int pa_nil))) pe_int (nomark _)))
          (fun _ _ _ _ _ => pv 2)) pa_nil)))
      (pss_cons (ps_par (by rfl) scParts.nd (i := 5) (j := 6) rfl rfl (by decide) rfl rfl (pa_cons (pe_call GL hr1 rfl D'.gL D'.FL.kp D'.bL .nil pass0 (pa_cons (pv 3) pa_nil)) (pa_cons (pe_lst pa_nil) pa_nil)) (by rfl))
      (pss_cons (ps_for PassesOwn.never rfl (pi_range1 rfl T.range (pa_cons (pe_call GB hr1 rfl B.g B.F.kp B.b .nil pass0 (pa_cons (pv 0) (pa_cons
            (pe_ix ix_list (pe_lst (pa_cons pe_int (pa_cons pe_int (pa_cons pe_int pa_nil)))) (pe_call GB hr1 rfl B.g B.F.kp B.b .nil pass0 (pa_cons (pv 0) (pa_cons pe_int pa_nil))) (fun _ _ => rfl)) pa_nil))) pa_nil)) (pg_name (i := 2) scParts.nd rfl (.inl rfl))
          (pss_cons (ps_set (i := 7) scParts.nd rfl (.inl rfl) (pe_tup (pa_cons (pe_call GB hr1 rfl B.g B.F.kp B.b .nil pass0 (pa_cons (pv 0) (pa_cons (pv 5) pa_nil)))
              (pa_cons (pe_call GB hr1 rfl B.g B.F.kp B.b .nil pass0 (pa_cons (pv 0) (pa_cons (pe_callB call_len_seq (by rfl) T.len PySem.boot_len (pa_cons (pv 3) pa_nil)) pa_nil))) pa_nil))))
          (pss_one (ps_if (pt_cmpR (op_notInD hu) (pv 7) (pv 6) (by rfl))
            (pss_one (ps_expr (pe_bm PySem.F.plainAttrs_list PySem.F.slot_list_append PySem.F.type_list_append mt_append (pv 6) (pa_cons (pv 7) pa_nil)))) pss_nil))))
      (pss_one (ps_ret (pe_tup (pa_cons (pv 3) (pa_cons (pe_call GB hr1 rfl B.g B.F.kp B.b .nil pass0 (pa_cons (pv 0) (pa_cons
            (pe_ix ix_list (pe_lst (pa_cons pe_int (pa_cons pe_int pa_nil))) (pe_call GB hr1 rfl B.g B.F.kp B.b .nil pass0 (pa_cons (pv 0) (pa_cons pe_int pa_nil))) (fun _ _ => rfl)) pa_nil)))
          (pa_cons (pv 4) (pa_cons (pe_callTy call_tuple_of (by rfl) D'.tuple (by decide +kernel) (pa_cons (pe_callB cr_sortedPO (by rfl) D'.sorted (by decide +kernel) (pa_cons (pv 6) pa_nil)) pa_nil)) pa_nil)))))))))), ?_⟩
    -- the timetables
    refine ⟨_, rfl, _, rfl, d, most, st, rfl, hd, hg, hm1, by omega, fun H1 st1 r1 k1 hd1 hg1 r10 r11 => ?_⟩
    refine ⟨_, _, rfl, rfl, _, rfl, by omega, by omega, fun D hD => lc_range (lo := 0) (n := (1 + r1).toNat)
      (fun i H3 => ∃ (st3 : List Int) (ts : List Str), Kp d H1 H3 ∧ H3 d = some (.lst (st3.map V.int)) ∧ Good st3 ∧ H3 D = some (.lst (ts.map V.str)) ∧ ts.length = i ∧ Tabs ts)
      ⟨st1, [], sKp (same_upd hD), same_upd hD _ _ hd1, hg1, upd_same, rfl, fun t ht => by cases ht⟩ ?_ ?_⟩
    · rintro i H3 hi ⟨st3, ts, k3, hd3, hg3, eD, hl, hT⟩
      have ndD : d ≠ D := ne_of_none hd1 hD
      refine ⟨rfl, _, rfl, d, st3, rfl, hd3, hg3, fun H4 st4 t k4 hd4 hg4 ht => ?_⟩
      refine ⟨_, k4 _ _ ndD.symm eD, ?_, st4, ts ++ [t], fun b o nb eb => ?_, by rw [upd_ne ndD]; exact hd4, hg4, by rw [upd_same]; simp, by rw [List.length_append, hl]; rfl, fun x hx => ?_⟩
      · rw [List.length_map, hl]; exact Nat.lt_of_le_of_lt (by omega : i ≤ 1000) (by decide)
      · rw [upd_ne (ne_of_none eb hD)]; exact k4 _ _ nb (k3 _ _ nb eb)
      · rcases List.mem_append.mp hx with hx | hx
        · exact hT x hx
        · rw [List.mem_singleton.mp hx]; exact ht
    rintro H3 ⟨st3, ts, k3, hd3, hg3, eD, hl, hT⟩
    have hl6 : 1 ≤ ts.length ∧ ts.length ≤ 6 := by omega
    clear hl
    refine ⟨D, ts.map V.str, rfl, .inl ⟨SqL.of eD, fun aT haT => ?_⟩⟩
    have kA : Kp d H (upd H3 aT (.tup (ts.map V.str))) := (k1.trans k3).trans (sKp (same_upd haT))
    have hdA : (upd H3 aT (.tup (ts.map V.str))) d = some (.lst (st3.map V.int)) := same_upd haT _ _ hd3
    have eT : (upd H3 aT (.tup (ts.map V.str))) aT = some (.tup (ts.map V.str)) := upd_same
    generalize upd H3 aT (.tup (ts.map V.str)) = HA at kA hdA eT
    clear k1 hd1 hg1 k3 hd3 eD haT hD hd hg
    -- the careful persons
    refine ⟨_, rfl, aT, _, rfl, .inr (SqT.of eT), _, rfl, by omega, by rw [List.length_map]; omega, fun D hD => lc_range (lo := 0) (n := (((ts.map V.str).length : Nat) : Int).toNat)
      (fun i H3 => ∃ (st3 : List Int) (cs : List Int), Kp d HA H3 ∧ H3 d = some (.lst (st3.map V.int)) ∧ Good st3 ∧ H3 D = some (.lst (cs.map V.int)) ∧ cs.length ≤ i ∧ cs.Pairwise (· < ·) ∧ ∀ c ∈ cs, (0 : Int) ≤ c ∧ c < (i : Int))
      ⟨st3, [], sKp (same_upd hD), same_upd hD _ _ hdA, hg3, upd_same, Nat.le_refl _, .nil, fun t ht => by cases ht⟩ ?_ ?_⟩
    · rintro i H3 hi ⟨st3, cs, k3, hd3, hg3, eD, hl, hP, hC⟩
      have ndD : d ≠ D := ne_of_none hdA hD
      rw [List.length_map] at hi
      refine ⟨rfl, _, rfl, d, 3, st3, rfl, hd3, hg3, by decide, by decide, fun H4 st4 r4 k4 hd4 hg4 r40 r41 => ?_⟩
      have eD4 := k4 _ _ ndD.symm eD
      refine ⟨rfl, _, rfl, ite2 (fun c => ?_) (fun c => ?_)⟩
      · refine ⟨_, rfl, _, eD4, ?_, st4, cs ++ [(0 : Int) + (i : Int)], fun b o nb eb => ?_, by rw [upd_ne ndD]; exact hd4, hg4, by rw [upd_same]; simp, by rw [List.length_append, List.length_singleton]; omega, ?_, fun x hx => ?_⟩
        · rw [List.length_map]; exact Nat.lt_of_le_of_lt (by omega : cs.length ≤ 1000) (by decide)
        · rw [upd_ne (ne_of_none eb hD)]; exact k4 _ _ nb (k3 _ _ nb eb)
        · refine List.pairwise_append.mpr ⟨hP, List.pairwise_singleton _ _, fun x hx y hy => ?_⟩
          rw [List.mem_singleton.mp hy]
          have := hC x hx
          omega
        · rcases List.mem_append.mp hx with hx | hx
          · have := hC x hx; omega
          · rw [List.mem_singleton.mp hx]; omega
      · exact ⟨st4, cs, fun b o nb eb => k4 _ _ nb (k3 _ _ nb eb), hd4, hg4, eD4, by omega, hP, fun x hx => by have := hC x hx; omega⟩
    rintro H3 ⟨st4, cs, k3, hd3, hg4, eD, hl, hCP, hCM⟩
    rw [List.length_map] at hl hCM
    refine ⟨D, cs.map V.int, rfl, .inl ⟨SqL.of eD, fun aC haC => ?_⟩⟩
    have kB : Kp d H (upd H3 aC (.tup (cs.map V.int))) := (kA.trans k3).trans (sKp (same_upd haC))
    have hdB : (upd H3 aC (.tup (cs.map V.int))) d = some (.lst (st4.map V.int)) := same_upd haC _ _ hd3
    have eT2 : (upd H3 aC (.tup (cs.map V.int))) aT = some (.tup (ts.map V.str)) := same_upd haC _ _ (kp_tup k3 hdA _ _ eT)
    have eC : (upd H3 aC (.tup (cs.map V.int))) aC = some (.tup (cs.map V.int)) := upd_same
    generalize upd H3 aC (.tup (cs.map V.int)) = HB at kB hdB eT2 eC
    clear kA hdA eT k3 hd3 hg3 eD haC hD
    -- the period; no reminders yet
    refine ⟨_, rfl, aT, ts, rfl, SqT.of eT2, hT, hl6.2, fun HC sC => ?_⟩
    refine ⟨Nat.zero_le _, fun l hL => ?_⟩
    have kC : Kp d H (upd HC l (.lst [])) := (kB.trans (sKp sC)).trans (sKp (same_upd hL))
    have hdC := same_upd (o := .lst []) hL _ _ (sC _ _ hdB)
    have eT3 := same_upd (o := .lst []) hL _ _ (sC _ _ eT2)
    have eC3 := same_upd (o := .lst []) hL _ _ (sC _ _ eC)
    have eL : (upd HC l (.lst [])) l = some (.lst []) := upd_same
    have ndl : d ≠ l := ne_of_none (sC _ _ hdB) hL
    have nHl : H l = none := by
      cases q : H l with
      | none => rfl
      | some o =>
        have := (kB.trans (sKp sC)) l o ndl.symm q
        rw [hL] at this
        cases this
    generalize upd HC l (.lst []) = HD at kC hdC eT3 eC3 eL
    clear kB hdB eT2 eC sC hL
    refine ⟨_, _, rfl, ?_⟩
    -- the reminders
    refine ⟨_, rfl, by show 3 ≤ sizeLine; decide, fun l1 hl1 => ?_⟩
    have s1 : Same HD (upd HD l1 (.lst [.int 1, .int 4, .int 11])) := same_upd hl1
    have n1 : l1 ≠ d := (ne_of_none hdC hl1).symm
    refine ⟨_, rfl, d, 3, st4, rfl, s1 _ _ hdC, hg4, by decide, by decide, fun HE st5 r5 k5 hd5 hg5 r50 r51 => ?_⟩
    have e1 : HE l1 = some (.lst (([1, 4, 11] : List Int).map V.int)) := k5 _ _ n1 upd_same
    obtain ⟨z1, hz1, a1⟩ := at_mem (L := [1, 4, 11]) r50 (by simpa using r51)
    have hz : 1 ≤ z1 ∧ z1 ≤ 11 := by simp at hz1; omega
    refine ⟨l1, _, r5, _, rfl, rfl, SqL.of e1, a1, d, z1, st5, rfl, hd5, hg5, hz.1, by omega, fun HF st6 r6 k6 hd6 hg6 r60 r61 => ?_⟩
    have kF : Kp d HD HF := (sKp s1).trans (k5.trans k6)
    have tF := kp_tup kF hdC
    refine ⟨_, rfl, by omega, by omega, for_range (lo := 0) (n := r6.toNat)
      (fun i σ H' => ∃ (st7 : List Int) (xs : List V) (rs : List Pr) (v2 v7 : Option V), σ = [some (.ref d), some (.int most), v2, some (.ref aT), some (.ref aC), some (.int ((per ts : Nat) : Int)), some (.ref l), v7] ∧
        Kp d H H' ∧ H' d = some (.lst (st7.map V.int)) ∧ Good st7 ∧ H' aT = some (.tup (ts.map V.str)) ∧ H' aC = some (.tup (cs.map V.int)) ∧ H' l = some (.lst xs) ∧ Prs H' xs rs ∧ rs.Nodup ∧ rs.length ≤ i ∧
        ∀ r ∈ rs, (0 : Int) ≤ r.1 ∧ r.1 < ((per ts : Nat) : Int) ∧ (0 : Int) ≤ r.2 ∧ r.2 < (ts.length : Int))
      ⟨st6, [], [], none, none, rfl, kC.trans kF, hd6, hg6, tF _ _ eT3, tF _ _ eC3, kF _ _ ndl.symm eL, .nil, .nil, Nat.le_refl _, fun r hr => by cases hr⟩ ?_ ?_⟩
    · rintro i σ H' hi ⟨st7, xs, rs, v2, v7, rfl, kG, hd7, hg7, eT4, eC4, eL4, hP, hN, hlen, hM⟩
      refine ⟨_, rfl, _, rfl, d, _, st7, rfl, hd7, hg7, by have := per_pos hT; omega, by have := per_le hT; omega, fun H5 st8 ra k8 hd8 hg8 ra0 ra1 => ?_⟩
      refine ⟨_, rfl, _, rfl, aT, _, rfl, .inr (SqT.of (kp_tup k8 hd7 _ _ eT4)), d, _, st8, rfl, hd8, hg8, by rw [List.length_map]; omega, by rw [List.length_map]; omega, fun H6 st9 rb k9 hd9 hg9 rb0 rb1 => ?_⟩
      rw [List.length_map] at rb1
      have kH : Kp d H' H6 := k8.trans k9
      have tH := kp_tup kH hd7
      refine ⟨by show 2 ≤ sizeLine; decide, fun p hp => ?_⟩
      have eL6 := same_upd (o := .tup [.int ra, .int rb]) hp _ _ (kH _ _ ndl.symm eL4)
      have hP6 : Prs (upd H6 p (.tup [.int ra, .int rb])) xs rs := hP.mono fun t ys h => same_upd hp _ _ (tH _ _ h)
      have hPr : PrAt (upd H6 p (.tup [.int ra, .int rb])) (.ref p) (ra, rb) := ⟨p, rfl, upd_same⟩
      have kI : Kp d H (upd H6 p (.tup [.int ra, .int rb])) := (kG.trans kH).trans (sKp (same_upd hp))
      have hd10 := same_upd (o := .tup [.int ra, .int rb]) hp _ _ hd9
      have eT6 := same_upd (o := .tup [.int ra, .int rb]) hp _ _ (tH _ _ eT4)
      have eC6 := same_upd (o := .tup [.int ra, .int rb]) hp _ _ (tH _ _ eC4)
      generalize upd H6 p (.tup [.int ra, .int rb]) = H7 at eL6 hP6 hPr kI hd10 eT6 eC6
      refine ⟨_, rfl, _, rfl, prR (ra, rb), rs.map prR, dp_pr hPr, .lst (SqL.of eL6) (dpAll_prs hP6), prR_shaped _, prRs_shaped _, _, rfl, ?_⟩
      rw [any_eqv]
      by_cases c : (ra, rb) ∈ rs
      · rw [decide_eq_true c]
        refine iteF ?_
        exact ⟨st9, xs, rs, _, _, rfl, kI, hd10, hg9, eT6, eC6, eL6, hP6, hN, by omega, hM⟩
      · rw [decide_eq_false c]
        refine iteT ?_
        refine ⟨_, rfl, .inl ⟨rfl, _, SqL.of eL6⟩, _, rfl, l, _, _, rfl, rfl, eL6, ?_, ?_⟩
        · rw [hP6.len]; exact Nat.lt_of_le_of_lt (by omega : rs.length ≤ 1000) (by decide)
        · have nlT : aT ≠ l := fun e => by rw [e, eL6] at eT6; cases eT6
          have nlC : aC ≠ l := fun e => by rw [e, eL6] at eC6; cases eC6
          have tK : ∀ t ys, H7 t = some (.tup ys) → (upd H7 l (.lst (xs ++ [V.ref p]))) t = some (.tup ys) := fun t ys h => by
            rw [upd_ne (fun e => by rw [e, eL6] at h; cases h)]; exact h
          refine ⟨st9, _, rs ++ [(ra, rb)], _, _, rfl, fun b o nb eb => ?_, by rw [upd_ne ndl]; exact hd10, hg9, tK _ _ eT6, tK _ _ eC6, upd_same, (hP6.mono tK).app ?_, ?_, ?_, fun r hr => ?_⟩
          · rw [upd_ne (fun e => by rw [e, nHl] at eb; cases eb)]; exact kI _ _ nb eb
          · obtain ⟨t, e, h⟩ := hPr
            exact ⟨t, e, tK _ _ h⟩
          · refine List.nodup_append.mpr ⟨hN, (by simp), fun a ha b hb => ?_⟩
            rw [List.mem_singleton.mp hb]
            exact fun e => c (e ▸ ha)
          · rw [List.length_append, List.length_singleton]; omega
          · rcases List.mem_append.mp hr with hr | hr
            · exact hM r hr
            · rw [List.mem_singleton.mp hr]; exact ⟨ra0, ra1, rb0, rb1⟩
    rintro σ H' ⟨st7, xs, rs, v2, v7, rfl, kG, hd7, hg7, eT4, eC4, eL4, hP, hN, hlen, hM⟩
    have hl10 : rs.length ≤ 10 := by omega
    -- the answer
    refine ⟨_, rfl, _, rfl, by show 2 ≤ sizeLine; decide, fun l2 hl2 => ?_⟩
    have s2 : Same H' (upd H' l2 (.lst [.int 3, .int 10])) := same_upd hl2
    have n2 : l2 ≠ d := (ne_of_none hd7 hl2).symm
    refine ⟨_, rfl, d, 2, st7, rfl, s2 _ _ hd7, hg7, by decide, by decide, fun H5 st8 r8 k8 hd8 hg8 r80 r81 => ?_⟩
    have e2 : H5 l2 = some (.lst (([3, 10] : List Int).map V.int)) := k8 _ _ n2 upd_same
    obtain ⟨z2, hz2, a2⟩ := at_mem (L := [3, 10]) r80 (by simpa using r81)
    have hz3 : 1 ≤ z2 ∧ z2 ≤ 10 := by simp at hz2; omega
    refine ⟨l2, _, r8, _, rfl, rfl, SqL.of e2, a2, d, z2, st8, rfl, hd8, hg8, hz3.1, by omega, fun H6 st9 keys k9 hd9 hg9 ky0 ky1 => ?_⟩
    have k10 : Kp d H' H6 := (sKp s2).trans (k8.trans k9)
    have t10 := kp_tup k10 hd7
    have hP6 := hP.mono t10
    have eL6 := k10 _ _ ndl.symm eL4
    refine ⟨_, rfl, _, rfl, l, xs, kf H6, rfl, SqL.of eL6, fun x hx => hP6.mem x hx, fun ys p hs hst hp => ?_⟩
    refine ⟨p, ys, rfl, .inl ⟨SqL.of upd_same, fun aR haR => ?_⟩⟩
    have s3 := same_upd (o := .lst ys) hp
    have s4 := same_upd (o := .tup ys) haR
    refine ⟨by show 4 ≤ sizeLine; decide, fun a ha => ?_⟩
    have s5 := same_upd (o := .tup [V.ref aT, V.int keys, V.ref aC, V.ref aR]) ha
    have perm : ys.Perm xs := hst.perm
    have hPy : Prs H6 ys (ys.map (kf H6)) := Prs.of_mem fun y hy => hP6.mem y (perm.mem_iff.mp hy)
    have permR : (ys.map (kf H6)).Perm rs := by
      have := perm.map (kf H6)
      rw [hP6.kf] at this
      exact this
    have s6 := (s3.trans s4).trans s5
    refine k _ st9 a ts keys cs (ys.map (kf H6)) ((kG.trans k10).trans (sKp s6)) (s6 _ _ hd9) hg9 ⟨⟨aT, aC, aR, ys, upd_same, s6 _ _ (t10 _ _ eT4), s6 _ _ (t10 _ _ eC4), s5 _ _ upd_same, hPy.mono fun t zs h => s6 _ _ h⟩⟩ ?_
    refine ⟨hT, hl6.1, hl6.2, ky0, by omega, hCP, fun c hc => ⟨(hCM c hc).1, ?_⟩, ?_, fun r hr => hM r (permR.mem_iff.mp hr), by rw [permR.length_eq]; exact hl10⟩
    · have := (hCM c hc).2; omega
    · refine sorted_plt ?_ (permR.nodup_iff.mpr hN)
      rw [List.pairwise_map]
      exact hs
end
end Dk

set_option Elab.async false
set_option linter.all false
set_option maxRecDepth 100000
set_option maxHeartbeats 4000000
/-! enumerate(tuple) -/
namespace Dk
open PySem PySem.Spec PyProof.Rows L2
theorem meets_enumB {v : Value} {o : Obj} {H : Heap → Prop} (B : Begins v o H) :
    Meets (Builtin.«enumerate.__new__» ⟨[.type "enumerate", v], []⟩) (fun _ R s => H s.heap ∧
      R (.ok (.ret (.ref (s.heap.push o).objs.size))) { s with heap := (s.heap.push o).push { cls := .type "enumerate", data := .fields #[.none, .bool false, .ref s.heap.objs.size, rawInt 0, .none, .none] } }) :=
  .of_wp fun prog w A R s h => by
    obtain ⟨hh, hR⟩ := h
    cases s with
    | mk h0 g0 d0 t0 o0 =>
      have _ := sub_enumerate
      have begin_ {A1 : Around} {E1 Q1 : Value → Shared → Prop} (q : Q1 (.ref h0.objs.size) ⟨h0.push o, g0, d0, t0, o0⟩) : wpAny (model prog w) A1 (pyIter v) Q1 E1 ⟨h0, g0, d0, t0, o0⟩ := B.iter prog w _ _ _ _ hh q
      (wp_walk using begin_); refine wpAny_stack_any fun _ => ?_
      refine wpAny_pure ?_
      split
      next c _ _ _ _ _ => cases (c == Value.type "enumerate") <;> (wp_walk using begin_) <;> exact ⟨_, rfl, hR⟩
      next => (wp_walk using begin_); exact ⟨_, rfl, hR⟩
section
variable {prog : Program} {w : World} {A : Around} {E : Value → Shared → Prop} {s : Shared}
theorem enum_beginsB {v : Value} {o : Obj} {H : Heap → Prop} {Q : Value → Shared → Prop} (B : Begins v o H) (h1 : H s.heap)
    (h : ∀ h', IsEnum h' (s.heap.objs.size + 1) s.heap.objs.size 0 .none → h'.get? s.heap.objs.size = some o → h'.objs.size = s.heap.objs.size + 2 →
      (∀ b o, s.heap.get? b = some o → h'.get? b = some o) → Q (.ref (s.heap.objs.size + 1)) { s with heap := h' }) :
    wpAny (model prog w) A (call (.type "enumerate") [v]) Q E s := by
  refine callType_new F.called_enumerate (by decide) (F.typeCall_enumerate_1 _) (F.newCall_enumerate_1 _) (fun obj => F.args_object_init_2 obj _) F.entry_enumerate_new
    (meets_enumB B) ⟨h1, ?_⟩
  have hzz : (s.heap.push o).objs.size = s.heap.objs.size + 1 := Heap.size_push ..
  show _ ∧ _
  rw [hzz]
  have he : IsEnum ((s.heap.push o).push { cls := .type "enumerate", data := .fields #[.none, .bool false, .ref s.heap.objs.size, rawInt 0, .none, .none] }) (s.heap.objs.size + 1) s.heap.objs.size 0 .none := by
    have := Heap.get?_push_size (s.heap.push o) (o := { cls := .type "enumerate", data := .fields #[.none, .bool false, .ref s.heap.objs.size, rawInt 0, .none, .none] }) rfl
    rw [hzz] at this; exact this
  refine ⟨⟨_, he, rfl⟩, h _ he (Heap.get?_push_of_some _ (Heap.get?_push_size _ B.free)) (by rw [Heap.size_push, hzz]) fun b o x => Heap.get?_push_of_some _ (Heap.get?_push_of_some _ x)⟩
end
/-- the tuple at a, each item in a nw pair -/
def IteT (K : PySem.W.Frag) (a : Addr) : It :=
  ⟨fun i H => ∃ (xs : List V) (x : V), SqT K H a xs ∧ xs[i]? = some x, fun i H v H' => ∃ T x, v = .ref T ∧ H T = none ∧ H' = upd H T (.tup [.int (i : Nat), x]) ∧ ∀ xs, SqT K H a xs → xs[i]? = some x, fun i H => ∃ xs : List V, SqT K H a xs ∧ xs.length = i⟩
theorem turn_enumT {P : Program} {w : World} {K : PySem.W.Frag} {elts : List Expr} {kk : Nat} {tpos : Pos} (a e it : Addr) :
    Turn P w K (.Tuple elts kk tpos) (IteT K a) [e, it] e (fun i h => (∃ was, IsEnum h e it ((i : Nat) : Int) was) ∧ h.IsTupleIter it a i ∧ e ≠ it ∧ a ≠ it ∧ a ≠ e) where
  mem := by simp
  obj := fun i h stt b hb => by
    obtain ⟨⟨was, he⟩, ⟨o, hob, hcl, hd⟩, _⟩ := stt
    have ee : b = e ∨ b = it := by simpa using hb
    rcases ee with z | z
    · rw [z]; exact ⟨_, he, fun v q => nomatch q⟩
    · rw [z]; exact ⟨o, hob, fun v q => by rw [hd] at q; cases q⟩
  keep := fun i h h' stt k => let ⟨⟨was, he⟩, hi, neq⟩ := stt; ⟨⟨was, k e (by simp) _ he⟩, hi.at fun o q => k it (by simp) o q, neq⟩
  item := by
    intro X hP hw hK hcl i pins s σ H E I hf stt hg
    subst hP hw hK
    obtain ⟨⟨was, he⟩, hit, neq, hai, hae⟩ := stt
    obtain ⟨xs, x, hq, hx⟩ := hg
    obtain ⟨its, rv, p, hzz⟩ := I.tuple hq
    obtain ⟨u, hu, ru⟩ := rv.get hx
    have elt : e < s.heap.objs.size := Heap.lt_size he
    have ilt : it < s.heap.objs.size := by obtain ⟨_, q, _⟩ := hit; exact Heap.lt_size q
    have hlen : i < its.toArray.size := by
      have h1 := (List.getElem?_eq_some_iff.mp hu).1
      simpa using h1
    refine wpAny_pyNext_enum_itemC (n := its.toArray.size) (i := i) (Draws.tuple (A := X.A.in1) (show X.A.in1.handled = none from I.ok.hd hcl) it a hai its.toArray) he ⟨hit, p⟩ hlen neq (by simp; exact ⟨neq, fun z => hae z.symm⟩) fun y h' tk hP hob hst hT hsize hkeep => ?_
    have ey : y = u := by
      have h1 : its.toArray[i]? = some u := by simpa using hu
      rw [h1] at hP
      exact (Option.some.inj hP).symm
    subst ey
    refine ⟨_, rfl, wpAny_letOwnedTupleGo_enum (s := { s with heap := h', toks := tk + 1 }) hob fun h'' he' same2 => ?_⟩
    have hT2 : h''.get? s.heap.objs.size = some { cls := .type "tuple", data := .seq #[.int i tk, y] } := (same2.2 _ (Nat.ne_of_gt elt)).trans hT
    have nw : ObjOk X.prog X.w (upd H s.heap.objs.size (.tup [.int (i : Nat), x])) h'' s.heap.objs.size (.tup [.int (i : Nat), x]) :=
      ⟨by show 2 ≤ sizeLine; decide, [.int i tk, y], .cons ⟨_, rfl⟩ (.cons ru .nil), ⟨_, hT2, rfl, _, rfl⟩⟩
    have J1 : Inv X pins σ (upd H s.heap.objs.size (.tup [.int (i : Nat), x])) { s with heap := h'', toks := tk + 1 } :=
      I.turnedNew (ch := [e, it]) (fun b ob hb q => (same2.2 b (fun z => hb (by simp [z]))).trans (hkeep b ob (fun z => hb (by simp [z])) (fun z => hb (by simp [z])) q)) hf (Nat.le_refl _) nw
    refine ⟨.ref s.heap.objs.size, _, J1, rfl, ⟨_, x, rfl, I.hok.fresh (Nat.le_refl _), rfl, fun ys hy => by rw [I.tuple_inj hy hq]; exact hx⟩, ⟨⟨y, ?_⟩, hst.1.at fun o q => (same2.2 it (Ne.symm neq)).trans q, neq, hai, hae⟩, fun b hb => ?_⟩
    · have esum : ((i + 1 : Nat) : Int) = (i : Int) + 1 := by omega
      rw [esum]; exact he'
    · have hlow : b < s.heap.objs.size := by
        have ee : b = e ∨ b = it := by simpa using hb
        rcases ee with z | z
        · rw [z]; exact elt
        · rw [z]; exact ilt
      rw [upd_ne (Nat.ne_of_lt hlow)]
      exact (hf b hb).1
  done := by
    intro X hP hw hK hcl i pins s σ H E I hf stt hg
    subst hP hw hK
    obtain ⟨⟨was, he⟩, hit, neq, hai, hae⟩ := stt
    obtain ⟨xs, hq, hx⟩ := hg
    obtain ⟨its, rv, p, hzz⟩ := I.tuple hq
    obtain ⟨k0, k1, k2, k3, k4, k5⟩ := hf it (by simp)
    have hl : its.toArray.size = i := by have := rv.length; simp; omega
    have D := Draws.tuple (prog := X.prog) (w := X.w) (A := X.A.in1) (I.ok.hd hcl) it a hai its.toArray
    exact wpAny_pyNext_enum_endD D he (hl ▸ ⟨hit, p⟩) fun h' eb => ⟨rfl, I.turned (t' := s.toks) (fun b o hb q => eb b o hb q) k0 k1 k3 k4 k5⟩
  self := fun A i s Q E stt h => let ⟨⟨_, he⟩, _⟩ := stt; wpAny_pyIter_enum he h
def iEnumT (K : PySem.W.Frag) (ta : TA) : TI := fun σ H R => ta σ H fun vs H1 => ∃ a xs, vs = [.ref a] ∧ SqT K H1 a xs ∧ R (IteT K a) H1
theorem pi_enumT {X : Cx} {e : Expr} {ta : TA} {p pos tpos : Pos} {elts : List Expr} {kk : Nat} (hg : Gl X "enumerate") (hm : X.mg "enumerate" = none) (ha : PA X [e] ta) (hs : starEach [e] X.env = [(false, eval e X.env)] := by rfl) :
    PI X (.Tuple elts kk tpos) (.Call (.Name "enumerate" p) [e] [] pos) (iEnumT X.K ta) := by
  refine ⟨fun pins s σ H R I h => ?_⟩
  refine Call_ (ld_blt I hg hm boot_enumerate (PyProof.Rows.callWith_type1 (thn (ha.run pos pins s σ H _ I h) fun us s1 ⟨vs, H1, J1, r1, q1⟩ => ?_) hs rfl))
  obtain ⟨a, xs, ex, hq, q⟩ := q1
  subst ex
  cases r1 with
  | cons r rr =>
    cases rr
    cases r
    obtain ⟨its, rv, p', hzz⟩ := J1.tuple hq
    have hal : a < s1.heap.objs.size := p'.lt
    refine enum_beginsB (begins_tuple a its.toArray) p' fun h' he hit hsize hkeep => wpAny_pyIter_enum he ?_
    have J2 : Inv X pins σ H1 { s1 with heap := h' } := J1.kept (t' := s1.toks) hkeep
    refine ⟨s1.heap.objs.size + 1, [s1.heap.objs.size + 1, s1.heap.objs.size], _, _, H1, rfl, J2, turn_enumT a (s1.heap.objs.size + 1) s1.heap.objs.size, ⟨⟨.none, he⟩, ⟨_, hit, rfl, rfl⟩, Nat.succ_ne_self _, Nat.ne_of_lt hal, Nat.ne_of_lt (Nat.lt_succ_of_lt hal)⟩, fun b hb => ?_, q⟩
    have ee : b = s1.heap.objs.size + 1 ∨ b = s1.heap.objs.size := by simpa using hb
    have hle : s1.heap.objs.size ≤ b := by
      rcases ee with z | z
      · rw [z]; exact Nat.le_add_right _ _
      · rw [z]; exact Nat.le_refl _
    exact J1.fpOk hle (J1.hok.fresh hle)
theorem walk_enumT {K : PySem.W.Frag} {a : Addr} {xs : List V} : Walk (IteT K a) xs.length (fun H => SqT K H a xs) (YPair (fun i => some (.int (i : Nat))) (fun i => xs[i]?)) := by
  refine ⟨fun i _ hi q => ⟨xs, xs[i], q, by simp [hi]⟩, fun _ q => ⟨xs, q, rfl⟩, fun i H v H' hi q y => ?_⟩
  obtain ⟨T, x, esum, e2, e3, e4⟩ := y
  exact ⟨T, _, x, esum, e2, e3, rfl, e4 xs q⟩
end Dk

set_option Elab.async false
set_option linter.all false
set_option maxRecDepth 100000
set_option maxHeartbeats 4000000
namespace Dk
open PySem PySem.Spec PyProof.Rows L2 TL
/-! ### what the checks say of any data -/
def tyN : PyData → String
  | .none => "NoneType"
  | .bool _ => "bool"
  | .int _ => "int"
  | .str _ => "str"
  | .list _ => "list"
  | .tuple _ => "tuple"
  | .dict _ => "dict"
theorem tyx {K : PySem.W.Frag} {H : Hp} {v : V} {d : PyData} (h : Dp K H v d) : TyX K H v (.type (tyN d)) := by
  cases h with
  | non => exact .base .non
  | bl b => exact .base (.bl b)
  | int i => exact .base (.int i)
  | str x => exact .base (.str x)
  | lst hs ha =>
    rcases hs with (e | ⟨o, e⟩) | ⟨o, its, n, hk, hc, _⟩
    · exact .base (.lst e)
    · exact .base (.frz e)
    · exact .kList hk hc
  | tup hs ha =>
    rcases hs with (e | ⟨o, e⟩) | ⟨o, its, n, hk, hc, _⟩
    · exact .base (.tup e)
    · exact .fTuple e
    · exact .kTuple hk hc
def isIntD : PyData → Bool
  | .int _ => true
  | _ => false
def isIntB : PyData → Bool
  | .int _ => true
  | .bool _ => true
  | _ => false
def isBoolD : PyData → Bool
  | .bool _ => true
  | _ => false
def isStrD : PyData → Bool
  | .str _ => true
  | _ => false
def isTupD : PyData → Bool
  | .tuple _ => true
  | _ => false
def isLstD : PyData → Bool
  | .list _ => true
  | _ => false
theorem kit_int : ∀ d : PyData, kitB (tyN d) "int" = some (isIntB d)
  | .none => (by decide +kernel : kitB "NoneType" "int" = some false)
  | .bool _ => (by decide +kernel : kitB "bool" "int" = some true)
  | .int _ => (by decide +kernel : kitB "int" "int" = some true)
  | .str _ => (by decide +kernel : kitB "str" "int" = some false)
  | .list _ => (by decide +kernel : kitB "list" "int" = some false)
  | .tuple _ => (by decide +kernel : kitB "tuple" "int" = some false)
  | .dict _ => (by decide +kernel : kitB "dict" "int" = some false)
theorem kit_bool : ∀ d : PyData, kitB (tyN d) "bool" = some (isBoolD d)
  | .none => (by decide +kernel : kitB "NoneType" "bool" = some false)
  | .bool _ => (by decide +kernel : kitB "bool" "bool" = some true)
  | .int _ => (by decide +kernel : kitB "int" "bool" = some false)
  | .str _ => (by decide +kernel : kitB "str" "bool" = some false)
  | .list _ => (by decide +kernel : kitB "list" "bool" = some false)
  | .tuple _ => (by decide +kernel : kitB "tuple" "bool" = some false)
  | .dict _ => (by decide +kernel : kitB "dict" "bool" = some false)
theorem kit_str : ∀ d : PyData, kitB (tyN d) "str" = some (isStrD d)
  | .none => (by decide +kernel : kitB "NoneType" "str" = some false)
  | .bool _ => (by decide +kernel : kitB "bool" "str" = some false)
  | .int _ => (by decide +kernel : kitB "int" "str" = some false)
  | .str _ => (by decide +kernel : kitB "str" "str" = some true)
  | .list _ => (by decide +kernel : kitB "list" "str" = some false)
  | .tuple _ => (by decide +kernel : kitB "tuple" "str" = some false)
  | .dict _ => (by decide +kernel : kitB "dict" "str" = some false)
theorem kit_tup : ∀ d : PyData, kitB (tyN d) "tuple" = some (isTupD d)
  | .none => (by decide +kernel : kitB "NoneType" "tuple" = some false)
  | .bool _ => (by decide +kernel : kitB "bool" "tuple" = some false)
  | .int _ => (by decide +kernel : kitB "int" "tuple" = some false)
  | .str _ => (by decide +kernel : kitB "str" "tuple" = some false)
  | .list _ => (by decide +kernel : kitB "list" "tuple" = some false)
  | .tuple _ => (by decide +kernel : kitB "tuple" "tuple" = some true)
  | .dict _ => (by decide +kernel : kitB "dict" "tuple" = some false)
theorem kit_lst : ∀ d : PyData, kitB (tyN d) "list" = some (isLstD d)
  | .none => (by decide +kernel : kitB "NoneType" "list" = some false)
  | .bool _ => (by decide +kernel : kitB "bool" "list" = some false)
  | .int _ => (by decide +kernel : kitB "int" "list" = some false)
  | .str _ => (by decide +kernel : kitB "str" "list" = some false)
  | .list _ => (by decide +kernel : kitB "list" "list" = some true)
  | .tuple _ => (by decide +kernel : kitB "tuple" "list" = some false)
  | .dict _ => (by decide +kernel : kitB "dict" "list" = some false)
def below (d : PyData) (lim : Int) : Bool := match d with
  | .int i => decide (0 ≤ i) && decide (i < lim)
  | _ => false
def only (w cs : Str) : Bool := (tl w).all fun c => decide (c ∈ tl cs)
def tabLens : List Int := [1, 2, 3, 4, 6, 8, 12, 24]
def hoS : Str := Str.ofString "ho"
def isTabD : PyData → Bool
  | .str t => decide ((t.length : Int) ∈ tabLens) && only t hoS
  | _ => false
def isRemD (d : PyData) (per n : Int) : Bool := match d with
  | .tuple [a, b] => below a per && below b n
  | _ => false
structure TxtF (K : PySem.W.Frag) (mg : Str → Option Value) (fII fIB fHO : Addr) (fdII fdIB fdHO : FuncData) : Prop where
  isinstance : mg "isinstance" = none
  int : mg "int" = none
  bool : mg "bool" = none
  str : mg "str" = none
  tuple : mg "tuple" = none
  all : mg "all" = none
  gII : mg "is_integer" = some (.ref fII)
  FII : Fun K "is_integer" "is_integer" sIsInt fII fdII
  bII : Binds K fdII ["value"] []
  gIB : mg "is_below" = some (.ref fIB)
  FIB : Fun K "is_below" "is_below" sIsBelow fIB fdIB
  bIB : Binds K fdIB ["value", "limit"] []
  gHO : mg "has_only" = some (.ref fHO)
  FHO : Fun K "has_only" "has_only" sHasOnly fHO fdHO
  bHO : Binds K fdHO ["word", "characters"] []
  letters : ∃ t, mg "LETTERS" = some (.str hoS t)
  lengths : ∃ a, mg "TABLE_LENGTHS" = some (.ref a) ∧ SqT K (fun _ => none) a (tabLens.map V.int)
def spIsInt (K : PySem.W.Frag) : Sp := fun vs H Q _ => ∃ (v : V) (d : PyData), vs = [v] ∧ Dp K H v d ∧ Q (.bl (isIntD d)) H
def spIsBelow (K : PySem.W.Frag) : Sp := fun vs H Q _ => ∃ (v : V) (d : PyData) (lim : Int), vs = [v, .int lim] ∧ Dp K H v d ∧ Q (.bl (below d lim)) H
def spHasOnly : Sp := fun vs H Q _ => ∃ (x cs : Str), vs = [.str x, .str cs] ∧ x.length ≤ 100000 ∧ ∀ H', Same H H' → Q (.bl (only x cs)) H'
def spIsTable (K : PySem.W.Frag) : Sp := fun vs H Q _ => ∃ (v : V) (d : PyData), vs = [v] ∧ Dp K H v d ∧ (∀ t, d = .str t → t.length ≤ 100000) ∧ ∀ H', Same H H' → Q (.bl (isTabD d)) H'
def spIsRem (K : PySem.W.Frag) : Sp := fun vs H Q _ => ∃ (v : V) (d : PyData) (per n : Int), vs = [v, .int per, .int n] ∧ Dp K H v d ∧ Q (.bl (isRemD d per n)) H
section
variable {P : Program} {w : World} {K : PySem.W.Frag} {mg : Str → Option Value} {base : Heap} {fII fIB fHO : Addr} {fdII fdIB fdHO : FuncData}
theorem scIsInt : FnScope ["value"] ["value"] (defScope sIsInt) := ⟨rfl, rfl, rfl, by decide +kernel, rfl, by decide +kernel, by decide +kernel⟩
theorem ok_isint (TF : TxtF K mg fII fIB fHO fdII fdIB fdHO) : FnOk P w K mg base CX0 1 fII fdII ["value"] (spIsInt K) := by
  refine TF.FII.ok scIsInt (fun vs H Q E h => ?_) (fun cdv A outer s H vs Q E hr h => ?_)
  · obtain ⟨v, d, rfl, _⟩ := h
    rfl
  · obtain ⟨v, d, rfl, hd, k⟩ := h
    refine ⟨_, pss_one (ps_ret (pe_and (pe_callB call_isi (by rfl) TF.isinstance (by decide +kernel) (pa_cons (pv 0) (pa_cons (pe_bltn (v := .ty "int") (by rfl) TF.int (by decide +kernel) rfl) pa_nil)))
      (pe_one (pe_not (pe_callB call_isi (by rfl) TF.isinstance (by decide +kernel) (pa_cons (pv 0) (pa_cons (pe_bltn (v := .ty "bool") (by rfl) TF.bool (by decide +kernel) rfl) pa_nil))))))), ?_⟩
    refine ⟨_, rfl, _, _, _, _, _, rfl, .ty "int", tyx hd, kit_ty (kit_int d), _, rfl, ?_⟩
    cases e : isIntB d with
    | false =>
      refine iteF ?_
      have : isIntD d = false := by cases d <;> first | rfl | cases e
      rw [← this]; exact k
    | true =>
      refine iteT ⟨_, rfl, _, _, _, _, _, rfl, .ty "bool", tyx hd, kit_ty (kit_bool d), _, rfl, ?_⟩
      have : (!isBoolD d) = isIntD d := by cases d <;> first | rfl | cases e
      rw [this]; exact k
theorem scIsBelow : FnScope ["value", "limit"] ["value", "limit"] (defScope sIsBelow) := ⟨rfl, rfl, rfl, by decide +kernel, rfl, by decide +kernel, by decide +kernel⟩
theorem ok_isbelow (TF : TxtF K mg fII fIB fHO fdII fdIB fdHO) : FnOk P w K mg base CX0 2 fIB fdIB ["value", "limit"] (spIsBelow K) := by
  have GI : FnOk P w K mg base CX0 1 fII fdII ["value"] (spIsInt K) := ok_isint TF
  refine TF.FIB.ok scIsBelow (fun vs H Q E h => ?_) (fun cdv A outer s H vs Q E hr h => ?_)
  · obtain ⟨v, d, lim, rfl, _⟩ := h
    rfl
  · obtain ⟨v, d, lim, rfl, hd, k⟩ := h
    refine ⟨_, pss_one (ps_ret (pe_and (pe_call GI hr rfl TF.gII TF.FII.kp TF.bII .nil pass0 (pa_cons (pv 0) pa_nil)) (pe_one (pe_chain op_le op_lt pe_int (pv 0) (pv 1))))), ?_⟩
    refine ⟨_, rfl, v, d, rfl, hd, _, rfl, ?_⟩
    cases hd with
    | int i =>
      refine iteT ⟨_, rfl, _, _, rfl, rfl, _, rfl, ?_⟩
      by_cases c : (0 : Int) ≤ i
      · rw [decide_eq_true c]
        refine iteT ⟨_, rfl, _, _, rfl, rfl, ?_⟩
        have e : below (.int i) lim = decide (i < lim) := by show (decide ((0 : Int) ≤ i) && decide (i < lim)) = _; rw [decide_eq_true c]; rfl
        rw [e] at k; exact k
      · rw [decide_eq_false c]
        refine iteF ?_
        have e : below (.int i) lim = false := by show (decide ((0 : Int) ≤ i) && decide (i < lim)) = _; rw [decide_eq_false c]; rfl
        rw [e] at k; exact k
    | non => exact iteF k
    | bl b => exact iteF k
    | str x => exact iteF k
    | lst hs ha => exact iteF k
    | tup hs ha => exact iteF k
theorem scHasOnly : FnScope ["word", "characters", "character"] ["word", "characters"] (defScope sHasOnly) := ⟨rfl, rfl, rfl, by decide +kernel, rfl, by decide +kernel, by decide +kernel⟩
theorem ok_hasonly (TF : TxtF K mg fII fIB fHO fdII fdIB fdHO) : FnOk P w K mg base CX0 1 fHO fdHO ["word", "characters"] spHasOnly := by
  refine TF.FHO.ok scHasOnly (fun vs H Q E h => ?_) (fun cdv A outer s H vs Q E hr h => ?_)
  · obtain ⟨x, cs, rfl, _⟩ := h
    rfl
  · obtain ⟨x, cs, rfl, hlen, k⟩ := h
    refine ⟨_, pss_one (ps_ret (pe_callB (cr_all rfl) (by rfl) TF.all (by decide +kernel) (pa_cons
        (pe_lc (own := [("character", 2)]) (g := gName 2) (by rfl) scHasOnly.nd (pi_str (pv 0)) (blkOk_by (N := ["word", "characters", "character"]) (sc := defScope sHasOnly) (by decide +kernel))
          (fun _ _ _ _ _ => pg_name (i := 2) scHasOnly.nd rfl (Or.inl rfl)) (fun _ _ _ _ _ => pts_nil)
          (fun _ _ _ _ _ => pe_cmpR op_in_sign (pv 2) (pv 1) (by rfl))) pa_nil))), ?_⟩
    refine ⟨_, rfl, x, rfl, fun D hD => lc_it walk_str
      (fun i H3 => Same H H3 ∧ H3 D = some (.lst ((((tl x).take i).map fun c => decide (c ∈ tl cs)).map V.bl)))
      ⟨same_upd hD, upd_same⟩ (fun _ _ _ _ => True.intro) ?_ ?_⟩
    · rintro i y H3 H4 hi ⟨s3, eD⟩ ⟨rfl, c, hc, rfl⟩
      have hc' : (tl x)[i]? = some c := by rw [← hc]; exact Array.getElem?_toList
      refine ⟨rfl, _, rfl, _, rfl, c, cs, rfl, rfl, _, eD, ?_, fun b o eb => ?_, ?_⟩
      · have hx : i < x.length := hi
        rw [List.length_map, List.length_map, List.length_take]
        exact Nat.lt_of_le_of_lt (Nat.le_trans (Nat.min_le_left _ _) (by omega : i ≤ 100000)) (by decide)
      · rw [upd_ne (ne_of_none eb hD)]; exact s3 _ _ eb
      · rw [upd_same, take_more hc', List.map_append, List.map_append]; rfl
    · rintro H3 ⟨s3, eD⟩
      have e : (tl x).take x.cps.size = tl x := List.take_of_length_le (by simp)
      rw [e] at eD
      refine ⟨D, _, rfl, SqL.of eD, ?_⟩
      have e2 : List.all ((tl x).map fun c => decide (c ∈ tl cs)) id = only x cs := by
        unfold only
        rw [List.all_map]; rfl
      rw [e2]
      exact k _ s3
end
end Dk

set_option Elab.async false
set_option linter.all false
set_option maxRecDepth 100000
set_option maxHeartbeats 1000000
namespace Dk
open PySem PySem.Spec PyProof.Rows L2 TL
theorem sqtK {K : PySem.W.Frag} {H : Hp} {a : Addr} {xs : List V} (h : SqT K (fun _ => none) a xs) : SqT K H a xs := by
  rcases h with (h | ⟨o, h⟩) | h
  · cases h
  · cases h
  · exact .inr h
theorem any_eqI (l : List Int) (n : Int) : inV (.int n) (l.map V.int) = decide (n ∈ l) := by
  unfold inV
  induction l with
  | nil => rfl
  | cons m l ih =>
    rw [List.map_cons, List.any_cons, ih]
    show (m == n || decide (n ∈ l)) = decide (n ∈ m :: l)
    by_cases e : m = n
    · subst e; simp
    · have e' : n ≠ m := fun q => e q.symm
      simp [e, e']
theorem flat_ints (l : List Int) : (l.map V.int).all flatV = true := by
  induction l with
  | nil => rfl
  | cons m l ih => rw [List.map_cons, List.all_cons, ih]; rfl
/-- x < y, two ints or two tuples of ints -/
def Lt2 (K : PySem.W.Frag) (H : Hp) (x y : V) (b : Bool) : Prop :=
  (∃ m n : Int, x = .int m ∧ y = .int n ∧ b = decide (m < n)) ∨ (∃ (a c : Addr) (ns ms : List Int), x = .ref a ∧ y = .ref c ∧ SqT K H a (ns.map V.int) ∧ SqT K H c (ms.map V.int) ∧ b = HT.lexLt ns ms)
def rLt2 (K : PySem.W.Frag) : R2 := fun x y H Q => ∃ b, Lt2 K H x y b ∧ Q (.bl b) H
theorem op_lt2 {X : Cx} (hu : X.A.units < cLine) : OpR X (compareOp .Lt) (rLt2 X.K) := by
  intro pins s σ H x y v u Q I rx ry h
  obtain ⟨b, h | h, q⟩ := h
  · obtain ⟨m, n, rfl, rfl, rfl⟩ := h
    exact op_lt pins s σ H _ _ v u Q I rx ry ⟨m, n, rfl, rfl, q⟩
  · obtain ⟨a, c, ns, ms, rfl, rfl, h1, h2, rfl⟩ := h
    exact op_ltT hu pins s σ H _ _ v u Q I rx ry ⟨a, c, ns, ms, rfl, rfl, h1, h2, q⟩
def spAsc (K : PySem.W.Frag) : Sp := fun vs H Q _ => ∃ (a : Addr) (xs : List V) (i : Nat) (b : Bool), vs = [.ref a, .int (i : Int)] ∧ SqT K H a xs ∧ i < xs.length ∧ (i = 0 → b = true) ∧
  (∀ j, i = j + 1 → ∃ x y, xs[j]? = some x ∧ xs[j + 1]? = some y ∧ Lt2 K H x y b) ∧ Q (.bl b) H
section
variable {P : Program} {w : World} {K : PySem.W.Frag} {mg : Str → Option Value} {base : Heap} {fII fIB fHO : Addr} {fdII fdIB fdHO : FuncData}
theorem scIsTable : FnScope ["table"] ["table"] (defScope sIsTable) := ⟨rfl, rfl, rfl, by decide +kernel, rfl, by decide +kernel, by decide +kernel⟩
theorem ok_istable {f : Addr} {fd : FuncData} (F : Fun K "is_table" "is_table" sIsTable f fd) (T : TxtA mg) (TF : TxtF K mg fII fIB fHO fdII fdIB fdHO) : FnOk P w K mg base CX0 2 f fd ["table"] (spIsTable K) := by
  have GH : FnOk P w K mg base CX0 1 fHO fdHO ["word", "characters"] spHasOnly := ok_hasonly TF
  obtain ⟨tL, eL⟩ := TF.letters
  obtain ⟨aT, eT, hT⟩ := TF.lengths
  refine F.ok scIsTable (fun vs H Q E h => ?_) (fun cdv A outer s H vs Q E hr h => ?_)
  · obtain ⟨v, d, rfl, _⟩ := h
    rfl
  · obtain ⟨v, d, rfl, hd, hz, k⟩ := h
    refine ⟨_, pss_one (ps_ret (pe_and (pe_callB call_isi (by rfl) TF.isinstance (by decide +kernel) (pa_cons (pv 0) (pa_cons (pe_bltn (v := .ty "str") (by rfl) TF.str (by decide +kernel) rfl) pa_nil)))
      (pe_and (pe_cmpR op_in_seq (pe_callB call_len_str (by rfl) T.len PySem.boot_len (pa_cons (pv 0) pa_nil)) (pe_glob (v := .ref aT) rfl eT rfl) (by rfl))
      (pe_one (pe_call GH hr rfl TF.gHO TF.FHO.kp TF.bHO .nil pass0 (pa_cons (pv 0) (pa_cons (pe_glob (v := .str hoS) rfl eL ⟨_, rfl⟩) pa_nil))))))), ?_⟩
    refine ⟨_, rfl, _, _, _, _, _, rfl, .ty "str", tyx hd, kit_ty (kit_str d), _, rfl, ?_⟩
    cases hd with
    | str x =>
      have hx := hz x rfl
      refine iteT ⟨_, rfl, _, rfl, Nat.le_trans hx (by decide), aT, _, rfl, .inr (sqtK hT), rfl, flat_ints _, _, rfl, ?_⟩
      show (if inV (.int (x.length : Int)) (tabLens.map V.int) = true then _ else _)
      rw [any_eqI]
      by_cases c : (x.length : Int) ∈ tabLens
      · rw [decide_eq_true c]
        refine iteT ⟨_, rfl, x, hoS, rfl, hx, fun H' s' => ?_⟩
        have e : isTabD (.str x) = only x hoS := by show (decide _ && _) = _; rw [decide_eq_true c]; rfl
        rw [← e]; exact k _ s'
      · rw [decide_eq_false c]
        refine iteF ?_
        have e : isTabD (.str x) = false := by show (decide _ && _) = _; rw [decide_eq_false c]; rfl
        have := k H (Same.refl H)
        rw [e] at this; exact this
    | non => exact iteF (k H (Same.refl H))
    | bl b => exact iteF (k H (Same.refl H))
    | int i => exact iteF (k H (Same.refl H))
    | lst hs ha => exact iteF (k H (Same.refl H))
    | tup hs ha => exact iteF (k H (Same.refl H))
theorem scIsRem : FnScope ["reminder", "period", "persons"] ["reminder", "period", "persons"] (defScope sIsRem) := ⟨rfl, rfl, rfl, by decide +kernel, rfl, by decide +kernel, by decide +kernel⟩
theorem ok_isrem {f : Addr} {fd : FuncData} (F : Fun K "is_reminder" "is_reminder" sIsRem f fd) (T : TxtA mg) (TF : TxtF K mg fII fIB fHO fdII fdIB fdHO) : FnOk P w K mg base CX0 3 f fd ["reminder", "period", "persons"] (spIsRem K) := by
  have GB : FnOk P w K mg base CX0 2 fIB fdIB ["value", "limit"] (spIsBelow K) := ok_isbelow TF
  refine F.ok scIsRem (fun vs H Q E h => ?_) (fun cdv A outer s H vs Q E hr h => ?_)
  · obtain ⟨v, d, per, n, rfl, _⟩ := h
    rfl
  · obtain ⟨v, d, per, n, rfl, hd, k⟩ := h
    refine ⟨_, pss_cons (ps_if (PW.pt (pw_or (pt_not (pt_val (pe_callB call_isi (by rfl) TF.isinstance (by decide +kernel) (pa_cons (pv 0) (pa_cons (pe_bltn (v := .ty "tuple") (by rfl) TF.tuple (by decide +kernel) rfl) pa_nil)))))
        (pw_or1 (pt_cmpR op_ne (pe_callB call_len_seq (by rfl) T.len PySem.boot_len (pa_cons (pv 0) pa_nil)) pe_int (nomark _))))) (pss_one (ps_ret pe_bl)) pss_nil)
      (pss_one (ps_ret (pe_and (pe_call GB hr rfl TF.gIB TF.FIB.kp TF.bIB .nil pass0 (pa_cons (pe_ix ix_tup (pv 0) pe_int (fun _ _ => rfl)) (pa_cons (pv 1) pa_nil)))
        (pe_one (pe_call GB hr rfl TF.gIB TF.FIB.kp TF.bIB .nil pass0 (pa_cons (pe_ix ix_tup (pv 0) pe_int (fun _ _ => rfl)) (pa_cons (pv 2) pa_nil))))))), ?_⟩
    refine ⟨_, rfl, _, _, _, _, _, rfl, .ty "tuple", tyx hd, kit_ty (kit_tup d), _, rfl, ?_⟩
    cases hd with
    | str x => exact iteT (iteT k)
    | non => exact iteT (iteT k)
    | bl b => exact iteT (iteT k)
    | int i => exact iteT (iteT k)
    | lst hs ha => exact iteT (iteT k)
    | @tup a xs ds hs ha =>
      refine iteF ⟨_, rfl, a, xs, rfl, .inr hs, rfl, _, rfl, ?_⟩
      cases ha with
      | nil => exact iteT k
      | cons h1 ha =>
        rename_i v1 vs1 d1 ds1
        cases ha with
        | nil => exact iteT k
        | cons h2 ha =>
          rename_i v2 vs2 d2 ds2
          cases ha with
          | nil =>
            refine iteF ?_
            refine ⟨_, rfl, a, _, 0, v1, rfl, rfl, hs, at0, _, rfl, v1, d1, per, rfl, h1, _, rfl, ?_⟩
            have e : isRemD (.tuple [d1, d2]) per n = (Dk.below d1 per && Dk.below d2 n) := rfl
            rw [e] at k
            cases c : Dk.below d1 per with
            | false => rw [c] at k; exact iteF k
            | true =>
              rw [c] at k
              exact iteT ⟨_, rfl, a, _, 1, v2, rfl, rfl, hs, at1, _, rfl, v2, d2, n, rfl, h2, k⟩
          | cons h3 ha =>
            rename_i v3 vs3 d3 ds3
            have e : (!decide (V.int (((v1 :: v2 :: v3 :: vs3).length : Nat) : Int) = V.int 2)) = true := by
              have : ¬ V.int (((v1 :: v2 :: v3 :: vs3).length : Nat) : Int) = V.int 2 := fun q => by
                have := V.int.inj q
                simp only [List.length_cons] at this
                omega
              rw [decide_eq_false this]; rfl
            show (if (!decide (V.int (((v1 :: v2 :: v3 :: vs3).length : Nat) : Int) = V.int 2)) = true then _ else _)
            rw [e]
            exact iteT k
theorem scAsc : FnScope ["items", "index"] ["items", "index"] (defScope sAsc) := ⟨rfl, rfl, rfl, by decide +kernel, rfl, by decide +kernel, by decide +kernel⟩
theorem ok_asc {f : Addr} {fd : FuncData} (F : Fun K "is_ascending_at" "is_ascending_at" sAsc f fd) : FnOk P w K mg base CX0 1 f fd ["items", "index"] (spAsc K) := by
  refine F.ok scAsc (fun vs H Q E h => ?_) (fun cdv A outer s H vs Q E hr h => ?_)
  · obtain ⟨a, xs, i, b, rfl, _⟩ := h
    rfl
  · obtain ⟨a, xs, i, b, rfl, hs, hi, h0, hj, k⟩ := h
    refine ⟨_, pss_one (ps_ret (pe_or (pe_cmpR op_eq (pv 1) pe_int (nomark _)) (pe_one (pe_cmpR (op_lt2 hr.units0) (pe_ix ix_tup (pv 0) (pe_op op_sub (pv 1) pe_int) (fun _ _ => rfl)) (pe_ix ix_tup (pv 0) (pv 1) (fun _ _ => rfl)) (nomark _))))), ?_⟩
    refine ⟨_, rfl, rfl, _, rfl, ?_⟩
    cases i with
    | zero =>
      refine ite2 (fun _ => ?_) (fun c => absurd (decide_eq_true rfl) c)
      rw [← h0 rfl]; exact k
    | succ j =>
      obtain ⟨x, y, ex, ey, hl⟩ := hj j rfl
      refine ite2 (fun c => ?_) (fun _ => ?_)
      · have := of_decide_eq_true c
        cases this
      · refine ⟨_, rfl, _, rfl, _, _, rfl, rfl, a, xs, _, x, rfl, rfl, hs, ?_, _, rfl, _, rfl, a, xs, _, y, rfl, rfl, hs, atI_nat ey, b, hl, k⟩
        have e : ((j + 1 : Nat) : Int) - 1 = (j : Int) := by omega
        rw [e]; exact atI_nat ex
end
end Dk

set_option Elab.async false
set_option linter.all false
set_option maxRecDepth 100000
set_option maxHeartbeats 1000000
namespace Dk
open PySem PySem.Spec PyProof.Rows L2 TL
mutual
theorem dpSame {K : PySem.W.Frag} {H H' : Hp} (k : Same H H') : ∀ (d : PyData) (v : V), Dp K H v d → Dp K H' v d
  | .none, _, h => by cases h; exact .non
  | .bool b, _, h => by cases h; exact .bl b
  | .int i, _, h => by cases h; exact .int i
  | .str x, _, h => by cases h; exact .str x
  | .list ds, _, h => by
    cases h with
    | lst hs ha => exact .lst (k.seq hs) (dpAllSame k ds _ ha)
  | .tuple ds, _, h => by
    cases h with
    | tup hs ha => exact .tup (sSqT k hs) (dpAllSame k ds _ ha)
  | .dict _, _, h => by cases h
theorem dpAllSame {K : PySem.W.Frag} {H H' : Hp} (k : Same H H') : ∀ (ds : List PyData) (vs : List V), DpAll K H vs ds → DpAll K H' vs ds
  | [], _, h => by cases h; exact .nil
  | d :: ds, _, h => by
    cases h with
    | cons h1 h2 => exact .cons (dpSame k d _ h1) (dpAllSame k ds _ h2)
end
theorem dpAll_len {K : PySem.W.Frag} {H : Hp} : ∀ {vs : List V} {ds : List PyData}, DpAll K H vs ds → vs.length = ds.length
  | [], [], .nil => rfl
  | _ :: _, _ :: _, .cons _ h => congrArg Nat.succ (dpAll_len h)
theorem dpAll_get {K : PySem.W.Frag} {H : Hp} : ∀ {vs : List V} {ds : List PyData} {i : Nat} {x : V}, DpAll K H vs ds → vs[i]? = some x → ∃ d, ds[i]? = some d ∧ Dp K H x d
  | [], [], _, _, .nil, e => by simp at e
  | _ :: _, _ :: _, 0, _, .cons h _, e => by
    simp at e; subst e; exact ⟨_, rfl, h⟩
  | _ :: _, _ :: _, i + 1, _, .cons _ h, e => by
    obtain ⟨d, e1, e2⟩ := dpAll_get (i := i) h (by simpa using e)
    exact ⟨d, by simpa using e1, e2⟩
/-! ### errors of one's own -/
abbrev ihFields (part : Str) (i : Int) : List (Str × V) := [("index", .int i), ("part", .str part)]
def Raised (C : Addr) (E : XK) (H : Hp) (part : Str) (i : Int) : Prop := ∀ (H' : Hp) (d : Addr), Same H H' → H d = none → H' d = some (.xd (ihFields part i)) → E (.ref C) (some d) H'
theorem Raised.mono {C : Addr} {E : XK} {H H1 : Hp} {part : Str} {i : Int} (h : Raised C E H part i) (s : Same H H1) : Raised C E H1 part i := fun H' d s2 n e => h H' d (s.trans s2) (s.free n) e
abbrev sIHInit : Stmt := inClass (top 4) 0
abbrev sTFInit : Stmt := inClass (top 11) 0
structure TxtIH (K : PySem.W.Frag) (mg : Str → Option Value) (C fI : Addr) (fdI : FuncData) : Prop where
  gC : mg "InvalidHouse" = some (.ref C)
  O : OexC K C
  iC : PySem.W.findIn K (.ref C) "__init__" = some (some (.ref fI))
  tI : PySem.W.typeIn K (.ref fI) = some (.type "function")
  F : Fun K "__init__" "InvalidHouse.__init__" sIHInit fI fdI
  b : Binds K fdI ["self", "part", "index"] []
  nP : PySem.W.findIn K (.ref C) "part" = some none
  nI : PySem.W.findIn K (.ref C) "index" = some none
def spIHInit (C : Addr) : Sp := fun vs H Q _ => ∃ (a : Addr) (p i : V), vs = [.ref a, p, i] ∧ H a = some (exo a C none) ∧
  ∀ d, H d = none → d ≠ a → Q .non (upd (upd (upd H d (exd d [("part", p)])) a (exo a C (some d))) d (exd d [("index", i), ("part", p)]))
section
variable {P : Program} {w : World} {K : PySem.W.Frag} {mg : Str → Option Value} {base : Heap} {C fI : Addr} {fdI : FuncData}
theorem scIHInit : FnScope ["self", "part", "index"] ["self", "part", "index"] (defScope sIHInit) := ⟨rfl, rfl, rfl, by decide +kernel, rfl, by decide +kernel, by decide +kernel⟩
theorem ok_ihinit (TI : TxtIH K mg C fI fdI) : FnOk P w K mg base CX0 1 fI fdI ["self", "part", "index"] (spIHInit C) := by
  refine TI.F.ok scIHInit (fun vs H Q E h => ?_) (fun cdv A outer s H vs Q E hr h => ?_)
  · obtain ⟨a, p, i, rfl, _⟩ := h
    rfl
  · obtain ⟨a, p, i, rfl, ha, k⟩ := h
    refine ⟨_, pss_cons (ps_ost (pv 0) (pv 1)) (pss_one (ps_ost (pv 0) (pv 2))), ?_⟩
    refine ⟨_, rfl, _, rfl, a, C, rfl, TI.O, TI.nP, .inl ⟨ha, fun d hd nd => ?_⟩⟩
    refine ⟨_, rfl, _, rfl, a, C, rfl, TI.O, TI.nI, .inr ⟨d, [("part", p)], upd_same, ?_, by simp, ?_⟩⟩
    · rw [upd_ne nd]; exact upd_same
    · exact k d hd nd
/-- the reading of raise InvalidHouse(part, i), from what is wanted of it -/
theorem raise_ih {H : Hp} {E : XK} {part : Str} {i : Int} (k : Raised C E H part i) :
    ([V.str part, V.int i] : List V).length ≤ 1000 ∧ ∀ a, H a = none → spIHInit C (.ref a :: ([V.str part, V.int i] ++ [])) (upd H a (exo a C none))
      (fun v H2 => v = .non ∧ ∃ (d : Addr) (fs : List (Str × V)), H2 a = some (exo a C (some d)) ∧ H2 d = some (exd d fs) ∧ H d = none ∧ E (.ref C) (some d) (upd (del H2 a) d (.xd fs))) (fun _ _ _ => False) := by
  refine ⟨by simp, fun a hn => ⟨a, _, _, rfl, upd_same, fun d hd nd => ⟨rfl, d, _, ?_, upd_same, ?_, ?_⟩⟩⟩
  · rw [upd_ne nd.symm]; exact upd_same
  · rw [upd_ne nd] at hd; exact hd
  · rw [upd_ne nd] at hd
    refine k _ d (fun b o e => ?_) hd upd_same
    have nb : b ≠ a := ne_of_none e hn
    have nd' : b ≠ d := ne_of_none e hd
    rw [upd_ne nd', del_ne nb, upd_ne nd', upd_ne nb, upd_ne nd', upd_ne nb]
    exact e
end
/-! ### the first bad item -/
def bad1 (p : Nat → PyData → Bool) : Nat → List PyData → Option Nat
  | _, [] => none
  | i, d :: ds => if p i d then some i else bad1 p (i + 1) ds
theorem bad1_step {p : Nat → PyData → Bool} {ds : List PyData} {i : Nat} {d : PyData} (h : ds[i]? = some d) : bad1 p i (ds.drop i) = if p i d then some i else bad1 p (i + 1) (ds.drop (i + 1)) := by
  have hi : i < ds.length := (List.getElem?_eq_some_iff.mp h).1
  have e : ds.drop i = d :: ds.drop (i + 1) := by
    rw [List.drop_eq_getElem_cons hi]
    congr 1
    have := List.getElem?_eq_getElem hi
    rw [h] at this
    exact (Option.some.inj this).symm
  rw [e]; rfl
theorem bad1_end {p : Nat → PyData → Bool} {ds : List PyData} : bad1 p ds.length (ds.drop ds.length) = none := by
  rw [List.drop_length]; rfl
def chkTabs : PyData → Option Nat
  | .tuple [] => some 0
  | .tuple (d :: ds) => bad1 (fun i t => i == 6 || !isTabD t) 0 (d :: ds)
  | _ => some 0
def chkKeys (d : PyData) : Option Nat := if below d 10 then none else some 0
def intOf : PyData → Int
  | .int i => i
  | _ => 0
def prOf : PyData → Pr
  | .tuple [.int i, .int j] => (i, j)
  | _ => (0, 0)
/-- the item before, less -/
def ascI (ds : List PyData) (i : Nat) : Bool := match i with
  | 0 => true
  | j + 1 => decide (intOf (ds.getD j .none) < intOf (ds.getD (j + 1) .none))
def ascP (ds : List PyData) (i : Nat) : Bool := match i with
  | 0 => true
  | j + 1 => HT.lexLt [(prOf (ds.getD j .none)).1, (prOf (ds.getD j .none)).2] [(prOf (ds.getD (j + 1) .none)).1, (prOf (ds.getD (j + 1) .none)).2]
def chkCareful (d : PyData) (n : Int) : Option Nat := match d with
  | .tuple ds => bad1 (fun i x => !below x n || !ascI ds i) 0 ds
  | _ => some 0
def chkRem (d : PyData) (per n : Int) : Option Nat := match d with
  | .tuple ds => bad1 (fun i x => i == 10 || !isRemD x per n || !ascP ds i) 0 ds
  | _ => some 0
end Dk

set_option Elab.async false
set_option linter.all false
set_option maxRecDepth 100000
set_option maxHeartbeats 1000000
namespace Dk
open PySem PySem.Spec PyProof.Rows L2 TL
structure TxtI (K : PySem.W.Frag) (mg : Str → Option Value) (fIT fIR fAs : Addr) (fdIT fdIR fdAs : FuncData) : Prop where
  enumerate : mg "enumerate" = none
  most : ∃ t, mg "MOST_PERSONS" = some (.int 6 t)
  keys : ∃ t, mg "MOST_KEYS" = some (.int 9 t)
  rems : ∃ t, mg "MOST_REMINDERS" = some (.int 10 t)
  gIT : mg "is_table" = some (.ref fIT)
  FIT : Fun K "is_table" "is_table" sIsTable fIT fdIT
  bIT : Binds K fdIT ["table"] []
  gIR : mg "is_reminder" = some (.ref fIR)
  FIR : Fun K "is_reminder" "is_reminder" sIsRem fIR fdIR
  bIR : Binds K fdIR ["reminder", "period", "persons"] []
  gAs : mg "is_ascending_at" = some (.ref fAs)
  FAs : Fun K "is_ascending_at" "is_ascending_at" sAsc fAs fdAs
  bAs : Binds K fdAs ["items", "index"] []
def spChkKeys (K : PySem.W.Frag) (C : Addr) : Sp := fun vs H Q E => ∃ (v : V) (d : PyData), vs = [v] ∧ Dp K H v d ∧ (chkKeys d = none → Q .non H) ∧ (chkKeys d = some 0 → Raised C E H "keys" 0)
def SmallS (d : PyData) : Prop := match d with
  | .str t => t.length ≤ 100000
  | _ => True
def spChkTabs (K : PySem.W.Frag) (C : Addr) : Sp := fun vs H Q E => ∃ (v : V) (d : PyData), vs = [v] ∧ Dp K H v d ∧ (∀ ds, d = .tuple ds → ∀ x ∈ ds, SmallS x) ∧
  (chkTabs d = none → ∀ H', Same H H' → Q .non H') ∧ (∀ i, chkTabs d = some i → Raised C E H "tables" (i : Int))
section
variable {P : Program} {w : World} {K : PySem.W.Frag} {mg : Str → Option Value} {base : Heap} {C fI : Addr} {fdI : FuncData} {fII fIB fHO : Addr} {fdII fdIB fdHO : FuncData} {fIT fIR fAs : Addr} {fdIT fdIR fdAs : FuncData}
theorem scChkKeys : FnScope ["keys"] ["keys"] (defScope sChkKeys) := ⟨rfl, rfl, rfl, by decide +kernel, rfl, by decide +kernel, by decide +kernel⟩
theorem ok_chkkeys {f : Addr} {fd : FuncData} (F : Fun K "check_keys" "check_keys" sChkKeys f fd) (TF : TxtF K mg fII fIB fHO fdII fdIB fdHO) (TI : TxtI K mg fIT fIR fAs fdIT fdIR fdAs) (TH : TxtIH K mg C fI fdI) :
    FnOk P w K mg base (L2.CX P w) 3 f fd ["keys"] (spChkKeys K C) := by
  have GB : FnOk P w K mg base CX0 2 fIB fdIB ["value", "limit"] (spIsBelow K) := ok_isbelow TF
  have GI : FnOk P w K mg base CX0 1 fI fdI ["self", "part", "index"] (spIHInit C) := ok_ihinit TH
  obtain ⟨tk, ek⟩ := TI.keys
  refine F.okX scChkKeys (fun vs H Q E h => ?_) (fun cdv A outer s H vs Q E hr h => ?_)
  · obtain ⟨v, d, rfl, _⟩ := h
    rfl
  · obtain ⟨v, d, rfl, hd, k1, k2⟩ := h
    refine ⟨_, pss_one (ps_if (pt_not (pt_val (pe_call GB hr rfl TF.gIB TF.FIB.kp TF.bIB .nil pass0 (pa_cons (pv 0) (pa_cons (pe_op op_add (pe_glob (v := .int 9) rfl ek ⟨_, rfl⟩) pe_int) pa_nil)))))
      (pss_one (ps_raise rfl (takes_of rfl rfl rfl rfl) (pmk_oex TH.O TH.iC TH.tI GI hr TH.b .nil pass0 rfl TH.gC (pa_cons pe_str (pa_cons pe_int pa_nil))))) pss_nil), ?_⟩
    refine ⟨_, rfl, _, _, rfl, rfl, v, d, _, rfl, hd, _, rfl, ?_⟩
    have e : below d (9 + 1) = below d 10 := rfl
    rw [e]
    cases c : below d 10 with
    | true => exact iteF (k1 (by unfold chkKeys; rw [c]; rfl))
    | false => exact iteT (raise_ih (k2 (by unfold chkKeys; rw [c]; rfl)))
theorem scChkTabs : FnScope ["tables", "index", "table"] ["tables"] (defScope sChkTables) := ⟨rfl, rfl, rfl, by decide +kernel, rfl, by decide +kernel, by decide +kernel⟩
theorem ok_chktabs {f : Addr} {fd : FuncData} (F : Fun K "check_tables" "check_tables" sChkTables f fd) (T : TxtA mg) (TF : TxtF K mg fII fIB fHO fdII fdIB fdHO) (TI : TxtI K mg fIT fIR fAs fdIT fdIR fdAs) (TH : TxtIH K mg C fI fdI) :
    FnOk P w K mg base (L2.CX P w) 3 f fd ["tables"] (spChkTabs K C) := by
  have GT : FnOk P w K mg base CX0 2 fIT fdIT ["table"] (spIsTable K) := ok_istable TI.FIT T TF
  have GI : FnOk P w K mg base CX0 1 fI fdI ["self", "part", "index"] (spIHInit C) := ok_ihinit TH
  obtain ⟨tk, ek⟩ := TI.most
  refine F.okX scChkTabs (fun vs H Q E h => ?_) (fun cdv A outer s H vs Q E hr h => ?_)
  · obtain ⟨v, d, rfl, _⟩ := h
    rfl
  · obtain ⟨v, d, rfl, hd, hz, k1, k2⟩ := h
    refine ⟨_, pss_cons (ps_if (PW.pt (pw_or (pt_not (pt_val (pe_callB call_isi (by rfl) TF.isinstance (by decide +kernel) (pa_cons (pv 0) (pa_cons (pe_bltn (v := .ty "tuple") (by rfl) TF.tuple (by decide +kernel) rfl) pa_nil)))))
          (pw_or1 (pt_not (pt_truth (pv 0) (by intro _; rfl))))))
        (pss_one (ps_raise rfl (takes_of rfl rfl rfl rfl) (pmk_oex TH.O TH.iC TH.tI GI hr TH.b .nil pass0 rfl TH.gC (pa_cons pe_str (pa_cons pe_int pa_nil))))) pss_nil)
      (pss_one (ps_for (passes_of rfl) rfl (pi_enumT (by rfl) TI.enumerate (pa_cons (pv 0) pa_nil)) (pg_tup rfl (pgs_cons (pg_name (i := 1) scChkTabs.nd rfl (.inl rfl)) (pgs_cons (pg_name (i := 2) scChkTabs.nd rfl (.inl rfl)) pgs_nil)))
        (pss_one (ps_if (PW.pt (pw_or (pt_cmpR op_eq (pv 1) (pe_glob (v := .int 6) rfl ek ⟨_, rfl⟩) (nomark _)) (pw_or1 (pt_not (pt_val (pe_call GT hr rfl TI.gIT TI.FIT.kp TI.bIT .nil pass0 (pa_cons (pv 2) pa_nil)))))))
          (pss_one (ps_raise rfl (takes_of rfl rfl rfl rfl) (pmk_oex TH.O TH.iC TH.tI GI hr TH.b .nil pass0 rfl TH.gC (pa_cons pe_str (pa_cons (pv 1) pa_nil))))) pss_nil)))), ?_⟩
    refine ⟨_, rfl, _, _, _, _, _, rfl, .ty "tuple", tyx hd, kit_ty (kit_tup d), _, rfl, ?_⟩
    cases hd with
    | str x => exact iteT (iteT (raise_ih (k2 0 rfl)))
    | non => exact iteT (iteT (raise_ih (k2 0 rfl)))
    | bl b => exact iteT (iteT (raise_ih (k2 0 rfl)))
    | int i => exact iteT (iteT (raise_ih (k2 0 rfl)))
    | lst hs ha => exact iteT (iteT (raise_ih (k2 0 rfl)))
    | @tup a xs ds hs ha =>
      refine iteF ⟨_, rfl, !xs.isEmpty, .inr (.inl ⟨xs, hs, rfl⟩), ?_⟩
      have hl := dpAll_len ha
      have hds : ds = [] ∨ ∃ d0 r, ds = d0 :: r := by
        cases ds with
        | nil => exact .inl rfl
        | cons d0 r => exact .inr ⟨d0, r, rfl⟩
      rcases hds with rfl | ⟨d0, r, hds⟩
      · cases ha
        exact iteT (raise_ih (k2 0 rfl))
      · have hx : xs.isEmpty = false := by
          cases xs with
          | nil => rw [hds] at hl; cases hl
          | cons x xs => rfl
        rw [hx]
        have ec : chkTabs (.tuple ds) = bad1 (fun i t => i == 6 || !isTabD t) 0 ds := by rw [hds]; rfl
        rw [ec] at k1 k2
        have hz' := hz ds rfl
        refine iteF ⟨_, rfl, a, xs, rfl, hs, for_it walk_enumT
          (fun i σ H' => ∃ v1 v2 : Option V, σ = [some (.ref a), v1, v2] ∧ Same H H' ∧ bad1 (fun i t => i == 6 || !isTabD t) 0 ds = bad1 (fun i t => i == 6 || !isTabD t) i (ds.drop i))
          ⟨none, none, rfl, Same.refl H, rfl⟩ (fun i σ H' _ ⟨_, _, _, e, _⟩ => sSqT e hs) ?_ ?_⟩
        · rintro i y σ H1 H2 hi ⟨v1, v2, rfl, s1, eb⟩ ⟨Tp, y1, y2, rfl, hTp, rfl, e1, e2⟩
          cases e1
          obtain ⟨dx, edx, hdx⟩ := dpAll_get ha e2
          have s2 : Same H (upd H1 Tp (.tup [.int (i : Nat), y2])) := s1.trans (same_upd hTp)
          have hm : dx ∈ ds := List.mem_of_getElem? edx
          have st := bad1_step (p := fun i t => i == 6 || !isTabD t) edx
          refine ⟨Tp, _, rfl, SqT.of upd_same, rfl, _, _, rfl, _, _, rfl, rfl, ?_⟩
          refine ⟨_, rfl, rfl, _, rfl, ?_⟩
          by_cases c6 : i = 6
          · have c6' : decide (V.int ((i : Nat) : Int) = V.int 6) = true := decide_eq_true (by rw [c6]; rfl)
            rw [c6']
            refine iteT (iteT ⟨_, rfl, raise_ih (Raised.mono (k2 i ?_) s2)⟩)
            rw [eb, st, c6]; rfl
          · have c6' : decide (V.int ((i : Nat) : Int) = V.int 6) = false := decide_eq_false fun q => c6 (by have := V.int.inj q; omega)
            rw [c6']
            refine iteF ⟨_, rfl, y2, dx, rfl, dpSame s2 _ _ hdx, fun t et => ?_, fun H3 s3 => ⟨_, rfl, ?_⟩⟩
            · have := hz' dx hm
              rw [et] at this
              exact this
            · have c6b : (i == 6) = false := by simpa using c6
              rw [c6b, Bool.false_or] at st
              cases c : isTabD dx with
              | true =>
                rw [c] at st
                refine iteF ⟨_, _, rfl, s2.trans s3, ?_⟩
                rw [eb, st]; rfl
              | false =>
                rw [c] at st
                refine iteT ⟨_, rfl, raise_ih (Raised.mono (k2 i ?_) (s2.trans s3))⟩
                rw [eb, st]; rfl
        · rintro σ H1 ⟨v1, v2, rfl, s1, eb⟩
          refine k1 ?_ H1 s1
          rw [eb, hl]
          exact bad1_end
end
end Dk

set_option Elab.async false
set_option linter.all false
set_option maxRecDepth 100000
set_option maxHeartbeats 1000000
namespace Dk
open PySem PySem.Spec PyProof.Rows L2 TL
theorem below_int {d : PyData} {n : Int} (h : below d n = true) : ∃ i, d = .int i ∧ 0 ≤ i ∧ i < n := by
  cases d with
  | int i =>
    have h' : (decide ((0 : Int) ≤ i) && decide (i < n)) = true := h
    rw [Bool.and_eq_true] at h'
    exact ⟨i, rfl, of_decide_eq_true h'.1, of_decide_eq_true h'.2⟩
  | none => cases h
  | bool _ => cases h
  | str _ => cases h
  | list _ => cases h
  | tuple _ => cases h
  | dict _ => cases h
theorem isRem_pr {d : PyData} {per n : Int} (h : isRemD d per n = true) : ∃ i j, d = .tuple [.int i, .int j] ∧ 0 ≤ i ∧ i < per ∧ 0 ≤ j ∧ j < n := by
  unfold isRemD at h
  split at h
  · rename_i a b
    rw [Bool.and_eq_true] at h
    obtain ⟨i, rfl, h1, h2⟩ := below_int h.1
    obtain ⟨j, rfl, h3, h4⟩ := below_int h.2
    exact ⟨i, j, rfl, h1, h2, h3, h4⟩
  · cases h
def spChkCareful (K : PySem.W.Frag) (C : Addr) : Sp := fun vs H Q E => ∃ (v : V) (d : PyData) (n : Int), vs = [v, .int n] ∧ Dp K H v d ∧
  (chkCareful d n = none → ∀ H', Same H H' → Q .non H') ∧ (∀ i, chkCareful d n = some i → Raised C E H "careful" (i : Int))
def spChkRem (K : PySem.W.Frag) (C : Addr) : Sp := fun vs H Q E => ∃ (v : V) (d : PyData) (per n : Int), vs = [v, .int per, .int n] ∧ Dp K H v d ∧
  (chkRem d per n = none → ∀ H', Same H H' → Q .non H') ∧ (∀ i, chkRem d per n = some i → Raised C E H "reminders" (i : Int))
theorem getD_of {ds : List PyData} {i : Nat} {d : PyData} (h : ds[i]? = some d) : ds.getD i .none = d := by rw [List.getD_eq_getElem?_getD, h]; rfl
section
variable {P : Program} {w : World} {K : PySem.W.Frag} {mg : Str → Option Value} {base : Heap} {C fI : Addr} {fdI : FuncData} {fII fIB fHO : Addr} {fdII fdIB fdHO : FuncData} {fIT fIR fAs : Addr} {fdIT fdIR fdAs : FuncData}
theorem scChkCareful : FnScope ["careful", "persons", "index", "person"] ["careful", "persons"] (defScope sChkCareful) := ⟨rfl, rfl, rfl, by decide +kernel, rfl, by decide +kernel, by decide +kernel⟩
theorem ok_chkcareful {f : Addr} {fd : FuncData} (F : Fun K "check_careful" "check_careful" sChkCareful f fd) (T : TxtA mg) (TF : TxtF K mg fII fIB fHO fdII fdIB fdHO) (TI : TxtI K mg fIT fIR fAs fdIT fdIR fdAs) (TH : TxtIH K mg C fI fdI) :
    FnOk P w K mg base (L2.CX P w) 3 f fd ["careful", "persons"] (spChkCareful K C) := by
  have GB : FnOk P w K mg base CX0 2 fIB fdIB ["value", "limit"] (spIsBelow K) := ok_isbelow TF
  have GA : FnOk P w K mg base CX0 1 fAs fdAs ["items", "index"] (spAsc K) := ok_asc TI.FAs
  have GI : FnOk P w K mg base CX0 1 fI fdI ["self", "part", "index"] (spIHInit C) := ok_ihinit TH
  refine F.okX scChkCareful (fun vs H Q E h => ?_) (fun cdv A outer s H vs Q E hr h => ?_)
  · obtain ⟨v, d, n, rfl, _⟩ := h
    rfl
  · obtain ⟨v, d, n, rfl, hd, k1, k2⟩ := h
    have hr1 : Room 1 (A.deeper (envOfC (Str.ofString "check_careful") (defScope sChkCareful) s.heap.objs.size f cdv)) := hr.mono (by decide)
    refine ⟨_, pss_cons (ps_if (pt_not (pt_val (pe_callB call_isi (by rfl) TF.isinstance (by decide +kernel) (pa_cons (pv 0) (pa_cons (pe_bltn (v := .ty "tuple") (by rfl) TF.tuple (by decide +kernel) rfl) pa_nil)))))
        (pss_one (ps_raise rfl (takes_of rfl rfl rfl rfl) (pmk_oex TH.O TH.iC TH.tI GI hr TH.b .nil pass0 rfl TH.gC (pa_cons pe_str (pa_cons pe_int pa_nil))))) pss_nil)
      (pss_one (ps_for (passes_of rfl) rfl (pi_enumT (by rfl) TI.enumerate (pa_cons (pv 0) pa_nil)) (pg_tup rfl (pgs_cons (pg_name (i := 2) scChkCareful.nd rfl (.inl rfl)) (pgs_cons (pg_name (i := 3) scChkCareful.nd rfl (.inl rfl)) pgs_nil)))
        (pss_one (ps_if (PW.pt (pw_or (pt_not (pt_val (pe_call GB hr rfl TF.gIB TF.FIB.kp TF.bIB .nil pass0 (pa_cons (pv 3) (pa_cons (pv 1) pa_nil)))))
            (pw_or1 (pt_not (pt_val (pe_call GA hr1 rfl TI.gAs TI.FAs.kp TI.bAs .nil pass0 (pa_cons (pv 0) (pa_cons (pv 2) pa_nil))))))))
          (pss_one (ps_raise rfl (takes_of rfl rfl rfl rfl) (pmk_oex TH.O TH.iC TH.tI GI hr TH.b .nil pass0 rfl TH.gC (pa_cons pe_str (pa_cons (pv 2) pa_nil))))) pss_nil)))), ?_⟩
    refine ⟨_, rfl, _, _, _, _, _, rfl, .ty "tuple", tyx hd, kit_ty (kit_tup d), _, rfl, ?_⟩
    cases hd with
    | str x => exact iteT (raise_ih (k2 0 rfl))
    | non => exact iteT (raise_ih (k2 0 rfl))
    | bl b => exact iteT (raise_ih (k2 0 rfl))
    | int i => exact iteT (raise_ih (k2 0 rfl))
    | lst hs ha => exact iteT (raise_ih (k2 0 rfl))
    | @tup a xs ds hs ha =>
      have hl := dpAll_len ha
      have ec : chkCareful (.tuple ds) n = bad1 (fun i x => !below x n || !ascI ds i) 0 ds := rfl
      rw [ec] at k1 k2
      refine iteF ⟨_, rfl, a, xs, rfl, hs, for_it walk_enumT
        (fun i σ H' => ∃ v1 v2 : Option V, σ = [some (.ref a), some (.int n), v1, v2] ∧ Same H H' ∧ bad1 (fun i x => !below x n || !ascI ds i) 0 ds = bad1 (fun i x => !below x n || !ascI ds i) i (ds.drop i) ∧ ∀ j d, j < i → ds[j]? = some d → below d n = true)
        ⟨none, none, rfl, Same.refl H, rfl, fun j d hj => absurd hj (Nat.not_lt_zero _)⟩ (fun i σ H' _ ⟨_, _, _, e, _⟩ => sSqT e hs) ?_ ?_⟩
      · rintro i y σ H1 H2 hi ⟨v1, v2, rfl, s1, eb, hall⟩ ⟨Tp, y1, y2, rfl, hTp, rfl, e1, e2⟩
        cases e1
        obtain ⟨dx, edx, hdx⟩ := dpAll_get ha e2
        have s2 : Same H (upd H1 Tp (.tup [.int (i : Nat), y2])) := s1.trans (same_upd hTp)
        have st := bad1_step (p := fun i x => !below x n || !ascI ds i) edx
        refine ⟨Tp, _, rfl, SqT.of upd_same, rfl, _, _, rfl, _, _, rfl, rfl, ?_⟩
        refine ⟨_, rfl, _, rfl, y2, dx, n, rfl, dpSame s2 _ _ hdx, _, rfl, ?_⟩
        cases c : below dx n with
        | false =>
          rw [c] at st
          refine iteT (iteT ⟨_, rfl, raise_ih (Raised.mono (k2 i ?_) s2)⟩)
          rw [eb, st]; rfl
        | true =>
          rw [c] at st
          have st' : bad1 (fun i x => !below x n || !ascI ds i) i (ds.drop i) = if (!ascI ds i) = true then some i else bad1 (fun i x => !below x n || !ascI ds i) (i + 1) (ds.drop (i + 1)) := st
          refine iteF ⟨_, rfl, _, rfl, a, xs, i, ascI ds i, rfl, sSqT s2 hs, hi, fun e0 => by rw [e0]; rfl, fun j ej => ?_, _, rfl, ?_⟩
          · subst ej
            obtain ⟨x, ex⟩ : ∃ x, xs[j]? = some x := ⟨xs[j]'(by omega), List.getElem?_eq_getElem _⟩
            obtain ⟨dj, edj, hdj⟩ := dpAll_get ha ex
            obtain ⟨m1, rfl, _, _⟩ := below_int (hall j dj (Nat.lt_succ_self _) edj)
            obtain ⟨m2, rfl, _, _⟩ := below_int c
            cases hdj
            cases hdx
            refine ⟨_, _, ex, e2, .inl ⟨m1, m2, rfl, rfl, ?_⟩⟩
            show decide (intOf (ds.getD j .none) < intOf (ds.getD (j + 1) .none)) = decide (m1 < m2)
            rw [getD_of edj, getD_of edx]; rfl
          · cases c2 : ascI ds i with
            | true =>
              rw [c2] at st'
              refine iteF ⟨_, _, rfl, s2, ?_, fun j d hj ej => ?_⟩
              · rw [eb, st']; rfl
              · by_cases e : j = i
                · subst e; rw [edx] at ej; cases ej; exact c
                · exact hall j d (by omega) ej
            | false =>
              rw [c2] at st'
              refine iteT ⟨_, rfl, raise_ih (Raised.mono (k2 i ?_) s2)⟩
              rw [eb, st']; rfl
      · rintro σ H1 ⟨v1, v2, rfl, s1, eb, _⟩
        refine k1 ?_ H1 s1
        rw [eb, hl]
        exact bad1_end
theorem scChkRem : FnScope ["reminders", "period", "persons", "index", "reminder"] ["reminders", "period", "persons"] (defScope sChkRem) := ⟨rfl, rfl, rfl, by decide +kernel, rfl, by decide +kernel, by decide +kernel⟩
theorem ok_chkrem {f : Addr} {fd : FuncData} (F : Fun K "check_reminders" "check_reminders" sChkRem f fd) (T : TxtA mg) (TF : TxtF K mg fII fIB fHO fdII fdIB fdHO) (TI : TxtI K mg fIT fIR fAs fdIT fdIR fdAs) (TH : TxtIH K mg C fI fdI) :
    FnOk P w K mg base (L2.CX P w) 4 f fd ["reminders", "period", "persons"] (spChkRem K C) := by
  have GR : FnOk P w K mg base CX0 3 fIR fdIR ["reminder", "period", "persons"] (spIsRem K) := ok_isrem TI.FIR T TF
  have GA : FnOk P w K mg base CX0 1 fAs fdAs ["items", "index"] (spAsc K) := ok_asc TI.FAs
  have GI : FnOk P w K mg base CX0 1 fI fdI ["self", "part", "index"] (spIHInit C) := ok_ihinit TH
  obtain ⟨tk, ek⟩ := TI.rems
  refine F.okX scChkRem (fun vs H Q E h => ?_) (fun cdv A outer s H vs Q E hr h => ?_)
  · obtain ⟨v, d, per, n, rfl, _⟩ := h
    rfl
  · obtain ⟨v, d, per, n, rfl, hd, k1, k2⟩ := h
    have hr1 : Room 1 (A.deeper (envOfC (Str.ofString "check_reminders") (defScope sChkRem) s.heap.objs.size f cdv)) := hr.mono (by decide)
    have hr2 : Room 2 (A.deeper (envOfC (Str.ofString "check_reminders") (defScope sChkRem) s.heap.objs.size f cdv)) := hr.mono (by decide)
    refine ⟨_, pss_cons (ps_if (pt_not (pt_val (pe_callB call_isi (by rfl) TF.isinstance (by decide +kernel) (pa_cons (pv 0) (pa_cons (pe_bltn (v := .ty "tuple") (by rfl) TF.tuple (by decide +kernel) rfl) pa_nil)))))
        (pss_one (ps_raise rfl (takes_of rfl rfl rfl rfl) (pmk_oex TH.O TH.iC TH.tI GI hr2 TH.b .nil pass0 rfl TH.gC (pa_cons pe_str (pa_cons pe_int pa_nil))))) pss_nil)
      (pss_one (ps_for (passes_of rfl) rfl (pi_enumT (by rfl) TI.enumerate (pa_cons (pv 0) pa_nil)) (pg_tup rfl (pgs_cons (pg_name (i := 3) scChkRem.nd rfl (.inl rfl)) (pgs_cons (pg_name (i := 4) scChkRem.nd rfl (.inl rfl)) pgs_nil)))
        (pss_cons (ps_if (PW.pt (pw_or (pt_cmpR op_eq (pv 3) (pe_glob (v := .int 10) rfl ek ⟨_, rfl⟩) (nomark _)) (pw_or1 (pt_not (pt_val (pe_call GR hr rfl TI.gIR TI.FIR.kp TI.bIR .nil pass0 (pa_cons (pv 4) (pa_cons (pv 1) (pa_cons (pv 2) pa_nil)))))))))
          (pss_one (ps_raise rfl (takes_of rfl rfl rfl rfl) (pmk_oex TH.O TH.iC TH.tI GI hr2 TH.b .nil pass0 rfl TH.gC (pa_cons pe_str (pa_cons (pv 3) pa_nil))))) pss_nil)
        (pss_one (ps_if (pt_not (pt_val (pe_call GA hr1 rfl TI.gAs TI.FAs.kp TI.bAs .nil pass0 (pa_cons (pv 0) (pa_cons (pv 3) pa_nil)))))
          (pss_one (ps_raise rfl (takes_of rfl rfl rfl rfl) (pmk_oex TH.O TH.iC TH.tI GI hr2 TH.b .nil pass0 rfl TH.gC (pa_cons pe_str (pa_cons (pv 3) pa_nil))))) pss_nil))))), ?_⟩
    refine ⟨_, rfl, _, _, _, _, _, rfl, .ty "tuple", tyx hd, kit_ty (kit_tup d), _, rfl, ?_⟩
    cases hd with
    | str x => exact iteT (raise_ih (k2 0 rfl))
    | non => exact iteT (raise_ih (k2 0 rfl))
    | bl b => exact iteT (raise_ih (k2 0 rfl))
    | int i => exact iteT (raise_ih (k2 0 rfl))
    | lst hs ha => exact iteT (raise_ih (k2 0 rfl))
    | @tup a xs ds hs ha =>
      have hl := dpAll_len ha
      have ec : chkRem (.tuple ds) per n = bad1 (fun i x => i == 10 || !isRemD x per n || !ascP ds i) 0 ds := rfl
      rw [ec] at k1 k2
      refine iteF ⟨_, rfl, a, xs, rfl, hs, for_it walk_enumT
        (fun i σ H' => ∃ v1 v2 : Option V, σ = [some (.ref a), some (.int per), some (.int n), v1, v2] ∧ Same H H' ∧ bad1 (fun i x => i == 10 || !isRemD x per n || !ascP ds i) 0 ds = bad1 (fun i x => i == 10 || !isRemD x per n || !ascP ds i) i (ds.drop i) ∧ ∀ j d, j < i → ds[j]? = some d → isRemD d per n = true)
        ⟨none, none, rfl, Same.refl H, rfl, fun j d hj => absurd hj (Nat.not_lt_zero _)⟩ (fun i σ H' _ ⟨_, _, _, e, _⟩ => sSqT e hs) ?_ ?_⟩
      · rintro i y σ H1 H2 hi ⟨v1, v2, rfl, s1, eb, hall⟩ ⟨Tp, y1, y2, rfl, hTp, rfl, e1, e2⟩
        cases e1
        obtain ⟨dx, edx, hdx⟩ := dpAll_get ha e2
        have s2 : Same H (upd H1 Tp (.tup [.int (i : Nat), y2])) := s1.trans (same_upd hTp)
        have st := bad1_step (p := fun i x => i == 10 || !isRemD x per n || !ascP ds i) edx
        refine ⟨Tp, _, rfl, SqT.of upd_same, rfl, _, _, rfl, _, _, rfl, rfl, ?_⟩
        refine ⟨_, rfl, rfl, _, rfl, ?_⟩
        by_cases c6 : i = 10
        · have c6' : decide (V.int ((i : Nat) : Int) = V.int 10) = true := decide_eq_true (by rw [c6]; rfl)
          rw [c6']
          refine iteT (iteT ⟨_, rfl, raise_ih (Raised.mono (k2 i ?_) s2)⟩)
          rw [eb, st, c6]; rfl
        · have c6' : decide (V.int ((i : Nat) : Int) = V.int 10) = false := decide_eq_false fun q => c6 (by have := V.int.inj q; omega)
          rw [c6']
          have c6b : (i == 10) = false := by simpa using c6
          rw [c6b, Bool.false_or] at st
          refine iteF ⟨_, rfl, _, rfl, _, rfl, y2, dx, per, n, rfl, dpSame s2 _ _ hdx, _, rfl, ?_⟩
          cases c : isRemD dx per n with
          | false =>
            rw [c] at st
            refine iteT ⟨_, rfl, raise_ih (Raised.mono (k2 i ?_) s2)⟩
            rw [eb, st]; rfl
          | true =>
            rw [c] at st
            have st' : bad1 (fun i x => i == 10 || !isRemD x per n || !ascP ds i) i (ds.drop i) = if (!ascP ds i) = true then some i else bad1 (fun i x => i == 10 || !isRemD x per n || !ascP ds i) (i + 1) (ds.drop (i + 1)) := st
            refine iteF ⟨_, rfl, _, rfl, a, xs, i, ascP ds i, rfl, sSqT s2 hs, hi, fun e0 => by rw [e0]; rfl, fun j ej => ?_, _, rfl, ?_⟩
            · subst ej
              obtain ⟨x, ex⟩ : ∃ x, xs[j]? = some x := ⟨xs[j]'(by omega), List.getElem?_eq_getElem _⟩
              obtain ⟨dj, edj, hdj⟩ := dpAll_get ha ex
              obtain ⟨m1, m2, rfl, _⟩ := isRem_pr (hall j dj (Nat.lt_succ_self _) edj)
              obtain ⟨m3, m4, rfl, _⟩ := isRem_pr c
              cases hdj with
              | tup h1 h2 =>
                cases hdx with
                | tup h3 h4 =>
                  cases h2 with
                  | cons p1 p2 =>
                    cases p2 with
                    | cons p2 p3 =>
                      cases p3
                      cases p1
                      cases p2
                      cases h4 with
                      | cons q1 q2 =>
                        cases q2 with
                        | cons q2 q3 =>
                          cases q3
                          cases q1
                          cases q2
                          refine ⟨_, _, ex, e2, .inr ⟨_, _, [m1, m2], [m3, m4], rfl, rfl, sSqT s2 h1, sSqT s2 h3, ?_⟩⟩
                          show HT.lexLt [(prOf (ds.getD j .none)).1, (prOf (ds.getD j .none)).2] [(prOf (ds.getD (j + 1) .none)).1, (prOf (ds.getD (j + 1) .none)).2] = _
                          rw [getD_of edj, getD_of edx]; rfl
            · cases c2 : ascP ds i with
              | true =>
                rw [c2] at st'
                refine iteF ⟨_, _, rfl, s2, ?_, fun j d hj ej => ?_⟩
                · rw [eb, st']; rfl
                · by_cases e : j = i
                  · subst e; rw [edx] at ej; cases ej; exact c
                  · exact hall j d (by omega) ej
              | false =>
                rw [c2] at st'
                refine iteT ⟨_, rfl, raise_ih (Raised.mono (k2 i ?_) s2)⟩
                rw [eb, st']; rfl
      · rintro σ H1 ⟨v1, v2, rfl, s1, eb, _⟩
        refine k1 ?_ H1 s1
        rw [eb, hl]
        exact bad1_end
end
end Dk

set_option Elab.async false
set_option linter.all false
set_option maxRecDepth 100000
set_option maxHeartbeats 1000000
namespace Dk
open PySem PySem.Spec PyProof.Rows L2 TL
/-! ### the house -/
theorem isTab_of {d : PyData} (h : isTabD d = true) : ∃ t, d = .str t ∧ IsTab t := by
  cases d with
  | str t =>
    have h' : (decide ((t.length : Int) ∈ tabLens) && only t hoS) = true := h
    rw [Bool.and_eq_true] at h'
    refine ⟨t, rfl, ?_, fun c hc => ?_⟩
    · have h1 := of_decide_eq_true h'.1
      rw [len_tl t] at h1
      simp only [tabLens, List.mem_cons, List.not_mem_nil, or_false] at h1 ⊢
      omega
    · have h2 := List.all_eq_true.mp h'.2 c hc
      have h3 := of_decide_eq_true h2
      have e : tl hoS = [104, 111] := by decide +kernel
      rw [e] at h3
      simpa using h3
  | none => cases h
  | bool _ => cases h
  | int _ => cases h
  | list _ => cases h
  | tuple _ => cases h
  | dict _ => cases h
theorem isTab_is {t : Str} (h : IsTab t) : isTabD (.str t) = true := by
  show (decide ((t.length : Int) ∈ tabLens) && only t hoS) = true
  rw [Bool.and_eq_true]
  refine ⟨decide_eq_true ?_, List.all_eq_true.mpr fun c hc => decide_eq_true ?_⟩
  · have h1 := h.len
    rw [len_tl t]
    simp only [tabLens, List.mem_cons, List.not_mem_nil, or_false] at h1 ⊢
    omega
  · have e : tl hoS = [104, 111] := by decide +kernel
    rw [e]
    simpa using h.ho c hc
theorem bad1_none {p : Nat → PyData → Bool} : ∀ {ds : List PyData} {i : Nat}, bad1 p i ds = none ↔ ∀ j d, ds[j]? = some d → p (i + j) d = false
  | [], i => by simp [bad1]
  | d :: ds, i => by
    unfold bad1
    constructor
    · intro h j x hx
      split at h
      · cases h
      · rename_i c
        cases j with
        | zero => simp at hx; subst hx; simpa using c
        | succ j =>
          have := (bad1_none (ds := ds) (i := i + 1)).mp h j x (by simpa using hx)
          rw [show i + (j + 1) = i + 1 + j by omega]; exact this
    · intro h
      have h0 := h 0 d rfl
      rw [Nat.add_zero] at h0
      rw [h0]
      refine (bad1_none (ds := ds) (i := i + 1)).mpr fun j x hx => ?_
      have := h (j + 1) x (by simpa using hx)
      rw [show i + 1 + j = i + (j + 1) by omega]; exact this
theorem strs_of : ∀ {ds : List PyData}, (∀ d ∈ ds, isTabD d = true) → ∃ ts : List Str, ds = ts.map PyData.str ∧ Tabs ts
  | [], _ => ⟨[], rfl, fun t ht => by cases ht⟩
  | d :: ds, h => by
    obtain ⟨t, rfl, ht⟩ := isTab_of (h d (List.mem_cons_self ..))
    obtain ⟨ts, rfl, hts⟩ := strs_of (ds := ds) fun x hx => h x (List.mem_cons_of_mem _ hx)
    refine ⟨t :: ts, rfl, fun x hx => ?_⟩
    rcases List.mem_cons.mp hx with rfl | hx
    · exact ht
    · exact hts x hx
theorem tabs_of {d : PyData} (h : chkTabs d = none) : ∃ ts : List Str, d = .tuple (ts.map PyData.str) ∧ Tabs ts ∧ 1 ≤ ts.length ∧ ts.length ≤ 6 := by
  unfold chkTabs at h
  split at h
  · cases h
  · rename_i d0 ds
    have h' := bad1_none.mp h
    obtain ⟨ts, e, hT⟩ := strs_of (ds := d0 :: ds) fun x hx => by
      obtain ⟨j, hj⟩ := List.getElem?_of_mem hx
      have := h' j x hj
      simp only [Bool.or_eq_false_iff, Bool.not_eq_false'] at this
      exact this.2
    have hl : (d0 :: ds).length = ts.length := by rw [e, List.length_map]
    refine ⟨ts, by rw [e], hT, by rw [← hl]; simp, ?_⟩
    rw [← hl]
    rcases Nat.lt_or_ge 6 (d0 :: ds).length with c | c
    · have hx : (d0 :: ds)[6]? = some ((d0 :: ds)[6]'c) := List.getElem?_eq_getElem c
      have := h' 6 _ hx
      simp at this
    · exact c
  · cases h
theorem tabs_is {ts : List Str} (hT : Tabs ts) (h1 : 1 ≤ ts.length) (h6 : ts.length ≤ 6) : chkTabs (.tuple (ts.map PyData.str)) = none := by
  cases ts with
  | nil => simp at h1
  | cons t ts =>
    show bad1 _ 0 _ = none
    refine bad1_none.mpr fun j d hd => ?_
    have hd' : ((t :: ts).map PyData.str)[j]? = some d := hd
    rw [List.getElem?_map] at hd'
    cases e : (t :: ts)[j]? with
    | none => rw [e] at hd'; cases hd'
    | some x =>
      rw [e] at hd'
      have ed : PyData.str x = d := Option.some.inj hd'
      subst ed
      have hj : j < (t :: ts).length := (List.getElem?_eq_some_iff.mp e).1
      rw [isTab_is (hT x (List.mem_of_getElem? e))]
      have : (0 + j == 6) = false := by simp; omega
      rw [this]; rfl
def lenD : PyData → Nat
  | .tuple ds => ds.length
  | _ => 0
def strOf : PyData → Str
  | .str t => t
  | _ => Str.empty
def perD : PyData → Nat
  | .tuple ds => per (ds.map strOf)
  | _ => 1
/-- the first invalid part of a house -/
def chkHouse (dT dK dC dR : PyData) : Option (Str × Nat) :=
  match chkTabs dT with
  | some i => some ("tables", i)
  | none => match chkKeys dK with
    | some i => some ("keys", i)
    | none => match chkCareful dC (lenD dT : Int) with
      | some i => some ("careful", i)
      | none => match chkRem dR (perD dT : Int) (lenD dT : Int) with
        | some i => some ("reminders", i)
        | none => none
end Dk

set_option Elab.async false
set_option linter.all false
set_option maxRecDepth 100000
set_option maxHeartbeats 1000000
namespace Dk
open PySem PySem.Spec PyProof.Rows L2 TL
abbrev hFields (vT vK vC vR : V) : List (Str × V) := putF "reminders" vR (putF "careful" vC (putF "key_count" vK (putF "tables" vT [])))
theorem hf_len (vT vK vC vR : V) : (hFields vT vK vC vR).length = 4 := by rfl
structure TxtL (K : PySem.W.Frag) (mg : Str → Option Value) (C fP fT fK fC fR : Addr) (fdP fdT fdK fdC fdR : FuncData) : Prop where
  cl : Cls K C
  nT : NoAttr K C "tables"
  nK : NoAttr K C "key_count"
  nC : NoAttr K C "careful"
  nR : NoAttr K C "reminders"
  gP : mg "common_period" = some (.ref fP)
  FP : Fun K "common_period" "common_period" sPeriod fP fdP
  bP : Binds K fdP ["tables"] []
  gT : mg "check_tables" = some (.ref fT)
  FT : Fun K "check_tables" "check_tables" sChkTables fT fdT
  bT : Binds K fdT ["tables"] []
  gK : mg "check_keys" = some (.ref fK)
  FK : Fun K "check_keys" "check_keys" sChkKeys fK fdK
  bK : Binds K fdK ["keys"] []
  gCa : mg "check_careful" = some (.ref fC)
  FC : Fun K "check_careful" "check_careful" sChkCareful fC fdC
  bC : Binds K fdC ["careful", "persons"] []
  gR : mg "check_reminders" = some (.ref fR)
  FR : Fun K "check_reminders" "check_reminders" sChkRem fR fdR
  bR : Binds K fdR ["reminders", "period", "persons"] []
def spInit (K : PySem.W.Frag) (C CI : Addr) : Sp := fun vs H Q E => ∃ (p dx : Addr) (vT vK vC vR : V) (dT dK dC dR : PyData), vs = [.ref p, vT, vK, vC, vR] ∧ Dp K H vT dT ∧ Dp K H vK dK ∧ Dp K H vC dC ∧ Dp K H vR dR ∧
  (∀ ds, dT = .tuple ds → ∀ x ∈ ds, SmallS x) ∧ H p = some (.ins C dx []) ∧
  (chkHouse dT dK dC dR = none → ∀ H', Kp p H H' → H' p = some (.ins C dx (hFields vT vK vC vR)) → Q .non H') ∧
  (∀ part i, chkHouse dT dK dC dR = some (part, i) → Raised CI E H part (i : Int))
section
variable {P : Program} {w : World} {K : PySem.W.Frag} {mg : Str → Option Value} {base : Heap} {C fI : Addr} {fdI : FuncData} {fII fIB fHO : Addr} {fdII fdIB fdHO : FuncData} {fIT fIR fAs : Addr} {fdIT fdIR fdAs : FuncData}
  {CH fP fT fK fC fR : Addr} {fdP fdT fdK fdC fdR : FuncData}
theorem scInit : FnScope ["self", "tables", "keys", "careful", "reminders"] ["self", "tables", "keys", "careful", "reminders"] (defScope sInit) := ⟨rfl, rfl, rfl, by decide +kernel, rfl, by decide +kernel, by decide +kernel⟩
theorem strs_back {ts : List Str} : (ts.map PyData.str).map strOf = ts := by
  induction ts with
  | nil => rfl
  | cons t ts ih => rw [List.map_cons, List.map_cons, ih]; rfl
theorem dp_tabs {K : PySem.W.Frag} {H : Hp} {v : V} {ts : List Str} (h : Dp K H v (.tuple (ts.map PyData.str))) : ∃ a, v = .ref a ∧ SqT K H a (ts.map V.str) := by
  cases h with
  | @tup a xs ds hs ha =>
    refine ⟨a, rfl, ?_⟩
    have e : xs = ts.map V.str := by
      clear hs
      induction ts generalizing xs with
      | nil => cases ha; rfl
      | cons t ts ih =>
        cases ha with
        | cons h1 h2 =>
          cases h1
          rw [ih h2]; rfl
    rw [← e]; exact hs
theorem ok_init {f : Addr} {fd : FuncData} {dvs : List V} (F : FunD K "__init__" "House.__init__" (defArgs sInit) (defBody sInit) (defScope sInit) dvs [] f fd) (T : TxtA mg) (TC : TxtC mg) (TF : TxtF K mg fII fIB fHO fdII fdIB fdHO) (TI : TxtI K mg fIT fIR fAs fdIT fdIR fdAs) (TH : TxtIH K mg C fI fdI)
    (TL' : TxtL K mg CH fP fT fK fC fR fdP fdT fdK fdC fdR) :
    FnOk P w K mg base (L2.CX P w) 5 f fd ["self", "tables", "keys", "careful", "reminders"] (spInit K CH C) := by
  have GP : FnOk P w K mg base CX0 1 fP fdP ["tables"] (spPeriod K) := ok_period TL'.FP T TC
  have GT : FnOk P w K mg base (L2.CX P w) 3 fT fdT ["tables"] (spChkTabs K C) := ok_chktabs TL'.FT T TF TI TH
  have GK : FnOk P w K mg base (L2.CX P w) 3 fK fdK ["keys"] (spChkKeys K C) := ok_chkkeys TL'.FK TF TI TH
  have GC : FnOk P w K mg base (L2.CX P w) 3 fC fdC ["careful", "persons"] (spChkCareful K C) := ok_chkcareful TL'.FC T TF TI TH
  have GR : FnOk P w K mg base (L2.CX P w) 4 fR fdR ["reminders", "period", "persons"] (spChkRem K C) := ok_chkrem TL'.FR T TF TI TH
  refine F.ok scInit (fun vs H Q E h => ?_) (fun cdv A outer s H vs Q E hr h => ?_)
  · obtain ⟨p, dx, vT, vK, vC, vR, dT, dK, dC, dR, rfl, _⟩ := h
    rfl
  · obtain ⟨p, dx, vT, vK, vC, vR, dT, dK, dC, dR, rfl, hT, hK, hC, hR, hz, hp, k1, k2⟩ := h
    have hr3 : Room 3 (A.deeper (envOfC (Str.ofString "House.__init__") (defScope sInit) s.heap.objs.size f cdv)) := hr.mono (by decide)
    have hr1 : Room 1 (A.deeper (envOfC (Str.ofString "House.__init__") (defScope sInit) s.heap.objs.size f cdv)) := hr.mono (by decide)
    refine ⟨_, pss_cons (ps_expr (pe_call GT hr3 rfl TL'.gT TL'.FT.kp TL'.bT .nil (passes_call (takes_of rfl rfl rfl rfl) (fun _ _ _ _ h => h)) (pa_cons (pv 1) pa_nil)))
      (pss_cons (ps_expr (pe_call GK hr3 rfl TL'.gK TL'.FK.kp TL'.bK .nil (passes_call (takes_of rfl rfl rfl rfl) (fun _ _ _ _ h => h)) (pa_cons (pv 2) pa_nil)))
      (pss_cons (ps_expr (pe_call GC hr3 rfl TL'.gCa TL'.FC.kp TL'.bC .nil (passes_call (takes_of rfl rfl rfl rfl) (fun _ _ _ _ h => h)) (pa_cons (pv 3) (pa_cons (pe_callB call_len_seq (by rfl) T.len PySem.boot_len (pa_cons (pv 1) pa_nil)) pa_nil))))
      (pss_cons (ps_expr (pe_call GR hr rfl TL'.gR TL'.FR.kp TL'.bR .nil (passes_call (takes_of rfl rfl rfl rfl) (fun _ _ _ _ h => h)) (pa_cons (pv 4) (pa_cons (pe_call GP hr1 rfl TL'.gP TL'.FP.kp TL'.bP .nil pass0 (pa_cons (pv 1) pa_nil)) (pa_cons (pe_callB call_len_seq (by rfl) T.len PySem.boot_len (pa_cons (pv 1) pa_nil)) pa_nil)))))
      (pss_cons (ps_fld (pv 0) (pv 1) rfl) (pss_cons (ps_fld (pv 0) (pv 2) rfl) (pss_cons (ps_fld (pv 0) (pv 3) rfl) (pss_one (ps_fld (pv 0) (pv 4) rfl)))))))), ?_⟩
    refine ⟨_, rfl, vT, dT, rfl, hT, hz, fun cT H1 s1 => ?_, fun i c => k2 "tables" i (by unfold chkHouse; rw [c])⟩
    obtain ⟨ts, rfl, hTs, h1, h6⟩ := tabs_of cT
    obtain ⟨aT, rfl, hsT⟩ := dp_tabs hT
    refine ⟨_, rfl, vK, dK, rfl, dpSame s1 _ _ hK, fun cK => ?_, fun c => Raised.mono (k2 "keys" 0 (by unfold chkHouse; rw [cT]; dsimp only; rw [c])) s1⟩
    refine ⟨_, rfl, _, rfl, aT, _, rfl, .inr (sSqT s1 hsT), vC, dC, _, rfl, dpSame s1 _ _ hC, ?_⟩
    rw [show (((ts.map V.str).length : Nat) : Int) = (lenD (.tuple (ts.map PyData.str)) : Int) by show _ = (((ts.map PyData.str).length : Nat) : Int); rw [List.length_map, List.length_map]]
    refine ⟨fun cC H2 s2 => ?_, fun i c => Raised.mono (k2 "careful" i (by unfold chkHouse; rw [cT]; dsimp only; rw [cK]; dsimp only; rw [c])) s1⟩
    have s12 := s1.trans s2
    refine ⟨_, rfl, _, rfl, aT, ts, rfl, sSqT s12 hsT, hTs, _, rfl, aT, _, rfl, .inr (sSqT s12 hsT), vR, dR, _, _, rfl, dpSame s12 _ _ hR, ?_⟩
    rw [show (((ts.map V.str).length : Nat) : Int) = (lenD (.tuple (ts.map PyData.str)) : Int) by show _ = (((ts.map PyData.str).length : Nat) : Int); rw [List.length_map, List.length_map],
      show ((per ts : Nat) : Int) = (perD (.tuple (ts.map PyData.str)) : Int) by show _ = ((per ((ts.map PyData.str).map strOf) : Nat) : Int); rw [strs_back]]
    refine ⟨fun cR H3 s3 => ?_, fun i c => Raised.mono (k2 "reminders" i (by unfold chkHouse; rw [cT]; dsimp only; rw [cK]; dsimp only; rw [cC]; dsimp only; rw [c])) s12⟩
    have s123 := s12.trans s3
    have hp3 := s123 _ _ hp
    refine ⟨_, rfl, _, rfl, p, CH, dx, _, rfl, hp3, TL'.cl, TL'.nT, (by show 0 < 1000; decide), ?_⟩
    refine ⟨_, rfl, _, rfl, p, CH, dx, _, rfl, upd_same, TL'.cl, TL'.nK, (by show 1 < 1000; decide), ?_⟩
    refine ⟨_, rfl, _, rfl, p, CH, dx, _, rfl, upd_same, TL'.cl, TL'.nC, (by show 2 < 1000; decide), ?_⟩
    refine ⟨_, rfl, _, rfl, p, CH, dx, _, rfl, upd_same, TL'.cl, TL'.nR, (by show 3 < 1000; decide), ?_⟩
    refine k1 ?_ _ (fun b o nb eb => ?_) upd_same
    · unfold chkHouse; rw [cT]; dsimp only; rw [cK]; dsimp only; rw [cC]; dsimp only; rw [cR]
    · rw [upd_ne nb, upd_ne nb, upd_ne nb, upd_ne nb]; exact s123 _ _ eb
end
end Dk

set_option Elab.async false
set_option linter.all false
set_option maxRecDepth 100000
set_option maxHeartbeats 2000000
/-! isinstance(e, c), e an exception with fields of its own -/
namespace DkI
open PySem PySem.Spec PySem.Calls PyProof.Rows PySem.W
section
variable {prog : Program} {w : World} {A : Around} {E : Value → Shared → Prop} {s : Shared} {K : Frag} {x D : Addr} {ox ob : Obj}
theorem class_of_err {Q : Option Value → Shared → Prop} (C : L2.ExcC K D) (X : K.In s.heap) (I : InstAt s.heap x ox D (some ob)) (h : Q (some (.ref D)) { s with toks := s.toks + 1 }) : wpAny (model prog w) A (getAttr? (.ref x) "__class__") Q E s := by
  have cD : (clsIn K D).isSome = true := by obtain ⟨_, e, _⟩ := any_some C.hd; rw [e]; rfl
  cases s with
  | mk h0 g0 d0 t0 o0 =>
    have T0 := I.type (M := model prog w)
    have T1 : Looks (model prog w) h0 (isInstance (.ref x) (.type "BaseException")) true := T0.andThen (looks_subIn X C.hs)
    have n1 : (Value.builtin "BaseException.__getattribute__" == Value.builtin "object.__getattribute__") = false := by decide +kernel
    have n2 : (onTheHeap (Value.ref D) && Value.builtin "BaseException.__getattribute__" == Value.builtin "object.__getattribute__") = false := by rw [n1]; rfl
    unfold getAttr? getAttrBy? getAttrBy
    refine wpAny_bind (wpAny_mkText ?_)
    refine wpAny_bind (wpAny_attempt (wpAny_holding ?_))
    refine wpAny_bind (T0.at ?_)
    refine wpAny_bind ((looks_findIn (M := model prog w) X C.hg).at ?_)
    show wpAny _ _ (if (onTheHeap (Value.ref D) && Value.builtin "BaseException.__getattribute__" == Value.builtin "object.__getattribute__") = true then _ else _) _ _ _
    rw [n2, if_neg Bool.false_ne_true]
    unfold getAttrByItsOwn hookBefore
    refine wpAny_bind ?_
    rw [if_pos (show onTheHeap (Value.ref D) = true from rfl)]
    refine (looks_findIn (M := model prog w) X C.hk).at (wpAny_bind (wpAny_attempt (wpAny_holding ?_)))
    unfold callGetattribute
    rw [show (false && onTheHeap (Value.builtin "BaseException.__getattribute__")) = false from rfl, if_neg Bool.false_ne_true]
    unfold boundAndCalled
    rw [PySem.F.excAttr_ValueError.ga.bind (.ref x)]
    refine wpAny_bind (wpAny_pure ?_)
    show wpAny _ _ (call (.builtin "BaseException.__getattribute__") [.ref x, .str "__class__" t0]) _ _ _
    refine wpAny_call (codeAny_call_builtin PySem.F.excAttr_ValueError.ga.plain PySem.F.entry_bexc_ga ?_)
    refine @check_slot (model prog w) _ _ ⟨h0, g0, d0, t0 + 1, o0⟩ "BaseException.__getattribute__" "BaseException" "__getattribute__" (.ref x) [.str "__class__" t0] [] _ (by decide +kernel) (by decide +kernel) T1 (PySem.F.args_bexc_ga (.ref x) (.str "__class__" t0)) ?_
    unfold Builtin.«object.__getattribute__»
    refine wpAny_bind (wpAny_of_eq (a := ((Value.ref x : Value), [Value.str "__class__" t0])) (by first | rfl | (simp only [slotArgs]; rfl)) ?_)
    refine wpAny_bind (wpAny_pure (wpAny_bind (T0.at ?_)))
    refine wpAny_bind ((looks_find (M := model prog w) X I (findObj_data cD C.ha C.hn C.ht)).at ?_)
    show wpAny _ _ (holding [Value.builtin "object.__class__"] (call (.builtin "getset_descriptor.__get__") [.builtin "object.__class__", .ref x, .ref D]) >>= ret) _ _ _
    refine wpAny_bind (wpAny_holding (wpAny_call (class_get (s := ⟨h0, g0, d0, t0 + 1, o0⟩) (ox := ox) (od := some ob) (tp := .ref D) X I C.hm ?_)))
    refine wpAny_pure ?_
    show wpAny _ _ (handedOut (.ref D)) _ _ _
    rw [handedOut_of (v := .ref D) rfl]
    first
      | exact wpAny_pure (wpAny_pure h)
      | exact wpAny_pure h
      | exact wpAny_pure (wpAny_bind (wpAny_pure (wpAny_pure h)))
theorem kit_err (C : L2.ExcC K D) : KitX K (.ref x) (.ref D) (fun h => InstAt h x ox D (some ob)) where
  ty := fun _ _ _ I => I.type
  it := fun M h X _ => by
    obtain ⟨cd, e, _⟩ := any_some C.hd
    unfold clsIn at e
    split at e
    · rename_i a b c d ho
      intro A' Q' E' s' k q
      unfold isType loadHead
      exact wpAny_bind (wpAny_loadPart (k _ _ (X _ _ ho)) (wpAny_pure q))
    · cases e
  ne := fun h tp dd its n sl X htp => by
    obtain ⟨cd, e, _⟩ := any_some C.hd
    refine Bool.eq_false_iff.mpr fun q => ?_
    have e0 : D = tp := Value.ref.inj (beq_iff_eq.mp q)
    subst e0
    unfold clsIn at e
    split at e
    · rename_i a b c d ho
      cases (X _ _ ho).symm.trans htp
    · cases e
  ca := fun X I k => class_of_err C X I k
end
end DkI
namespace Dk
open PySem PySem.Spec PyProof.Rows L2
/-- isinstance(e, c), e the exception that the suite holds, dd its dict -/
def rIsD (K : PySem.W.Frag) (D a : Addr) (cls : Value) (d : Option Addr) : List V → Hp → VK → Prop := fun xs H Q => ∃ (c : V) (cv : Value) (b : Bool) (dd : Addr) (fs : List (Str × V)), cls = .ref D ∧ d = some dd ∧ H dd = some (.xd fs) ∧ xs = [.ref a, c] ∧ (∀ u, RelV c u → u = cv) ∧ PySem.W.kitOne K (.ref D) cv = some b ∧ Q (.bl b) H
theorem call_isD {X : Cx} {a D : Addr} {oe : Obj} {cls : Value} {d : Option Addr} {pn : List (Addr × Obj)} (C : ExcC X.K D) (hz : Zc cls d oe) (hf : ∃ vs, oe.data = .fields vs) : CallR (X.suite a ((a, oe) :: pn)) (.builtin "isinstance") (rIsD X.K D a cls d) := by
  intro pins s σ H xs us Q I r h
  obtain ⟨c, cv, b, dd, fs, rfl, rfl, ea, rfl, hcv, e, q⟩ := h
  cases r with
  | cons rx rr =>
    cases rr with
    | cons rt rr =>
      cases rr
      cases rx
      have ec := hcv _ rt
      subst ec
      obtain ⟨hget, _⟩ := I.pin (a, oe) (List.mem_append.mpr (.inl List.mem_cons_self))
      obtain ⟨vs, hv⟩ := hf
      have hx : ObjOk X.prog X.w H s.heap dd (.xd fs) := I.hok dd _ ea
      obtain ⟨mA, hns, _⟩ := hx
      obtain ⟨ob, ho, _⟩ := lookIn_ns hns
      have J : PySem.W.InstAt s.heap a oe D (some ob) := ⟨hget, hz.1, by unfold PySem.W.notCls; rw [hv] <;> rfl, by rw [hz.2]; exact ho⟩
      exact PySem.W.kia_one (DkI.kit_err C) I.kIn J e (fun z => nomatch z) fun tk => ⟨.bl b, H, I.kept (t' := tk) fun _ _ z => z, rfl, q⟩
end Dk

set_option Elab.async false
set_option linter.all false
set_option maxRecDepth 100000
set_option maxHeartbeats 1000000
namespace Dk
open PySem PySem.Spec PyProof.Rows L2 TL
/-! ### l.count(x), flat items -/
def rCntF (K : PySem.W.Frag) : V → List V → Hp → VK → Prop := fun x xs H Q => ∃ (a : Addr) (ys : List V) (y : V), x = .ref a ∧ xs = [y] ∧ SqL K H a ys ∧ flatV y = true ∧ ys.all flatV = true ∧ Q (.int ((ys.countP fun z => eqV z y : Nat) : Int)) H
theorem countP_vals {y : V} : ∀ {ys : List V} {us : List Value}, Vals ys us → ys.all flatV = true → us.countP (eqU y) = ys.countP fun z => eqV z y
  | _, _, .nil, _ => rfl
  | z :: ys, u :: us, .cons r t, f => by
    rw [List.all_cons, Bool.and_eq_true] at f
    rw [List.countP_cons, List.countP_cons, countP_vals t f.2, eqU_of r f.1]
theorem mt_countF {X : Cx} : MtR X "list.count" (rCntF X.K) := by
  intro pins s σ H x xs v us Q I rx rxs h
  obtain ⟨a, ys, y, rfl, rfl, hs, fy, fys, q⟩ := h
  cases rx
  obtain ⟨uy, rfl, ry⟩ := rxs.one
  obtain ⟨its, rv, ⟨⟨c0, dd, d0, sl⟩, n, ho, hc, _, hd⟩, _⟩ := I.list hs
  simp only at hc hd
  subst hc hd
  refine call_meets PySem.F.slot_list_count ⟨_, ho, rfl⟩ PySem.F.entry_list_count (PySem.F.args_list_count_2 _ _)
    (SeqAt.list_countAt a its.toArray n dd sl uy (eqU y)) ⟨ho, fun u' hu' => mem_eqAt ry fy rv fys u' (by simpa using hu'), ?_⟩
  refine ⟨.int ((ys.countP fun z => eqV z y : Nat) : Int), H, I.tok _, ⟨s.toks, ?_⟩, q⟩
  show Value.int ((its.toArray.toList.countP (eqU y) : Nat) : Int) s.toks = _
  rw [show its.toArray.toList.countP (eqU y) = ys.countP fun z => eqV z y from countP_vals rv fys]
/-! ### the kind of an error -/
def errNames : List Str := ["tick", "person", "limit", "different", "waiting", "contradiction", "name", "unknown", "house", "text", "code", "operation"]
structure TxtN (mg : Str → Option Value) (cs : Nat → Addr) (CE : Addr) : Prop where
  gE : mg "HouseError" = some (.ref CE)
  n0 : mg "InvalidTick" = some (.ref (cs 0))
  n1 : mg "UnknownPerson" = some (.ref (cs 1))
  n2 : mg "InvalidLimit" = some (.ref (cs 2))
  n3 : mg "DifferentHouses" = some (.ref (cs 3))
  n4 : mg "InvalidWaiting" = some (.ref (cs 4))
  n5 : mg "Contradiction" = some (.ref (cs 5))
  n6 : mg "InvalidName" = some (.ref (cs 6))
  n7 : mg "UnknownName" = some (.ref (cs 7))
  n8 : mg "InvalidHouse" = some (.ref (cs 8))
  n9 : mg "TextFault" = some (.ref (cs 9))
  n10 : mg "InvalidCode" = some (.ref (cs 10))
  n11 : mg "InvalidOperation" = some (.ref (cs 11))
  vE : mg "ValueError" = none
  isi : mg "isinstance" = none
/-- the class at D is the j-th -/
structure ErrKit (K : PySem.W.Frag) (cs : Nat → Addr) (CE D : Addr) (j : Nat) : Prop where
  at_ : ∀ i, i < 12 → PySem.W.kitOne K (.ref D) (.ref (cs i)) = some (decide (i = j))
  v : PySem.W.kitOne K (.ref D) (.type "ValueError") = some true
  ex : PySem.W.exmOne K (.ref D) (.ref CE) = some true
  C : ExcC K D
/-- isinstance(e, c) -/
def rIsX (K : PySem.W.Frag) (a : Addr) (cls : Value) (d : Option Addr) : List V → Hp → VK → Prop := fun xs H Q => ∃ (D : Addr) (_ : ExcC K D), rIsD K D a cls d xs H Q
theorem call_isX {X : Cx} {a : Addr} {oe : Obj} {cls : Value} {d : Option Addr} {pn : List (Addr × Obj)} (hz : Zc cls d oe) (hf : ∃ vs, oe.data = .fields vs) : CallR (X.suite a ((a, oe) :: pn)) (.builtin "isinstance") (rIsX X.K a cls d) := by
  intro pins s σ H xs us Q I r h
  obtain ⟨D, C, h⟩ := h
  exact call_isD C hz hf pins s σ H xs us Q I r h
abbrev tfFields (i : Int) : List (Str × V) := [("line", .int i)]
abbrev nErr : List Str := ["_law_call", "e", "_law_kinds", "_law_names", "_law_name"]
/-- what the call's error must tell: (word, value) -/
def EErr (K : PySem.W.Frag) (CI CT : Addr) (Q : VK) : XK := fun cls d H =>
  (∃ (part : Str) (i : Int) (dd : Addr), cls = .ref CI ∧ d = some dd ∧ H dd = some (.xd [("index", .int i), ("part", .str part)]) ∧
    ∀ (H' : Hp) (p t : Addr), Same H H' → H' t = some (.tup [.str part, .int i]) → H' p = some (.tup [.str (Str.ofString "house"), .ref t]) → Q (.ref p) H') ∨
  (∃ (i : Int) (dd : Addr), cls = .ref CT ∧ d = some dd ∧ H dd = some (.xd [("line", .int i)]) ∧
    ∀ (H' : Hp) (p : Addr), Same H H' → H' p = some (.tup [.str (Str.ofString "text"), .int i]) → Q (.ref p) H')
def TErr (K : PySem.W.Frag) (CI CT : Addr) : (XK → Hp → VK → Prop) → Hp → VK → Prop := fun tl H Q => tl (EErr K CI CT Q) H fun _ H' => Q .non H'
theorem scErr : FnScope nErr ["_law_call"] (defScope sErr) := ⟨rfl, rfl, rfl, by decide +kernel, rfl, by decide +kernel, by decide +kernel⟩
structure XFs (K : PySem.W.Frag) (CI CT : Addr) : Prop where
  xI : XfC K CI
  xT : XfC K CT
  nP : PySem.W.findIn K (.ref CI) "part" = some none
  nI : PySem.W.findIn K (.ref CI) "index" = some none
  nL : PySem.W.findIn K (.ref CT) "line" = some none
  nC : PySem.W.findIn K (.ref CI) "place" = some none
section
variable {P : Program} {w : World} {K : PySem.W.Frag} {mg : Str → Option Value} {base : Heap} {cs : Nat → Addr} {CE CI CT : Addr}
def flags (j : Nat) : List V := (List.range 12).map fun i => V.bl (decide (i = j))
theorem flags_flat (j : Nat) : (flags j).all flatV = true := by
  refine List.all_eq_true.mpr fun x hx => ?_
  obtain ⟨i, _, rfl⟩ := List.mem_map.mp hx
  rfl
theorem flags_at {j m : Nat} {z : V} (h : (flags j)[m]? = some z) : z = .bl (decide (m = j)) := by
  unfold flags at h
  rw [List.getElem?_map] at h
  cases e : (List.range 12)[m]? with
  | none => rw [e] at h; cases h
  | some i =>
    rw [e] at h
    have hi := List.getElem?_eq_some_iff.mp e
    obtain ⟨h1, h2⟩ := hi
    rw [List.getElem_range] at h2
    subst h2
    exact (Option.some.inj h).symm
theorem flags_no {j m : Nat} {z : V} (hm : m < j) (h : (flags j)[m]? = some z) : eqV z (.bl true) = false := by
  rw [flags_at h, decide_eq_false (by omega)]; rfl
theorem flags_yes {j : Nat} (h : j < 12) : (flags j)[j]? = some (.bl true) := by
  unfold flags
  rw [List.getElem?_map, List.getElem?_range h]
  show some (V.bl (decide (j = j))) = _
  rw [decide_eq_true rfl]
theorem flags_one : ∀ {j : Nat}, (j = 8 ∨ j = 9) → (flags j).countP (fun z => eqV z (.bl true)) = 1 := by
  rintro j (rfl | rfl) <;> rfl
theorem is_step {K : PySem.W.Frag} {cs : Nat → Addr} {CE D0 a dd : Addr} {j i : Nat} {fs : List (Str × V)} {H : Hp} {Q : VK} (EK : ErrKit K cs CE D0 j) (e : H dd = some (.xd fs)) (hi : i < 12) (q : Q (.bl (decide (i = j))) H) :
    rIsX K a (.ref D0) (some dd) [.ref a, .ref (cs i)] H Q := ⟨D0, EK.C, .ref (cs i), .ref (cs i), _, dd, fs, rfl, rfl, e, rfl, fun _ z => z, EK.at_ i hi, q⟩
abbrev cxE (X : Cx) (g : Addr) (cdg : Value) (s : Shared) (H : Hp) : Cx := (cxOf C8.CX0 X.prog X.w X.K X.mg X.base nErr "_law_error_of" (defScope sErr) g cdg X.A X.stack s H C8.E0).nox
abbrev suiteE : List Stmt := match defBody sErr with
  | .Try _ [.ExceptHandler _ _ b _] _ _ _ :: _ => b
  | _ => []
abbrev bodyE : List Stmt := match defBody sErr with
  | .Try b _ _ _ _ :: _ => b
  | _ => []
def tsS0 (K : PySem.W.Frag) (CI CT a : Addr) (cls : Value) (d : Option Addr) : TS := fun D σ H => (∃ v0 v2 v3 v4, σ = [v0, some (.ref a), v2, v3, v4]) ∧ EErr K CI CT D.rt cls d H
def tsS (K : PySem.W.Frag) (CI CT a : Addr) (cls : Value) (d : Option Addr) : TS := fun D σ H => (∃ σ0 : L2.St, σ = σ0.set 1 (some (.ref a))) ∧ EErr K CI CT D.rt cls d H
theorem five {σ0 : L2.St} {a : Addr} (h : (σ0.set 1 (some (V.ref a))).length = 5) : ∃ v0 v2 v3 v4, σ0.set 1 (some (V.ref a)) = [v0, some (.ref a), v2, v3, v4] := by
  rw [List.length_set] at h
  match σ0, h with
  | [v0, _, v2, v3, v4], _ => exact ⟨v0, v2, v3, v4, rfl⟩
theorem suite_ok {X : Cx} {g : Addr} {cdg : Value} {s : Shared} {H : Hp} (N : TxtN X.mg cs CE) (EI : ErrKit X.K cs CE CI 8) (ET : ErrKit X.K cs CE CT 9) (XF : XFs X.K CI CT) (hu : X.A.units + 100 < cLine)
    {a : Addr} {oe : Obj} {cls : Value} {d : Option Addr} {pn : List (Addr × Obj)} (hz : Zc cls d oe) (hf : ∃ vs, oe.data = .fields vs) : PSs ((cxE X g cdg s H).suite a ((a, oe) :: pn)) suiteE (tsS X.K CI CT a cls d) := by
  have isi : ((cxE X g cdg s H).suite a ((a, oe) :: pn)).mg "isinstance" = none := N.isi
  have hh : ∃ t, PSs ((cxE X g cdg s H).suite a ((a, oe) :: pn)) suiteE t ∧ ∀ D σ H', tsS0 X.K CI CT a cls d D σ H' → t D σ H' := by
    have hu2 : ((cxE X g cdg s H).suite a ((a, oe) :: pn)).A.units + 65 < cLine := by
      show X.A.units + 3 + 65 < cLine
      omega
    refine ⟨_, (pss_cons (ps_set (i := 2) scErr.nd rfl (.inl rfl) (pe_lst (pa_cons (pe_callB (call_isX hz hf) (by rfl) N.isi (by decide +kernel) (pa_cons (pv 1) (pa_cons (pe_glob (v := .ref (cs 0)) (by rfl) N.n0 rfl) pa_nil))) (pa_cons (pe_callB (call_isX hz hf) (by rfl) N.isi (by decide +kernel) (pa_cons (pv 1) (pa_cons (pe_glob (v := .ref (cs 1)) (by rfl) N.n1 rfl) pa_nil))) (pa_cons (pe_callB (call_isX hz hf) (by rfl) N.isi (by decide +kernel) (pa_cons (pv 1) (pa_cons (pe_glob (v := .ref (cs 2)) (by rfl) N.n2 rfl) pa_nil))) pa_nil)))))
      (pss_cons (ps_set (i := 2) scErr.nd rfl (.inl rfl) (pe_op op_cat (pv 2) (pe_lst (pa_cons (pe_callB (call_isX hz hf) (by rfl) N.isi (by decide +kernel) (pa_cons (pv 1) (pa_cons (pe_glob (v := .ref (cs 3)) (by rfl) N.n3 rfl) pa_nil))) (pa_cons (pe_callB (call_isX hz hf) (by rfl) N.isi (by decide +kernel) (pa_cons (pv 1) (pa_cons (pe_glob (v := .ref (cs 4)) (by rfl) N.n4 rfl) pa_nil))) (pa_cons (pe_callB (call_isX hz hf) (by rfl) N.isi (by decide +kernel) (pa_cons (pv 1) (pa_cons (pe_glob (v := .ref (cs 5)) (by rfl) N.n5 rfl) pa_nil))) pa_nil))))))
      (pss_cons (ps_set (i := 2) scErr.nd rfl (.inl rfl) (pe_op op_cat (pv 2) (pe_lst (pa_cons (pe_callB (call_isX hz hf) (by rfl) N.isi (by decide +kernel) (pa_cons (pv 1) (pa_cons (pe_glob (v := .ref (cs 6)) (by rfl) N.n6 rfl) pa_nil))) (pa_cons (pe_callB (call_isX hz hf) (by rfl) N.isi (by decide +kernel) (pa_cons (pv 1) (pa_cons (pe_glob (v := .ref (cs 7)) (by rfl) N.n7 rfl) pa_nil))) (pa_cons (pe_callB (call_isX hz hf) (by rfl) N.isi (by decide +kernel) (pa_cons (pv 1) (pa_cons (pe_glob (v := .ref (cs 8)) (by rfl) N.n8 rfl) pa_nil))) pa_nil))))))
      (pss_cons (ps_set (i := 2) scErr.nd rfl (.inl rfl) (pe_op op_cat (pv 2) (pe_lst (pa_cons (pe_callB (call_isX hz hf) (by rfl) N.isi (by decide +kernel) (pa_cons (pv 1) (pa_cons (pe_glob (v := .ref (cs 9)) (by rfl) N.n9 rfl) pa_nil))) (pa_cons (pe_callB (call_isX hz hf) (by rfl) N.isi (by decide +kernel) (pa_cons (pv 1) (pa_cons (pe_glob (v := .ref (cs 10)) (by rfl) N.n10 rfl) pa_nil))) (pa_cons (pe_callB (call_isX hz hf) (by rfl) N.isi (by decide +kernel) (pa_cons (pv 1) (pa_cons (pe_glob (v := .ref (cs 11)) (by rfl) N.n11 rfl) pa_nil))) pa_nil))))))
      (pss_cons (ps_if (PW.pt (pw_or (pt_cmpR op_ne (pe_bm PySem.F.plainAttrs_list PySem.F.slot_list_count PySem.F.type_list_count mt_countF (pv 2) (pa_cons pe_bl pa_nil)) pe_int (nomark _)) (pw_or1 (pt_not (pt_val (pe_callB (call_isX hz hf) (by rfl) N.isi (by decide +kernel) (pa_cons (pv 1) (pa_cons (pe_bltn (v := .ty "ValueError") (by rfl) N.vE (by decide +kernel) rfl) pa_nil)))))))) (pss_one (ps_ret (pe_tup (pa_cons pe_str (pa_cons pe_int pa_nil))))) pss_nil)
      (pss_cons (ps_set (i := 3) scErr.nd rfl (.inl rfl) (pe_lst (pa_cons pe_str (pa_cons pe_str (pa_cons pe_str (pa_cons pe_str (pa_cons pe_str (pa_cons pe_str (pa_cons pe_str (pa_cons pe_str (pa_cons pe_str (pa_cons pe_str pa_nil))))))))))))
      (pss_cons (ps_set (i := 4) scErr.nd rfl (.inl rfl) (pe_ix ix_list (pe_op op_cat (pv 3) (pe_lst (pa_cons pe_str (pa_cons pe_str pa_nil)))) (pe_bm PySem.F.plainAttrs_list PySem.F.slot_list_index PySem.F.type_list_index mt_index (pv 2) (pa_cons pe_bl pa_nil)) (fun _ _ => rfl)))
      (pss_cons (ps_if (pt_cmpR op_eq (pv 4) pe_str (nomark _)) (pss_one (ps_ret (pe_tup (pa_cons (pv 4) (pa_cons (pe_tup (pa_cons (pe_xf XF.xI XF.nP hz hf (pv 1)) (pa_cons (pe_xf XF.xI XF.nI hz hf (pv 1)) pa_nil))) pa_nil))))) pss_nil)
      (pss_cons (ps_if (pt_cmpR op_eq (pv 4) pe_str (nomark _)) (pss_one (ps_ret (pe_tup (pa_cons (pv 4) (pa_cons (pe_xf XF.xT XF.nL hz hf (pv 1)) pa_nil))))) pss_nil)
      (pss_one (ps_ret (pe_tup (pa_cons (pv 4) (pa_cons (pe_ifExp (pt_cmpR (op_inD (by show _ < cLine; exact hu2)) (pv 4) (pe_lst (pa_cons pe_str (pa_cons pe_str pa_nil))) (by rfl)) (pe_xf XF.xI XF.nC hz hf (pv 1)) pe_int) pa_nil)))))))))))))), fun D σ H' h => ?_⟩
    obtain ⟨⟨v0, v2, v3, v4, rfl⟩, h⟩ := h
    obtain ⟨D0, j, dd, fs, EK, ecls, ed, edd, hj, fin⟩ : ∃ (D0 : Addr) (j : Nat) (dd : Addr) (fs : List (Str × V)), ErrKit X.K cs CE D0 j ∧ cls = .ref D0 ∧ d = some dd ∧ H' dd = some (.xd fs) ∧ (j = 8 ∨ j = 9) ∧
        ((j = 8 ∧ D0 = CI ∧ ∃ (part : Str) (i : Int), fs = ihFields part i ∧ ∀ (H2 : Hp) (p t : Addr), Same H' H2 → H2 t = some (.tup [.str part, .int i]) → H2 p = some (.tup [.str (Str.ofString "house"), .ref t]) → D.rt (.ref p) H2) ∨
         (j = 9 ∧ D0 = CT ∧ ∃ (i : Int), fs = tfFields i ∧ ∀ (H2 : Hp) (p : Addr), Same H' H2 → H2 p = some (.tup [.str (Str.ofString "text"), .int i]) → D.rt (.ref p) H2)) := by
      rcases h with ⟨part, i, dd, e1, e2, e3, k⟩ | ⟨i, dd, e1, e2, e3, k⟩
      · exact ⟨CI, 8, dd, _, EI, e1, e2, e3, .inl rfl, .inl ⟨rfl, rfl, part, i, rfl, k⟩⟩
      · exact ⟨CT, 9, dd, _, ET, e1, e2, e3, .inr rfl, .inr ⟨rfl, rfl, i, rfl, k⟩⟩
    subst ecls ed
    clear h
    -- the kinds
    refine ⟨_, rfl, is_step EK edd (by decide) ⟨_, rfl, is_step EK edd (by decide) ⟨_, rfl, is_step EK edd (by decide) ⟨by show 3 ≤ sizeLine; decide, fun l1 hl1 => ?_⟩⟩⟩⟩
    have s1 := same_upd (o := .lst [.bl (decide (0 = j)), .bl (decide (1 = j)), .bl (decide (2 = j))]) hl1
    have e1 : (upd H' l1 (.lst [.bl (decide (0 = j)), .bl (decide (1 = j)), .bl (decide (2 = j))])) l1 = some (.lst [.bl (decide (0 = j)), .bl (decide (1 = j)), .bl (decide (2 = j))]) := upd_same
    generalize upd H' l1 (.lst [.bl (decide (0 = j)), .bl (decide (1 = j)), .bl (decide (2 = j))]) = H1 at s1 e1
    refine ⟨_, rfl, _, rfl, is_step EK (s1 _ _ edd) (by decide) ⟨_, rfl, is_step EK (s1 _ _ edd) (by decide) ⟨_, rfl, is_step EK (s1 _ _ edd) (by decide) ⟨by show 3 ≤ sizeLine; decide, fun l2 hl2 => ?_⟩⟩⟩⟩
    have s2 := s1.trans (same_upd (o := .lst [.bl (decide (3 = j)), .bl (decide (4 = j)), .bl (decide (5 = j))]) hl2)
    have e1' := same_upd (o := .lst [.bl (decide (3 = j)), .bl (decide (4 = j)), .bl (decide (5 = j))]) hl2 _ _ e1
    have e2 : (upd H1 l2 (.lst [.bl (decide (3 = j)), .bl (decide (4 = j)), .bl (decide (5 = j))])) l2 = some (.lst [.bl (decide (3 = j)), .bl (decide (4 = j)), .bl (decide (5 = j))]) := upd_same
    refine ⟨l1, l2, _, _, rfl, rfl, e1', e2, by show 3 + 3 ≤ sizeLine; decide, fun p1 hp1 => ?_⟩
    have s3 := s2.trans (same_upd (o := .lst ([.bl (decide (0 = j)), .bl (decide (1 = j)), .bl (decide (2 = j))] ++ [.bl (decide (3 = j)), .bl (decide (4 = j)), .bl (decide (5 = j))])) hp1)
    have f1 : (upd (upd H1 l2 (.lst [.bl (decide (3 = j)), .bl (decide (4 = j)), .bl (decide (5 = j))])) p1 (.lst ([.bl (decide (0 = j)), .bl (decide (1 = j)), .bl (decide (2 = j))] ++ [.bl (decide (3 = j)), .bl (decide (4 = j)), .bl (decide (5 = j))]))) p1 = some (.lst (([.bl (decide (0 = j)), .bl (decide (1 = j)), .bl (decide (2 = j))] ++ [.bl (decide (3 = j)), .bl (decide (4 = j)), .bl (decide (5 = j))]))) := upd_same
    generalize upd (upd H1 l2 (.lst [.bl (decide (3 = j)), .bl (decide (4 = j)), .bl (decide (5 = j))])) p1 (.lst ([.bl (decide (0 = j)), .bl (decide (1 = j)), .bl (decide (2 = j))] ++ [.bl (decide (3 = j)), .bl (decide (4 = j)), .bl (decide (5 = j))])) = H2 at s3 f1
    generalize eA : ([.bl (decide (0 = j)), .bl (decide (1 = j)), .bl (decide (2 = j))] ++ [.bl (decide (3 = j)), .bl (decide (4 = j)), .bl (decide (5 = j))] : List V) = A6 at f1
    have lA : A6.length = 6 := by rw [← eA]; rfl
    clear e1' e2 s1 s2 e1 hl1 hl2 hp1
    refine ⟨_, rfl, _, rfl, is_step EK (s3 _ _ edd) (by decide) ⟨_, rfl, is_step EK (s3 _ _ edd) (by decide) ⟨_, rfl, is_step EK (s3 _ _ edd) (by decide) ⟨by show 3 ≤ sizeLine; decide, fun l3 hl3 => ?_⟩⟩⟩⟩
    have s4 := s3.trans (same_upd (o := .lst [.bl (decide (6 = j)), .bl (decide (7 = j)), .bl (decide (8 = j))]) hl3)
    have f1' := same_upd (o := .lst [.bl (decide (6 = j)), .bl (decide (7 = j)), .bl (decide (8 = j))]) hl3 _ _ f1
    have e3 : (upd H2 l3 (.lst [.bl (decide (6 = j)), .bl (decide (7 = j)), .bl (decide (8 = j))])) l3 = some (.lst [.bl (decide (6 = j)), .bl (decide (7 = j)), .bl (decide (8 = j))]) := upd_same
    generalize upd H2 l3 (.lst [.bl (decide (6 = j)), .bl (decide (7 = j)), .bl (decide (8 = j))]) = H3 at s4 f1' e3
    refine ⟨p1, l3, _, _, rfl, rfl, f1', e3, by rw [lA]; show 6 + 3 ≤ sizeLine; decide, fun p2 hp2 => ?_⟩
    have s5 := s4.trans (same_upd (o := .lst (A6 ++ [.bl (decide (6 = j)), .bl (decide (7 = j)), .bl (decide (8 = j))])) hp2)
    have f2 : (upd H3 p2 (.lst (A6 ++ [.bl (decide (6 = j)), .bl (decide (7 = j)), .bl (decide (8 = j))]))) p2 = some (.lst (A6 ++ [.bl (decide (6 = j)), .bl (decide (7 = j)), .bl (decide (8 = j))])) := upd_same
    generalize upd H3 p2 (.lst (A6 ++ [.bl (decide (6 = j)), .bl (decide (7 = j)), .bl (decide (8 = j))])) = H4 at s5 f2
    clear f1' e3 s3 s4 f1 hl3 hp2
    refine ⟨_, rfl, _, rfl, is_step EK (s5 _ _ edd) (by decide) ⟨_, rfl, is_step EK (s5 _ _ edd) (by decide) ⟨_, rfl, is_step EK (s5 _ _ edd) (by decide) ⟨by show 3 ≤ sizeLine; decide, fun l4 hl4 => ?_⟩⟩⟩⟩
    have s6 := s5.trans (same_upd (o := .lst [.bl (decide (9 = j)), .bl (decide (10 = j)), .bl (decide (11 = j))]) hl4)
    have f2' := same_upd (o := .lst [.bl (decide (9 = j)), .bl (decide (10 = j)), .bl (decide (11 = j))]) hl4 _ _ f2
    have e4 : (upd H4 l4 (.lst [.bl (decide (9 = j)), .bl (decide (10 = j)), .bl (decide (11 = j))])) l4 = some (.lst [.bl (decide (9 = j)), .bl (decide (10 = j)), .bl (decide (11 = j))]) := upd_same
    generalize upd H4 l4 (.lst [.bl (decide (9 = j)), .bl (decide (10 = j)), .bl (decide (11 = j))]) = H5 at s6 f2' e4
    refine ⟨p2, l4, _, _, rfl, rfl, f2', e4, by rw [List.length_append, lA]; show 9 + 3 ≤ sizeLine; decide, fun p3 hp3 => ?_⟩
    have s7 := s6.trans (same_upd (o := .lst ((A6 ++ [.bl (decide (6 = j)), .bl (decide (7 = j)), .bl (decide (8 = j))]) ++ [.bl (decide (9 = j)), .bl (decide (10 = j)), .bl (decide (11 = j))])) hp3)
    have fk : (upd H5 p3 (.lst ((A6 ++ [.bl (decide (6 = j)), .bl (decide (7 = j)), .bl (decide (8 = j))]) ++ [.bl (decide (9 = j)), .bl (decide (10 = j)), .bl (decide (11 = j))]))) p3 = some (.lst (flags j)) := by rw [upd_same, ← eA]; rfl
    generalize upd H5 p3 (.lst ((A6 ++ [.bl (decide (6 = j)), .bl (decide (7 = j)), .bl (decide (8 = j))]) ++ [.bl (decide (9 = j)), .bl (decide (10 = j)), .bl (decide (11 = j))])) = H6 at s7 fk
    clear f2' e4 s5 s6 f2 eA lA hl4 hp3
    -- one kind
    refine ⟨_, rfl, .inl ⟨rfl, _, SqL.of fk⟩, p3, flags j, .bl true, rfl, rfl, SqL.of fk, rfl, flags_flat j, rfl, _, rfl, ?_⟩
    rw [show (!decide (V.int (((flags j).countP fun z => eqV z (V.bl true) : Nat) : Int) = V.int 1)) = false by rw [flags_one hj]; rfl]
    refine iteF ⟨_, rfl, D0, EK.C, .ty "ValueError", .type "ValueError", true, dd, fs, rfl, rfl, s7 _ _ edd, rfl, fun _ z => z, EK.v, _, rfl, iteF ?_⟩
    -- its word
    refine ⟨by show 10 ≤ sizeLine; decide, fun lN hlN => ?_⟩
    generalize eN : ([V.str (Str.ofString "tick"), V.str (Str.ofString "person"), V.str (Str.ofString "limit"), V.str (Str.ofString "different"), V.str (Str.ofString "waiting"), V.str (Str.ofString "contradiction"), V.str (Str.ofString "name"), V.str (Str.ofString "unknown"), V.str (Str.ofString "house"), V.str (Str.ofString "text")] : List V) = N10 at hlN ⊢
    have s8 := s7.trans (same_upd (o := .lst N10) hlN)
    have fk2 := same_upd (o := .lst N10) hlN _ _ fk
    have fN : (upd H6 lN (.lst N10)) lN = some (.lst N10) := upd_same
    generalize upd H6 lN (.lst N10) = H7 at s8 fk2 fN
    refine ⟨_, rfl, by show 2 ≤ sizeLine; decide, fun l5 hl5 => ?_⟩
    have s9 := s8.trans (same_upd (o := .lst [V.str (Str.ofString "code"), V.str (Str.ofString "operation")]) hl5)
    have fk3 := same_upd (o := .lst [V.str (Str.ofString "code"), V.str (Str.ofString "operation")]) hl5 _ _ fk2
    have fN2 := same_upd (o := .lst [V.str (Str.ofString "code"), V.str (Str.ofString "operation")]) hl5 _ _ fN
    have f5 : (upd H7 l5 (.lst [V.str (Str.ofString "code"), V.str (Str.ofString "operation")])) l5 = some (.lst [V.str (Str.ofString "code"), V.str (Str.ofString "operation")]) := upd_same
    generalize upd H7 l5 (.lst [V.str (Str.ofString "code"), V.str (Str.ofString "operation")]) = H8 at s9 fk3 fN2 f5
    have lN10 : N10.length = 10 := by rw [← eN]; rfl
    refine ⟨lN, l5, _, _, rfl, rfl, fN2, f5, by rw [lN10]; show 10 + 2 ≤ sizeLine; decide, fun p5 hp5 => ?_⟩
    have s10 := s9.trans (same_upd (o := .lst (N10 ++ [V.str (Str.ofString "code"), V.str (Str.ofString "operation")])) hp5)
    have fk4 := same_upd (o := .lst (N10 ++ [V.str (Str.ofString "code"), V.str (Str.ofString "operation")])) hp5 _ _ fk3
    have f6 : (upd H8 p5 (.lst (N10 ++ [V.str (Str.ofString "code"), V.str (Str.ofString "operation")]))) p5 = some (.lst (N10 ++ [V.str (Str.ofString "code"), V.str (Str.ofString "operation")])) := upd_same
    generalize upd H8 p5 (.lst (N10 ++ [V.str (Str.ofString "code"), V.str (Str.ofString "operation")])) = H9 at s10 fk4 f6
    have j12 : j < 12 := by rcases hj with rfl | rfl <;> decide
    clear s7 s8 s9 fk fk2 fk3 fN fN2 f5 hlN hl5 hp5
    refine ⟨_, rfl, .inl ⟨rfl, _, SqL.of fk4⟩, p3, flags j, .bl true, j, .bl true, rfl, rfl, SqL.of fk4, rfl, flags_flat j, flags_yes j12, rfl, fun m z' hm hz' => flags_no hm hz', ?_⟩
    have edd2 := s10 _ _ edd
    rcases fin with ⟨rfl, rfl, part, i, rfl, k⟩ | ⟨rfl, rfl, i, rfl, k⟩
    · refine ⟨p5, _, ((8 : Nat) : Int), .str (Str.ofString "house"), rfl, rfl, SqL.of f6, by rw [← eN]; exact atI_nat (j := 8) rfl, ?_⟩
      refine ⟨_, rfl, rfl, _, rfl, iteT ?_⟩
      refine ⟨_, rfl, _, rfl, rfl, rfl, dd, _, .str part, rfl, edd2, rfl, _, rfl, rfl, rfl, dd, _, .int i, rfl, edd2, rfl, by show 2 ≤ sizeLine; decide, fun t ht => ⟨by show 2 ≤ sizeLine; decide, fun p hp => ?_⟩⟩
      exact k _ p t ((s10.trans (same_upd ht)).trans (same_upd hp)) (same_upd hp _ _ upd_same) upd_same
    · refine ⟨p5, _, ((9 : Nat) : Int), .str (Str.ofString "text"), rfl, rfl, SqL.of f6, by rw [← eN]; exact atI_nat (j := 9) rfl, ?_⟩
      refine ⟨_, rfl, rfl, _, rfl, iteF ?_⟩
      refine ⟨_, rfl, rfl, _, rfl, iteT ?_⟩
      refine ⟨_, rfl, _, rfl, rfl, rfl, dd, _, .int i, rfl, edd2, rfl, by show 2 ≤ sizeLine; decide, fun p hp => ?_⟩
      exact k _ p (s10.trans (same_upd hp)) upd_same
  obtain ⟨t, ht, hi⟩ := hh
  refine ⟨fun pins s' σ H' D I h => ?_⟩
  obtain ⟨⟨σ0, rfl⟩, h⟩ := h
  exact ht.run pins s' _ H' D I (hi D _ H' ⟨five I.len, h⟩)
theorem err_gives {X : Cx} {q : Str} {g : Addr} {cdg : Value} (N : TxtN X.mg cs CE) (EI : ErrKit X.K cs CE CI 8) (ET : ErrKit X.K cs CE CT 9) (XF : XFs X.K CI CT) (hu : X.A.units + 100 < cLine) :
    LamX.GivesTo X nErr "_law_error_of" (defScope sErr) g cdg (defBody sErr) "_law_call" q (TErr X.K CI CT) := by
  intro f c' s H Q tl act hc h
  have hd : (("HouseError" : Str) == ("__debug__" : Str)) = false := by decide
  refine ⟨_, pss_cons (ps_try_as (X := cxE X g cdg s H) (x := "HouseError") (n := "e") (c := .ref CE) (i := 1) (Wout := fun _ _ _ _ => False) (ts := fun a cls d => tsS X.K CI CT a cls d)
      (tb := fun W D σ H => ∃ Ech : XK, (∀ cls d σ' H', Ech cls d H' → W cls d σ' H') ∧ (∃ σ0 : L2.St, σ = σ0 ∧ σ[0]? = some (some (.ref f))) ∧ H c' = some (LamX.CodeO c' q) ∧ tl Ech H fun _ H1 => D.nx σ H1)
      rfl rfl scErr.nd rfl rfl ⟨rfl, hd, .inl N.gE⟩ LamX.takes0 (fun W pn xe tk _ => ?_) (fun a oe cls d pn hz hf => suite_ok N EI ET XF hu hz hf)) (pss_one (ps_ret pe_non)), ?_⟩
  · refine ⟨fun pins s' σ H' D I h' => ?_⟩
    obtain ⟨Ech, hW, ⟨σ0, _, h1⟩, h2, h3⟩ := h'
    exact (show PSs ((cxE X g cdg s H).tr pn xe) bodyE (tDrop _) from pss_one (ps_expr (act W pn xe Ech _ _ tk hW))).run pins s' σ H' D I ⟨h1, h2, h3⟩
  · refine ⟨EErr X.K CI CT Q, fun cls d σ' H' hE => ?_, ⟨_, rfl, rfl⟩, hc, ?_⟩
    · refine ⟨true, ?_, fun _ a ha => ⟨⟨σ', rfl⟩, hE⟩, fun z => nomatch z⟩
      rcases hE with ⟨_, _, _, e, _⟩ | ⟨_, _, e, _⟩
      · rw [e]; exact EI.ex
      · rw [e]; exact ET.ex
    · exact h
end
end Dk

set_option Elab.async false
set_option linter.all false
set_option maxRecDepth 100000
set_option maxHeartbeats 1000000
namespace Dk
open PySem PySem.Spec PyProof.Rows L2 TL
/-! ### text * number -/
theorem op_mulStr {X : Cx} : OpR X (binaryOp .Mult) (fun x y H Q => ∃ z k, x = .str z ∧ y = .int k ∧ MulOk z k ∧ Q (.str (Txt.mul z k)) H) := by
  intro pins s σ H x y v u Q I rx ry h
  obtain ⟨z, k, rfl, rfl, hz, q⟩ := h
  obtain ⟨t, rfl⟩ := rx
  obtain ⟨t', rfl⟩ := ry
  exact SB.mul hz fun t' tk => ⟨.str (Txt.mul z k), H, I.tok _, ⟨_, rfl⟩, q⟩
/-! ### heaps with a table -/
/-- all is as it was but d and the tables -/
def KpN (d : Addr) (H H' : Hp) : Prop := ∀ b o, b ≠ d → H b = some o → (∀ ps, o ≠ .tbl ps) → H' b = some o
theorem KpN.of {d : Addr} {H H' : Hp} (k : Kp d H H') : KpN d H H' := fun b o n e _ => k b o n e
theorem KpN.same {d : Addr} {H H' : Hp} (s : Same H H') : KpN d H H' := fun b o _ e _ => s b o e
theorem KpN.ext {d : Addr} {H H' : Hp} (s : LamX.ExtN H H') : KpN d H H' := fun b o _ e n => s b o e n
theorem KpN.refl {d : Addr} {H : Hp} : KpN d H H := fun _ _ _ e _ => e
theorem KpN.trans {d : Addr} {H H1 H2 : Hp} (a : KpN d H H1) (b : KpN d H1 H2) : KpN d H H2 := fun c o n e q => b c o n (a c o n e q) q
theorem KpN.tup {d : Addr} {H H' : Hp} {xs : List V} (k : KpN d H H') (hd : H d = some (.lst xs)) : ∀ t ys, H t = some (.tup ys) → H' t = some (.tup ys) := fun t ys h => k t _ (fun e => by rw [e, hd] at h; cases h) h fun ps z => by cases z
theorem tabs_kp {T : List (Addr × Str)} {d : Addr} {H H' : Hp} {xs : List V} (t : LamX.Tabs T H) (k : Kp d H H') (hd : H d = some (.lst xs)) : LamX.Tabs T H' := fun p hp => by
  obtain ⟨ps, h1, h2, h3⟩ := t p hp
  refine ⟨ps, k _ _ (fun e => by rw [e, hd] at h1; cases h1) h1, h2, fun pos cv hc => ?_⟩
  obtain ⟨c, e1, e2⟩ := h3 pos cv hc
  exact ⟨c, e1, k _ _ (fun e => by rw [e, hd] at e2; unfold LamX.CodeO at e2; cases e2) e2⟩
theorem tabs_same {T : List (Addr × Str)} {H H' : Hp} (t : LamX.Tabs T H) (s : Same H H') : LamX.Tabs T H' := t.ext s
theorem extN_same {H H' : Hp} (s : Same H H') : LamX.ExtN H H' := fun b o e _ => s b o e
theorem ExtN_lst {H H' : Hp} {a : Addr} {xs : List V} (e : LamX.ExtN H H') (h : H a = some (.lst xs)) : H' a = some (.lst xs) := e _ _ h fun ps z => by cases z
theorem ExtN_tup {H H' : Hp} {a : Addr} {xs : List V} (e : LamX.ExtN H H') (h : H a = some (.tup xs)) : H' a = some (.tup xs) := e _ _ h fun ps z => by cases z
/-! ### if _law_error_of(..) != ("house", (part, i)): return False -/
def tPair (part : Str) (tI : TE) : TE := tTup (tCons (tC (.str (Str.ofString "house"))) (tCons (tTup (tCons (tC (.str part)) (tCons tI tNil))) tNil))
theorem eqv_house (part : Str) (i : Int) : PyData.eqv (.tuple [.str (Str.ofString "house"), .tuple [.str part, .int i]]) (.tuple [.str (Str.ofString "house"), .tuple [.str part, .int i]]) = true := by
  show ((Str.ofString "house" == Str.ofString "house") && (((part == part) && ((i == i) && true)) && true)) = true
  rw [beq_self_eq_true, beq_self_eq_true, beq_self_eq_true]; rfl
theorem pair_shaped {part : Str} {i : Int} (hs : PyData.strOk part = true) : SeqAt.shaped (.tuple [.str (Str.ofString "house"), .tuple [.str part, .int i]]) = true := by
  unfold SeqAt.shaped; simp [PyData.canLay0, PyData.canLayAll0, PyData.depth, PyData.depthAll]
  exact ⟨by decide +kernel, hs⟩
theorem chk_step {K : PySem.W.Frag} {T : List (Addr × Str)} {CI CT : Addr} {t : XK → TE} {tI : TE} {part : Str} {i : Int} {D : Ends} {σ : L2.St} {H : Hp} {tr : TS} (hs : PyData.strOk part = true) (hT : LamX.Tabs T H)
    (ht : ∀ (H1 : Hp) (E : XK) (Q0 : VK), LamX.ExtN H H1 → LamX.Tabs T H1 → (∀ H2, Same H1 H2 → Raised CI E H2 part i) → t E σ H1 Q0)
    (hI : ∀ (H1 : Hp) (Q : VK), Q (.int i) H1 → tI σ H1 Q) (k : ∀ H1, LamX.ExtN H H1 → LamX.Tabs T H1 → D.nx σ H1) :
    tIfS (tTest (tOp (rNeD K) (LamX.tLam T (TErr K CI CT) t) (tPair part tI))) tr tNext D σ H := by
  refine ⟨hT, fun H1 x1 T1 => ht H1 _ _ x1 T1 fun H2 s2 H3 dd s3 hdd edd => .inl ⟨part, i, dd, rfl, rfl, edd, fun H4 p t0 s4 et ep => ?_⟩⟩
  refine hI _ _ ⟨by show 2 ≤ sizeLine; decide, fun q1 hq1 => ⟨by show 2 ≤ sizeLine; decide, fun q2 hq2 => ?_⟩⟩
  have s14 : Same H1 H4 := (s2.trans s3).trans s4
  have s5 := same_upd (o := .tup [.str part, .int i]) hq1
  have s6 := same_upd (o := .tup [.str (Str.ofString "house"), .ref q1]) hq2
  have s16 := (s14.trans s5).trans s6
  refine ⟨.tuple [.str (Str.ofString "house"), .tuple [.str part, .int i]], .tuple [.str (Str.ofString "house"), .tuple [.str part, .int i]],
    .tup (SqT.of (s6 _ _ (s5 _ _ ep))) (.cons (.str _) (.cons (.tup (SqT.of (s6 _ _ (s5 _ _ et))) (.cons (.str _) (.cons (.int _) .nil))) .nil)),
    .tup (SqT.of upd_same) (.cons (.str _) (.cons (.tup (SqT.of (s6 _ _ upd_same)) (.cons (.str _) (.cons (.int _) .nil))) .nil)), ?_, ?_, _, rfl, ?_⟩
  · exact pair_shaped hs
  · exact pair_shaped hs
  rw [eqv_house]
  exact iteF (k _ (x1.trans (extN_same s16)) (tabs_same T1 s16))
/-! ### a def with a known code object -/
structure FunAt (K : PySem.W.Frag) (x qual : Str) (st : Stmt) (f c : Addr) (fd : FuncData) : Prop where
  ex : ∃ (oc : Value) (od : Option Addr) (kV doc pm : Value) (an : Option Addr) (ct : Value) (osl : Array (Option Value)),
    fd = PySem.W.fnOf x qual (defArgs st) (defBody st) (defScope st) .none kV doc pm an (.ref c) ct ∧ K.lookup f = some ⟨oc, od, .func fd, osl⟩ ∧ PySem.W.codeIn K (.ref c) qual = true
theorem FunAt.ok {P : Program} {w : World} {K : PySem.W.Frag} {mg : Str → Option Value} {base : Heap} {x qual : Str} {st : Stmt} {f c : Addr} {fd : FuncData} {N ps : List Str} {k : Nat} {sp : Sp} (F : FunAt K x qual st f c fd) (S : FnScope N ps (defScope st)) (len : ∀ vs H Q E, sp vs H Q E → vs.length = ps.length)
    (hbody : ∀ (A : Around) (outer : List Env) (s : Shared) (H : Hp) (vs : List V) (Q : VK) (E : XK), Room k (A.deeper (envOfC qual (defScope st) s.heap.objs.size f (.ref c))) → sp vs H Q E →
      ∃ t, PSs (cxOf CX0 P w K mg base N qual (defScope st) f (.ref c) A outer s H E).nox (defBody st) t ∧ t { nx := fun _ H' => Q .non H', rt := Q } (start N vs) H) : FnOk P w K mg base CX0 (k + 1) f fd ps sp := by
  obtain ⟨oc, od, kV, doc, pm, an, ct, osl, rfl, lk, hcd⟩ := F.ex
  refine fn_of lk hcd S len fun A outer s H vs Q E hr hsp => ?_
  obtain ⟨t, h, q⟩ := hbody A outer s H vs Q E hr hsp
  exact ⟨t, h.nox, q⟩
/-! ### _law_error_of(lambda: ..) -/
theorem pe_errof {X : Cx} {cs : Nat → Addr} {CE CI CT fE c P : Addr} {fdE : FuncData} {T : List (Addr × Str)} {params : Arguments} {body : Expr} {scope : Scope} {t : XK → TE} {p lpos pos : Pos} (N : TxtN X.mg cs CE) (EI : ErrKit X.K cs CE CI 8) (ET : ErrKit X.K cs CE CT 9) (XF : XFs X.K CI CT)
    (hg : Gl X "_law_error_of") (hm : X.mg "_law_error_of" = some (.ref fE)) (FE : Fun X.K "_law_error_of" "_law_error_of" sErr fE fdE) (bE : Binds X.K fdE ["_law_call"] [])
    (TB : LamX.TabB X.base X.mg c P) (hcode : X.env.code = .ref c) (hmT : (P, X.env.qual ++ "<lambda>") ∈ T) (hu : ∀ p ∈ T, p.1 = P → p.2 = X.env.qual ++ "<lambda>") (hr : Room 8 X.A) (L : LamX.LamS X.env.scope scope) (hdef : defaultsOf params X.env = ([], []))
    (hbind : ∀ (q : Str) (cl : List (Str × Addr)) (pm cv ctv : Value), bindArgs (PySem.W.kla_fn "<lambda>" q params body scope cl pm cv ctv) ⟨[], []⟩ = pure [])
    (hbody : ∀ (A : Around) (outer : List Env) (s : Shared) (H : Hp) (E : XK) (f c' : Addr), Room 6 (A.deeper (LamX.lamEnv X scope s.heap.objs.size f c')) → PE (LamX.lamCx X A outer s H E scope f c') body (t E)) :
    PE X (.Call (.Name "_law_error_of" p) [.Lambda params body scope lpos] [] pos) (LamX.tLam T (TErr X.K CI CT) t) := by
  obtain ⟨oc, od, kV, doc, pm, an, cdv, ct, osl, rfl, lk, hcd⟩ := FE.ex
  refine LamX.pe_lamcall (Ng := nErr) (a := "_law_call") (k := 6) hg hm FE.kp lk hcd bE scErr rfl (.inl rfl) (err_gives N EI ET XF ?_) TB hcode hmT hu hr L hdef hbind hbody
  have := hr.un
  omega
end Dk

set_option Elab.async false
set_option linter.all false
set_option maxRecDepth 100000
set_option maxHeartbeats 1000000
namespace Dk
open PySem PySem.Spec PyProof.Rows L2 TL
/-! ### valid parts -/
def dStrs (ts : List Str) : PyData := .tuple (ts.map PyData.str)
def dInts (ns : List Int) : PyData := .tuple (ns.map PyData.int)
def dPrs (rs : List Pr) : PyData := .tuple (rs.map prR)
theorem dpAll_ints {K : PySem.W.Frag} {H : Hp} : ∀ ns : List Int, DpAll K H (ns.map V.int) (ns.map PyData.int)
  | [] => .nil
  | n :: ns => .cons (.int n) (dpAll_ints ns)
theorem getD_map {α : Type} (f : α → PyData) {l : List α} {i : Nat} {x : α} (h : l[i]? = some x) : (l.map f).getD i .none = f x := getD_of (by rw [List.getElem?_map, h]; rfl)
theorem pair_lt {α : Type} {R : α → α → Prop} : ∀ {l : List α} {j : Nat} {x y : α}, l.Pairwise R → l[j]? = some x → l[j + 1]? = some y → R x y
  | [], _, _, _, _, h, _ => by simp at h
  | a :: l, 0, x, y, hp, h1, h2 => by
    simp at h1; subst h1
    have h2' : l[0]? = some y := by simpa using h2
    exact (List.pairwise_cons.mp hp).1 y (List.mem_of_getElem? h2')
  | a :: l, j + 1, x, y, hp, h1, h2 => pair_lt (j := j) (List.pairwise_cons.mp hp).2 (by simpa using h1) (by simpa using h2)
theorem below_is {i n : Int} (h0 : 0 ≤ i) (h1 : i < n) : below (.int i) n = true := by
  show (decide ((0 : Int) ≤ i) && decide (i < n)) = true
  rw [decide_eq_true h0, decide_eq_true h1]; rfl
theorem careful_is {cs : List Int} {n : Int} (hp : cs.Pairwise (· < ·)) (hm : ∀ c ∈ cs, (0 : Int) ≤ c ∧ c < n) : chkCareful (dInts cs) n = none := by
  show bad1 _ 0 _ = none
  refine bad1_none.mpr fun j d hd => ?_
  rw [List.getElem?_map] at hd
  cases e : cs[j]? with
  | none => rw [e] at hd; cases hd
  | some c =>
    rw [e] at hd
    have ed : PyData.int c = d := Option.some.inj hd
    subst ed
    have hc := hm c (List.mem_of_getElem? e)
    rw [below_is hc.1 hc.2, Nat.zero_add]
    have : ascI (cs.map PyData.int) j = true := by
      cases j with
      | zero => rfl
      | succ i =>
        have hi : i < cs.length := by have := (List.getElem?_eq_some_iff.mp e).1; omega
        have e0 : cs[i]? = some cs[i] := List.getElem?_eq_getElem hi
        show decide (intOf _ < intOf _) = true
        rw [getD_map _ e0, getD_map _ e]
        exact decide_eq_true (pair_lt hp e0 e)
    rw [this]; rfl
theorem rem_is {rs : List Pr} {per n : Int} (hp : rs.Pairwise plt) (hm : ∀ r ∈ rs, (0 : Int) ≤ r.1 ∧ r.1 < per ∧ (0 : Int) ≤ r.2 ∧ r.2 < n) (h10 : rs.length ≤ 10) : chkRem (dPrs rs) per n = none := by
  show bad1 _ 0 _ = none
  refine bad1_none.mpr fun j d hd => ?_
  rw [List.getElem?_map] at hd
  cases e : rs[j]? with
  | none => rw [e] at hd; cases hd
  | some r =>
    rw [e] at hd
    have ed : prR r = d := Option.some.inj hd
    subst ed
    have hr := hm r (List.mem_of_getElem? e)
    have hj : j < rs.length := (List.getElem?_eq_some_iff.mp e).1
    have h1 : isRemD (prR r) per n = true := by
      show (below (.int r.1) per && below (.int r.2) n) = true
      rw [below_is hr.1 hr.2.1, below_is hr.2.2.1 hr.2.2.2]; rfl
    have h2 : (j == 10) = false := by simp; omega
    rw [h1, Nat.zero_add, h2]
    have : ascP (rs.map prR) j = true := by
      cases j with
      | zero => rfl
      | succ i =>
        have hi : i < rs.length := by omega
        have e0 : rs[i]? = some rs[i] := List.getElem?_eq_getElem hi
        have hlt := pair_lt hp e0 e
        show HT.lexLt _ _ = true
        rw [getD_map _ e0, getD_map _ e]
        generalize rs[i] = q at hlt
        obtain ⟨q1, q2⟩ := q
        obtain ⟨r1, r2⟩ := r
        show (if q1 = r1 then (if q2 = r2 then false else decide (q2 < r2)) else decide (q1 < r1)) = true
        rcases hlt with h | ⟨h, h'⟩
        · have h : q1 < r1 := h
          rw [if_neg (by omega)]; exact decide_eq_true h
        · have h : q1 = r1 := h
          have h' : q2 < r2 := h'
          rw [if_pos h, if_neg (by omega)]; exact decide_eq_true h'
    rw [this]; rfl
theorem parts_is {ts : List Str} {k : Int} {cs : List Int} {rs : List Pr} (h : Parts ts k cs rs) : chkHouse (dStrs ts) (.int k) (dInts cs) (dPrs rs) = none := by
  have h1 : chkTabs (dStrs ts) = none := tabs_is h.tabs h.n1 h.n6
  have h2 : chkKeys (.int k) = none := by unfold chkKeys; rw [if_pos (below_is h.k0 (by have := h.k9; omega))]
  have hl : (lenD (dStrs ts) : Int) = (ts.length : Int) := by show (((ts.map PyData.str).length : Nat) : Int) = _; rw [List.length_map]
  have hp : (perD (dStrs ts) : Int) = (per ts : Int) := by show (per ((ts.map PyData.str).map strOf) : Int) = _; rw [strs_back]
  have h3 : chkCareful (dInts cs) (lenD (dStrs ts) : Int) = none := by rw [hl]; exact careful_is h.cp h.cm
  have h4 : chkRem (dPrs rs) (perD (dStrs ts) : Int) (lenD (dStrs ts) : Int) = none := by rw [hl, hp]; exact rem_is h.rp h.rm h.r10
  unfold chkHouse
  rw [h1]; dsimp only
  rw [h2]; dsimp only
  rw [h3]; dsimp only
  rw [h4]
/-! ### pieces of tuples -/
theorem cut_take {xs : List V} {n : Int} (h0 : 0 ≤ n) (h1 : n ≤ (xs.length : Int)) : cutV xs none (some n) = xs.take n.toNat := by
  obtain ⟨k, rfl⟩ := Int.eq_ofNat_of_zero_le h0
  unfold cutV
  rw [HT.sIx_none, HT.sIx_nat, List.drop_zero, Nat.sub_zero, Int.toNat_natCast, Nat.min_eq_left (by omega)]
theorem cut_drop {xs : List V} {n : Int} (h0 : 0 ≤ n) (h1 : n ≤ (xs.length : Int)) : cutV xs (some n) none = xs.drop n.toNat := by
  obtain ⟨k, rfl⟩ := Int.eq_ofNat_of_zero_le h0
  unfold cutV
  rw [HT.sIx_none, HT.sIx_nat, Int.toNat_natCast, Nat.min_eq_left (by omega)]
  exact List.take_of_length_le (by rw [List.length_drop]; omega)
theorem cut_whole {xs : List V} {lo hi : Option Int} (h : HT.sIx xs.length 0 lo = 0 ∧ HT.sIx xs.length xs.length hi = xs.length) : cutV xs lo hi = xs := by
  unfold cutV
  rw [h.1, h.2, List.drop_zero, Nat.sub_zero, List.take_length]
theorem sl_any {K : PySem.W.Frag} {H : Hp} {a : Addr} {xs : List V} {lo hi : Option Int} {Q : VK} (h : SqT K H a xs) (k : ∀ (H' : Hp) (p : Addr), Same H H' → SqT K H' p (cutV xs lo hi) → Q (.ref p) H') : rSlA K (.ref a) lo hi H Q :=
  ⟨a, xs, rfl, h, fun c => k H a (Same.refl H) (by rw [cut_whole c]; exact h), fun _ p hp => k _ p (same_upd hp) (SqT.of upd_same)⟩
theorem cat_any {K : PySem.W.Frag} {H : Hp} {a b : Addr} {xs ys : List V} {Q : VK} (ha : SqT K H a xs) (hb : SqT K H b ys) (hz : xs.length + ys.length ≤ 1000) (k : ∀ (H' : Hp) (p : Addr), Same H H' → SqT K H' p (xs ++ ys) → Q (.ref p) H') : rCatA K (.ref a) (.ref b) H Q :=
  ⟨a, b, xs, ys, rfl, rfl, ha, hb, Nat.le_trans hz (by decide), fun e => k H b (Same.refl H) (by rw [e, List.nil_append]; exact hb), fun _ e => k H a (Same.refl H) (by rw [e, List.append_nil]; exact ha), fun _ _ p hp => k _ p (same_upd hp) (SqT.of upd_same)⟩
theorem at_some {xs : List V} {r : Int} (h0 : 0 ≤ r) (h1 : r < (xs.length : Int)) : ∃ (j : Nat) (v : V), r = (j : Int) ∧ atI xs r = some v ∧ xs[j]? = some v := by
  obtain ⟨j, rfl⟩ := Int.eq_ofNat_of_zero_le h0
  have hj : j < xs.length := by omega
  exact ⟨j, xs[j], rfl, atI_nat (List.getElem?_eq_getElem hj), List.getElem?_eq_getElem hj⟩
/-! ### a house that is refused -/
theorem house_fail {K : PySem.W.Frag} {CH CI : Addr} {H1 : Hp} {E : XK} {Q0 : VK} {vT vK vC vR : V} {dT dK dC dR : PyData} {part : Str} {i : Nat} (hT : Dp K H1 vT dT) (hK : Dp K H1 vK dK) (hC : Dp K H1 vC dC) (hR : Dp K H1 vR dR)
    (hz : ∀ ds, dT = .tuple ds → ∀ x ∈ ds, SmallS x) (hc : chkHouse dT dK dC dR = some (part, i)) (hE : ∀ H2, Same H1 H2 → Raised CI E H2 part (i : Int)) :
    ∀ x dx, H1 x = none → H1 dx = none → dx ≠ x → spInit K CH CI [.ref x, vT, vK, vC, vR] (upd (upd H1 dx (.own x)) x (.ins CH dx [])) (fun v H2 => v = .non ∧ Q0 (.ref x) H2) E := by
  intro p dx hpn hdx npd
  have sN : Same H1 (upd (upd H1 dx (.own p)) p (.ins CH dx [])) := fun b o e => by
    rw [upd_ne (ne_of_none e hpn), upd_ne (ne_of_none e hdx)]; exact e
  refine ⟨p, dx, vT, vK, vC, vR, dT, dK, dC, dR, rfl, dpSame sN _ _ hT, dpSame sN _ _ hK, dpSame sN _ _ hC, dpSame sN _ _ hR, hz, upd_same, fun h => ?_, fun part' i' h => ?_⟩
  · rw [hc] at h; cases h
  · rw [hc] at h
    cases h
    exact hE _ sN
theorem house_ok {K : PySem.W.Frag} {CH CI : Addr} {H1 : Hp} {E : XK} {Q0 : VK} {vT vK vC vR : V} {dT dK dC dR : PyData} (hT : Dp K H1 vT dT) (hK : Dp K H1 vK dK) (hC : Dp K H1 vC dC) (hR : Dp K H1 vR dR)
    (hz : ∀ ds, dT = .tuple ds → ∀ x ∈ ds, SmallS x) (hc : chkHouse dT dK dC dR = none) (k : ∀ (H' : Hp) (p dx : Addr), Same H1 H' → H' p = some (.ins CH dx (hFields vT vK vC vR)) → Q0 (.ref p) H') :
    ∀ x dx, H1 x = none → H1 dx = none → dx ≠ x → spInit K CH CI [.ref x, vT, vK, vC, vR] (upd (upd H1 dx (.own x)) x (.ins CH dx [])) (fun v H2 => v = .non ∧ Q0 (.ref x) H2) E := by
  intro p dx hpn hdx npd
  have sN : Same H1 (upd (upd H1 dx (.own p)) p (.ins CH dx [])) := fun b o e => by
    rw [upd_ne (ne_of_none e hpn), upd_ne (ne_of_none e hdx)]; exact e
  refine ⟨p, dx, vT, vK, vC, vR, dT, dK, dC, dR, rfl, dpSame sN _ _ hT, dpSame sN _ _ hK, dpSame sN _ _ hC, dpSame sN _ _ hR, hz, upd_same, fun _ H7 k7 e7 => ⟨rfl, k H7 p dx (fun b o e => k7 b o (ne_of_none e hpn) (sN _ _ e)) e7⟩, fun part' i' h => ?_⟩
  rw [hc] at h; cases h
theorem house_ok2 {K : PySem.W.Frag} {CH CI : Addr} {H1 : Hp} {E : XK} {Q : VK} {vT vK vC vR : V} {dT dK dC dR : PyData} {p dx : Addr} (hpn : H1 p = none) (hdx : H1 dx = none) (hT : Dp K H1 vT dT) (hK : Dp K H1 vK dK) (hC : Dp K H1 vC dC) (hR : Dp K H1 vR dR)
    (hz : ∀ ds, dT = .tuple ds → ∀ x ∈ ds, SmallS x) (hc : chkHouse dT dK dC dR = none) (k : ∀ (H' : Hp), Same H1 H' → H' p = some (.ins CH dx (hFields vT vK vC vR)) → Q .non H') :
    spInit K CH CI [.ref p, vT, vK, vC, vR] (upd (upd H1 dx (.own p)) p (.ins CH dx [])) Q E := by
  have sN : Same H1 (upd (upd H1 dx (.own p)) p (.ins CH dx [])) := fun b o e => by
    rw [upd_ne (ne_of_none e hpn), upd_ne (ne_of_none e hdx)]; exact e
  refine ⟨p, dx, vT, vK, vC, vR, dT, dK, dC, dR, rfl, dpSame sN _ _ hT, dpSame sN _ _ hK, dpSame sN _ _ hC, dpSame sN _ _ hR, hz, upd_same, fun _ H7 k7 e7 => k H7 (fun b o e => k7 b o (ne_of_none e hpn) (sN _ _ e)) e7, fun part' i' h => ?_⟩
  rw [hc] at h; cases h
/-! ### the first bad item -/
theorem bad1_at {p : Nat → PyData → Bool} {A B : List PyData} {x : PyData} (hA : ∀ (i : Nat) (a : PyData), A[i]? = some a → p i a = false) (hx : p A.length x = true) : bad1 p 0 (A ++ x :: B) = some A.length := by
  have key : ∀ (A : List PyData) (n : Nat), (∀ (i : Nat) (a : PyData), A[i]? = some a → p (n + i) a = false) → p (n + A.length) x = true → bad1 p n (A ++ x :: B) = some (n + A.length) := by
    intro A
    induction A with
    | nil => intro n _ hx; show (if p n x then some n else _) = _; rw [if_pos (by simpa using hx)]; rfl
    | cons a A ih =>
      intro n hA hx
      show (if p n a then some n else bad1 p (n + 1) (A ++ x :: B)) = _
      rw [if_neg (by rw [show p n a = false from hA 0 a rfl]; decide), ih (n + 1) (fun i b hb => by rw [Nat.add_assoc, Nat.add_comm 1 i]; exact hA (i + 1) b (by simpa using hb)) (by rw [Nat.add_assoc, Nat.add_comm 1]; exact hx), List.length_cons]
      congr 1
      omega
  have := key A 0 (fun i a h => by rw [Nat.zero_add]; exact hA i a h) (by rw [Nat.zero_add]; exact hx)
  rw [Nat.zero_add] at this
  exact this
theorem chkTabs_bad {A B : List PyData} {x : PyData} (h6 : A.length ≤ 6) (hA : ∀ a ∈ A, isTabD a = true) (hx : isTabD x = false) : chkTabs (.tuple (A ++ x :: B)) = some A.length := by
  have h : bad1 (fun i t => i == 6 || !isTabD t) 0 (A ++ x :: B) = some A.length := bad1_at (fun i a ha => by
    have hi := (List.getElem?_eq_some_iff.mp ha).1
    rw [hA a (List.mem_of_getElem? ha), show (i == 6) = false by simp; omega]; rfl) (by rw [hx]; simp)
  cases A with
  | nil => exact h
  | cons a A => exact h
theorem house_tabs {dT dK dC dR : PyData} {i : Nat} (h : chkTabs dT = some i) : chkHouse dT dK dC dR = some ((Str.ofString "tables"), i) := by unfold chkHouse; rw [h]
theorem chk_bad {t : PyData} : isTabD t = false → SmallS t → isTabD t = false ∧ SmallS t := fun a b => ⟨a, b⟩
def D13 : List PyData := [.str (Str.ofString ""), .str (Str.ofString "x"), .str (Str.ofString "hox"), .str (Str.ofString "H"), .str (Str.ofString "hoh ho"), .str (Str.ofString "ohohohohoh"), .int 5, .none, .tuple [.str (Str.ofString "h")], .list [.str (Str.ofString "h")], .str (Str.ofString "hohoh"), .str (Txt.mul (Str.ofString "h") 7), .str (Str.ofString "hohoo")]
def L13 (q1 q2 : Addr) : List V := [.str (Str.ofString ""), .str (Str.ofString "x"), .str (Str.ofString "hox"), .str (Str.ofString "H"), .str (Str.ofString "hoh ho"), .str (Str.ofString "ohohohohoh"), .int 5, .non, .ref q1, .ref q2, .str (Str.ofString "hohoh"), .str (Txt.mul (Str.ofString "h") 7), .str (Str.ofString "hohoo")]
theorem d13_bad : ∀ x ∈ D13, isTabD x = false ∧ SmallS x := by
  intro x hx
  simp only [D13, List.mem_cons, List.not_mem_nil, or_false] at hx
  rcases hx with rfl | rfl | rfl | rfl | rfl | rfl | rfl | rfl | rfl | rfl | rfl | rfl | rfl <;> exact ⟨by decide +kernel, by first | trivial | (show Str.length _ ≤ 100000; decide +kernel)⟩
theorem l13_dp {K : PySem.W.Frag} {H : Hp} {q1 q2 : Addr} (h1 : H q1 = some (.tup [.str (Str.ofString "h")])) (h2 : H q2 = some (.lst [.str (Str.ofString "h")])) : DpAll K H (L13 q1 q2) D13 :=
  .cons (.str _) (.cons (.str _) (.cons (.str _) (.cons (.str _) (.cons (.str _) (.cons (.str _) (.cons (.int _) (.cons .non (.cons (.tup (SqT.of h1) (.cons (.str _) .nil)) (.cons (.lst (SqL.of h2) (.cons (.str _) .nil)) (.cons (.str _) (.cons (.str _) (.cons (.str _) .nil))))))))))))
/-- the chosen item, wherever -/
theorem pick {K : PySem.W.Frag} {d : Addr} {H : Hp} {L : List V} {D : List PyData} {j : Nat} {v : V} (h : ∀ H', KpN d H H' → DpAll K H' L D) (e : L[j]? = some v) : ∃ x, D[j]? = some x ∧ ∀ H', KpN d H H' → Dp K H' v x := by
  obtain ⟨x, ex, _⟩ := dpAll_get (h H KpN.refl) e
  refine ⟨x, ex, fun H' k => ?_⟩
  obtain ⟨y, ey, hy⟩ := dpAll_get (h H' k) e
  rw [ex] at ey
  cases ey
  exact hy
theorem dpAll_app {K : PySem.W.Frag} {H : Hp} : ∀ {xs : List V} {ds : List PyData} {ys : List V} {es : List PyData}, DpAll K H xs ds → DpAll K H ys es → DpAll K H (xs ++ ys) (ds ++ es)
  | [], [], _, _, .nil, b => b
  | _ :: _, _ :: _, _, _, .cons h t, b => .cons h (dpAll_app t b)
theorem sqT_any {K : PySem.W.Frag} {H : Hp} {a : Addr} {xs : List V} (h : SqT K (fun _ => none) a xs) : SqT K H a xs := by
  rcases h with (h | ⟨o, h⟩) | h
  · cases h
  · cases h
  · exact .inr h
theorem small_strs {ts : List Str} (h : Tabs ts) : ∀ x ∈ ts.map PyData.str, SmallS x := by
  intro x hx
  obtain ⟨t, ht, rfl⟩ := List.mem_map.mp hx
  show t.length ≤ 100000
  have := (h t ht).pos.2
  rw [len_tl]; omega
/-! ### the heap without d and the tables -/
def hid (d : Addr) (H : Hp) : Hp := fun b => if b = d then none else match H b with
  | some (.tbl _) => none
  | o => o
theorem hid_at {d b : Addr} {H : Hp} {o : HO} (h : H b = some o) (n : b ≠ d) (nt : ∀ ps, o ≠ .tbl ps) : hid d H b = some o := by
  unfold hid
  rw [if_neg n, h]
  cases o <;> first | rfl | exact absurd rfl (nt _)
theorem of_hid {d b : Addr} {H : Hp} {o : HO} (h : hid d H b = some o) : b ≠ d ∧ H b = some o ∧ ∀ ps, o ≠ .tbl ps := by
  unfold hid at h
  by_cases e : b = d
  · rw [if_pos e] at h; cases h
  · rw [if_neg e] at h
    cases q : H b with
    | none => rw [q] at h; cases h
    | some u =>
      rw [q] at h
      cases u <;> first | cases h; done | (cases h; exact ⟨e, rfl, fun ps z => by cases z⟩)
theorem hid_kp {d : Addr} {H H' : Hp} (k : KpN d H H') : Same (hid d H) (hid d H') := fun b o e => by
  obtain ⟨n, h, nt⟩ := of_hid e
  exact hid_at (k b o n h nt) n nt
theorem hid_sub {d : Addr} {H : Hp} : Same (hid d H) H := fun b o e => (of_hid e).2.1
def Dn (K : PySem.W.Frag) (d : Addr) (H : Hp) (v : V) (x : PyData) : Prop := Dp K (hid d H) v x
theorem Dn.kp {K : PySem.W.Frag} {d : Addr} {H H' : Hp} {v : V} {x : PyData} (h : Dn K d H v x) (k : KpN d H H') : Dn K d H' v x := dpSame (hid_kp k) _ _ h
theorem Dn.dp {K : PySem.W.Frag} {d : Addr} {H : Hp} {v : V} {x : PyData} (h : Dn K d H v x) : Dp K H v x := dpSame hid_sub _ _ h
structure It2 (K : PySem.W.Frag) (d : Addr) (H : Hp) (v : V) (x : PyData) (i : Int) : Prop where
  ex : ∃ t b, v = .ref t ∧ hid d H t = some (.tup [b, .int i]) ∧ Dn K d H b x
def Its (K : PySem.W.Frag) (d : Addr) (H : Hp) (L : List V) (D : List (PyData × Int)) : Prop := Paired (fun v (p : PyData × Int) => It2 K d H v p.1 p.2) L D
theorem Its.kp {K : PySem.W.Frag} {d : Addr} {H H' : Hp} : ∀ {L : List V} {D : List (PyData × Int)}, Its K d H L D → KpN d H H' → Its K d H' L D
  | [], [], .nil, _ => .nil
  | _ :: _, _ :: _, .cons h t, k => .cons (let ⟨a, b, e, f, g⟩ := h.ex; ⟨a, b, e, hid_kp k _ _ f, g.kp k⟩) (Its.kp t k)
theorem Its.app {K : PySem.W.Frag} {d : Addr} {H : Hp} : ∀ {L : List V} {D : List (PyData × Int)} {v : V} {p : PyData × Int}, Its K d H L D → It2 K d H v p.1 p.2 → Its K d H (L ++ [v]) (D ++ [p])
  | [], [], _, _, .nil, h => .cons h .nil
  | _ :: _, _ :: _, _, _, .cons a b, h => .cons a (Its.app b h)
theorem Its.get {K : PySem.W.Frag} {d : Addr} {H : Hp} : ∀ {L : List V} {D : List (PyData × Int)} {j : Nat} {v : V}, Its K d H L D → L[j]? = some v → ∃ p, p ∈ D ∧ It2 K d H v p.1 p.2
  | [], [], _, _, .nil, e => by simp at e
  | _ :: _, p :: _, 0, _, .cons a _, e => by
    simp at e; subst e; exact ⟨p, List.mem_cons_self .., a⟩
  | _ :: _, _ :: _, j + 1, _, .cons _ b, e => by
    obtain ⟨p, h1, h2⟩ := Its.get (j := j) b (by simpa using e)
    exact ⟨p, List.mem_cons_of_mem _ h1, h2⟩
theorem l5_bad {ts : List Str} (h : Tabs ts) : ∀ x ∈ ([.none, .tuple [], .list (ts.map PyData.str), .str (Str.ofString "ho"), .int 5] : List PyData), chkTabs x = some 0 ∧ ∀ ds, x = .tuple ds → ∀ y ∈ ds, SmallS y := by
  intro x hx
  simp only [List.mem_cons, List.not_mem_nil, or_false] at hx
  rcases hx with rfl | rfl | rfl | rfl | rfl
  · exact ⟨rfl, fun ds e => by cases e⟩
  · exact ⟨rfl, fun ds e y hy => by cases e; cases hy⟩
  · exact ⟨rfl, fun ds e => by cases e⟩
  · exact ⟨rfl, fun ds e => by cases e⟩
  · exact ⟨rfl, fun ds e => by cases e⟩
theorem keys_bad : ∀ x ∈ ([.int (0 - 1), .int 10, .none, .bool true, .str (Str.ofString "1"), .tuple [.int 1]] : List PyData), chkKeys x = some 0 := by
  intro x hx
  simp only [List.mem_cons, List.not_mem_nil, or_false] at hx
  rcases hx with rfl | rfl | rfl | rfl | rfl | rfl <;> rfl
theorem house_keys {dT dK dC dR : PyData} (h : chkTabs dT = none) (h2 : chkKeys dK = some 0) : chkHouse dT dK dC dR = some ((Str.ofString "keys"), 0) := by unfold chkHouse; rw [h]; dsimp only; rw [h2]
theorem house_careful {dT dK dC dR : PyData} {i : Nat} (h : chkTabs dT = none) (h2 : chkKeys dK = none) (h3 : chkCareful dC (lenD dT : Int) = some i) : chkHouse dT dK dC dR = some ((Str.ofString "careful"), i) := by unfold chkHouse; rw [h]; dsimp only; rw [h2]; dsimp only; rw [h3]
theorem house_rem {dT dK dC dR : PyData} {i : Nat} (h : chkTabs dT = none) (h2 : chkKeys dK = none) (h3 : chkCareful dC (lenD dT : Int) = none) (h4 : chkRem dR (perD dT : Int) (lenD dT : Int) = some i) : chkHouse dT dK dC dR = some ((Str.ofString "reminders"), i) := by unfold chkHouse; rw [h]; dsimp only; rw [h2]; dsimp only; rw [h3]; dsimp only; rw [h4]
section
variable {K : PySem.W.Frag} {d : Addr} {H : Hp} {zs : List V} {Q : VK}
theorem pair_new {L : List V} {D : List (PyData × Int)} {b : V} {x : PyData} {i : Int} {t : Addr} (a : Its K d H L D) (hd : H d = some (.lst zs)) (hb : Dn K d H b x) (ht : H t = none) : Same H (upd H t (.tup [b, .int i])) ∧ Its K d (upd H t (.tup [b, .int i])) (L ++ [.ref t]) (D ++ [(x, i)]) := by
  have s := same_upd (o := .tup [b, .int i]) ht
  exact ⟨s, (a.kp (KpN.same s)).app ⟨t, b, rfl, hid_at upd_same (ne_of_none hd ht).symm (fun ps z => by cases z), hb.kp (KpN.same s)⟩⟩
theorem tup_new {vs : List V} {ds : List PyData} {t : Addr} (hv : DpAll K (hid d H) vs ds) (hd : H d = some (.lst zs)) (ht : H t = none) : Same H (upd H t (.tup vs)) ∧ Dn K d (upd H t (.tup vs)) (.ref t) (.tuple ds) := by
  have s := same_upd (o := .tup vs) ht
  exact ⟨s, .tup (SqT.of (hid_at upd_same (ne_of_none hd ht).symm (fun ps z => by cases z))) (dpAllSame (hid_kp (KpN.same (d := d) s)) _ _ hv)⟩
theorem lst_new {vs : List V} {ds : List PyData} {t : Addr} (hv : DpAll K (hid d H) vs ds) (hd : H d = some (.lst zs)) (ht : H t = none) : Same H (upd H t (.lst vs)) ∧ Dn K d (upd H t (.lst vs)) (.ref t) (.list ds) := by
  have s := same_upd (o := .lst vs) ht
  exact ⟨s, .lst (SqL.of (hid_at upd_same (ne_of_none hd ht).symm (fun ps z => by cases z))) (dpAllSame (hid_kp (KpN.same (d := d) s)) _ _ hv)⟩
end
theorem range_at {n i : Nat} {x : PyData} (h : ((List.range n).map fun k => PyData.int (0 + (k : Nat)))[i]? = some x) : i < n ∧ x = .int (i : Int) := by
  rw [List.getElem?_map] at h
  cases e : (List.range n)[i]? with
  | none => rw [e] at h; cases h
  | some k =>
    rw [e] at h
    obtain ⟨h1, h2⟩ := List.getElem?_eq_some_iff.mp e
    rw [List.getElem_range] at h2
    subst h2
    refine ⟨by rw [List.length_range] at h1; exact h1, ?_⟩
    have := (Option.some.inj h).symm
    rw [this]
    show PyData.int (0 + (i : Int)) = .int (i : Int)
    rw [Int.zero_add]
theorem dp_range {K : PySem.W.Frag} {H : Hp} (n : Nat) : DpAll K H (rgV 0 (n : Int)) ((List.range n).map fun k => PyData.int (0 + (k : Nat))) := by
  unfold rgV
  rw [Int.sub_zero, Int.toNat_natCast]
  generalize List.range n = l
  induction l with
  | nil => exact .nil
  | cons a l ih => exact .cons (.int _) ih
def C9 (n : Nat) (cs : List Int) : List (PyData × Int) := [(.none, 0), (.int 5, 0), (.list (cs.map PyData.int), 0), (.tuple [.int (n : Int)], 0), (.tuple [.int (0 - 1)], 0), (.tuple [.bool true], 0), (.tuple [.int 0, .int 0], 1), (.tuple [.str (Str.ofString "0")], 0), (.tuple (((List.range n).map fun k => PyData.int (0 + (k : Nat))) ++ [.int 0]), (n : Int))]
theorem c9_bad {n : Nat} {cs : List Int} (h1 : 1 ≤ n) : ∀ p ∈ C9 n cs, ∃ k : Nat, p.2 = (k : Int) ∧ chkCareful p.1 (n : Int) = some k := by
  intro p hp
  simp only [C9, List.mem_cons, List.not_mem_nil, or_false] at hp
  rcases hp with rfl | rfl | rfl | rfl | rfl | rfl | rfl | rfl | rfl
  · exact ⟨0, rfl, rfl⟩
  · exact ⟨0, rfl, rfl⟩
  · exact ⟨0, rfl, rfl⟩
  · refine ⟨0, rfl, ?_⟩
    show (if (!(decide ((0 : Int) ≤ (n : Int)) && decide ((n : Int) < (n : Int))) || !true) = true then some 0 else none) = some 0
    rw [decide_eq_false (Int.lt_irrefl (n : Int))]
    simp
  · exact ⟨0, rfl, rfl⟩
  · exact ⟨0, rfl, rfl⟩
  · refine ⟨1, rfl, ?_⟩
    have h0 : below (.int 0) (n : Int) = true := below_is (Int.le_refl 0) (by omega)
    show (if (!below (.int 0) (n : Int) || !true) = true then some 0 else if (!below (.int 0) (n : Int) || !decide ((0 : Int) < 0)) = true then some 1 else none) = some 1
    rw [h0]; rfl
  · exact ⟨0, rfl, rfl⟩
  · refine ⟨n, rfl, ?_⟩
    have hl : ((List.range n).map fun k => PyData.int (0 + (k : Nat))).length = n := by rw [List.length_map, List.length_range]
    have := bad1_at (p := fun i x => !below x (n : Int) || !ascI (((List.range n).map fun k => PyData.int (0 + (k : Nat))) ++ [.int 0]) i) (A := (List.range n).map fun k => PyData.int (0 + (k : Nat))) (B := []) (x := .int 0) (fun i a ha => ?_) ?_
    · rw [hl] at this; exact this
    · obtain ⟨hi, rfl⟩ := range_at ha
      rw [below_is (by omega) (by omega)]
      have : ascI (((List.range n).map fun k => PyData.int (0 + (k : Nat))) ++ [.int 0]) i = true := by
        cases i with
        | zero => rfl
        | succ m =>
          have g1 : (((List.range n).map fun k => PyData.int (0 + (k : Nat))) ++ [PyData.int 0]).getD m .none = .int (0 + ((m : Nat) : Int)) := getD_of (by rw [List.getElem?_append_left (by rw [hl]; omega), List.getElem?_map, List.getElem?_range (by omega)]; rfl)
          have g2 : (((List.range n).map fun k => PyData.int (0 + (k : Nat))) ++ [PyData.int 0]).getD (m + 1) .none = .int (0 + ((m + 1 : Nat) : Int)) := getD_of (by rw [List.getElem?_append_left (by rw [hl]; omega), List.getElem?_map, List.getElem?_range (by omega)]; rfl)
          show decide (intOf _ < intOf _) = true
          rw [g1, g2]
          exact decide_eq_true (by show (0 : Int) + (m : Int) < 0 + ((m + 1 : Nat) : Int); omega)
      rw [this]; rfl
    · rw [hl]
      have : ascI (((List.range n).map fun k => PyData.int (0 + (k : Nat))) ++ [.int 0]) n = false := by
        cases n with
        | zero => omega
        | succ m =>
          have g1 : (((List.range (m + 1)).map fun k => PyData.int (0 + (k : Nat))) ++ [PyData.int 0]).getD m .none = .int (0 + ((m : Nat) : Int)) := getD_of (by rw [List.getElem?_append_left (by rw [hl]; omega), List.getElem?_map, List.getElem?_range (by omega)]; rfl)
          have g2 : (((List.range (m + 1)).map fun k => PyData.int (0 + (k : Nat))) ++ [PyData.int 0]).getD (m + 1) .none = .int 0 := getD_of (by rw [List.getElem?_append_right (by rw [hl]; omega), hl, Nat.sub_self]; rfl)
          show decide (intOf _ < intOf _) = false
          rw [g1, g2]
          exact decide_eq_false (by show ¬ ((0 : Int) + (m : Int) < 0); omega)
      rw [this]; simp
theorem its_hid2 {K : PySem.W.Frag} {d l : Addr} {H G : Hp} (s : Same (hid d H) (hid l G)) : ∀ {L : List V} {D : List (PyData × Int)}, Its K d H L D → Its K l G L D
  | [], [], .nil => .nil
  | _ :: _, _ :: _, .cons h t => .cons (let ⟨a, b, e, f, g⟩ := h.ex; ⟨a, b, e, s _ _ f, dpSame s _ _ g⟩) (its_hid2 s t)
theorem hid_two {d l : Addr} {H : Hp} {o : HO} (h : H l = none) : Same (hid d H) (hid l (hid d (upd H l o))) := fun b u e => by
  obtain ⟨n, q, nt⟩ := of_hid e
  have nl : b ≠ l := ne_of_none q h
  exact hid_at (hid_at (by rw [upd_ne nl]; exact q) n nt) nl nt
theorem kpn_set {d l : Addr} {H : Hp} {o : HO} : KpN l (hid d H) (hid d (upd H l o)) := fun b u n e nt => by
  obtain ⟨m, q, _⟩ := of_hid e
  exact hid_at (by rw [upd_ne n]; exact q) m nt
def R12 (n per : Nat) : List (PyData × Int) := [(.none, 0), (.list [], 0), (.tuple [.tuple [.int (per : Int), .int 0]], 0), (.tuple [.tuple [.int 0, .int (n : Int)]], 0), (.tuple [.tuple [.int 0, .int 0], .tuple [.int 0, .int 0]], 1), (.tuple [.tuple [.int 0]], 0), (.tuple [.int 0, .int 0], 0), (.tuple [.tuple [.int 0, .int 0, .int 0]], 0), (.tuple [.list [.int 0, .int 0]], 0), (.tuple [.tuple [.bool true, .int 0]], 0), (.tuple [.tuple [.int (0 - 1), .int 0]], 0), (.tuple [.tuple [.int 0, .none]], 0)]
theorem r12_bad {n per : Nat} (h1 : 1 ≤ n) (h2 : 1 ≤ per) : ∀ p ∈ R12 n per, ∃ k : Nat, p.2 = (k : Int) ∧ chkRem p.1 (per : Int) (n : Int) = some k := by
  intro p hp
  have b0 : below (.int 0) (n : Int) = true := below_is (Int.le_refl 0) (by omega)
  have b1 : below (.int 0) (per : Int) = true := below_is (Int.le_refl 0) (by omega)
  simp only [R12, List.mem_cons, List.not_mem_nil, or_false] at hp
  rcases hp with rfl | rfl | rfl | rfl | rfl | rfl | rfl | rfl | rfl | rfl | rfl | rfl
  · exact ⟨0, rfl, rfl⟩
  · exact ⟨0, rfl, rfl⟩
  · refine ⟨0, rfl, ?_⟩
    show (if ((0 == 10) || !(below (.int (per : Int)) (per : Int) && below (.int 0) (n : Int)) || !true) = true then some 0 else none) = some 0
    have : below (.int (per : Int)) (per : Int) = false := by show (decide ((0 : Int) ≤ (per : Int)) && decide ((per : Int) < (per : Int))) = false; rw [decide_eq_false (Int.lt_irrefl (per : Int))]; simp
    rw [this]; rfl
  · refine ⟨0, rfl, ?_⟩
    show (if ((0 == 10) || !(below (.int 0) (per : Int) && below (.int (n : Int)) (n : Int)) || !true) = true then some 0 else none) = some 0
    have : below (.int (n : Int)) (n : Int) = false := by show (decide ((0 : Int) ≤ (n : Int)) && decide ((n : Int) < (n : Int))) = false; rw [decide_eq_false (Int.lt_irrefl (n : Int))]; simp
    rw [this, b1]; rfl
  · refine ⟨1, rfl, ?_⟩
    show (if ((0 == 10) || !(below (.int 0) (per : Int) && below (.int 0) (n : Int)) || !true) = true then some 0 else if ((0 + 1 == 10) || !(below (.int 0) (per : Int) && below (.int 0) (n : Int)) || !HT.lexLt [0, 0] [0, 0]) = true then some 1 else none) = some 1
    rw [b0, b1]; rfl
  · exact ⟨0, rfl, rfl⟩
  · exact ⟨0, rfl, rfl⟩
  · exact ⟨0, rfl, rfl⟩
  · exact ⟨0, rfl, rfl⟩
  · exact ⟨0, rfl, rfl⟩
  · exact ⟨0, rfl, rfl⟩
  · refine ⟨0, rfl, ?_⟩
    show (if ((0 == 10) || !(below (.int 0) (per : Int) && false) || !true) = true then some 0 else none) = some 0
    rw [b1]; rfl
end Dk

set_option Elab.async false
set_option linter.all false
set_option maxRecDepth 100000
set_option maxHeartbeats 4000000
namespace Dk
open PySem PySem.Spec PyProof.Rows L2 TL
abbrev lamQ : Str := (envOfC (Str.ofString "law") (defScope sLaw) 0 0 .none).qual ++ Str.ofString "<lambda>"
def spLaw (K : PySem.W.Frag) (Pt : Addr) : Sp := fun vs H Q _ => ∃ (a : Addr) (ns : List Int), vs = [.ref a] ∧ SqL K H a (ns.map V.int) ∧ ns.length ≤ 63 ∧ LamX.Tabs [(Pt, lamQ)] H ∧ ∀ H', Q (.bl true) H'
structure TxtV (K : PySem.W.Frag) (mg : Str → Option Value) (CH : Addr) (fRa fPa fErr pP gP : Addr) (fdRa fdPa fdErr fdP : FuncData) : Prop where
  gRa : mg "_law_random" = some (.ref fRa)
  FRa : Fun K "_law_random" "_law_random" sRandom fRa fdRa
  bRa : Binds K fdRa ["_law_script", "_law_salt"] []
  gPa : mg "_law_parts" = some (.ref fPa)
  FPa : Fun K "_law_parts" "_law_parts" sParts fPa fdPa
  bPa : Binds K fdPa ["_law_d", "_law_most"] []
  gErr : mg "_law_error_of" = some (.ref fErr)
  FErr : Fun K "_law_error_of" "_law_error_of" sErr fErr fdErr
  bErr : Binds K fdErr ["_law_call"] []
  po : PropOf K CH "period" pP gP
  FPe : Fun K "period" "House.period" sPeriodP gP fdP
  bPe : Binds K fdP ["self"] []
  list : mg "list" = none
abbrev nLaw8 : List Str := ["_law_script", "_law_d", "_law_tables", "_law_keys", "_law_careful", "_law_reminders", "_law_many", "_law_length_here", "_law_tables_not", "_law_table_here", "_law_at", "_law_wrong", "_law_none", "_law_odd", "_law_cases", "_law_bad", "_law_index", "_law_full", "_law_largest", "_law_tick"]
def tH4 (K : PySem.W.Frag) (CH CI : Addr) (a b c d : TE) : XK → TE := fun E => tMake CH (spInit K CH CI) [] E (tCons a (tCons b (tCons c (tCons d tNil))))
abbrev rMulS : R2 := fun x y H Q => ∃ z k, x = .str z ∧ y = .int k ∧ MulOk z k ∧ Q (.str (Txt.mul z k)) H
def tHo6 : TE := tTup (tCons (tOp rMulS (tC (.str (Str.ofString "ho"))) (tC (.int 6))) tNil)
def tH2 (K : PySem.W.Frag) (CH CI : Addr) (dvs : List V) : XK → TE := fun E => tMake CH (spInit K CH CI) dvs E (tCons (tOp (rRepT K) (tTup (tCons (tC (.str (Str.ofString "h"))) tNil)) (tC (.int 7))) (tCons (tC (.int 0)) tNil))
def spPer (K : PySem.W.Frag) (CH : Addr) : Sp := fun vs H Q _ => ∃ (p dx aT : Addr) (ts : List Str) (vk vc vr : V), vs = [.ref p] ∧ H p = some (.ins CH dx (hFields (.ref aT) vk vc vr)) ∧ SqT K H aT (ts.map V.str) ∧ Tabs ts ∧ ts.length ≤ 6 ∧ ∀ H', Same H H' → Q (.int ((per ts : Nat) : Int)) H'
theorem hf_tables8 (a b c d : V) : (hFields a b c d).lookup ("tables" : Str) = some a := by
  unfold hFields
  rw [lookup_putF, if_neg (by decide +kernel), lookup_putF, if_neg (by decide +kernel), lookup_putF, if_neg (by decide +kernel), lookup_putF, if_pos rfl]
theorem hf_careful8 (a b c d : V) : (hFields a b c d).lookup ("careful" : Str) = some c := by
  unfold hFields
  rw [lookup_putF, if_neg (by decide +kernel), lookup_putF, if_pos rfl]
theorem prs_take {H : Hp} : ∀ (n : Nat) {xs : List V} {rs : List Pr}, Prs H xs rs → Prs H (xs.take n) (rs.take n)
  | 0, _, _, _ => .nil
  | _ + 1, [], [], .nil => .nil
  | n + 1, _ :: _, _ :: _, .cons a b => .cons a (prs_take n b)
section
variable {P : Program} {w : World} {K : PySem.W.Frag} {mg : Str → Option Value} {base : Heap} {C fI : Addr} {fdI : FuncData} {fII fIB fHO : Addr} {fdII fdIB fdHO : FuncData} {fIT fIR fAs : Addr} {fdIT fdIR fdAs : FuncData}
  {CH fP fT fK fC fR : Addr} {fdP fdT fdK fdC fdR : FuncData} {fH : Addr} {fdH : FuncData} {dvs : List V} {ds2 : List Value}
  {fB fTb fLn : Addr} {fdB fdTb fdLn : FuncData} {fRa fPa fErr pP gP : Addr} {fdRa fdPa fdErr fdPp : FuncData} {cs : Nat → Addr} {CE CT cL Pt : Addr}
theorem scLaw8 : FnScope nLaw8 ["_law_script"] (defScope sLaw) := ⟨rfl, rfl, rfl, by decide +kernel, rfl, by decide +kernel, by decide +kernel⟩
theorem ok_period8 {f : Addr} {fd : FuncData} (F : Fun K "period" "House.period" sPeriodP f fd) (T : TxtA mg) (TC : TxtC mg) (TL' : TxtL K mg CH fP fT fK fC fR fdP fdT fdK fdC fdR) : FnOk P w K mg base CX0 2 f fd ["self"] (spPer K CH) := by
  have GP : FnOk P w K mg base CX0 1 fP fdP ["tables"] (spPeriod K) := ok_period TL'.FP T TC
  refine F.ok (N := ["self"]) ⟨rfl, rfl, rfl, by decide +kernel, rfl, by decide +kernel, by decide +kernel⟩ (fun vs H Q E h => ?_) (fun cdv A outer s H vs Q E hr h => ?_)
  · obtain ⟨p, dx, aT, ts, vk, vc, vr, rfl, _⟩ := h
    rfl
  · obtain ⟨p, dx, aT, ts, vk, vc, vr, rfl, hp, hT, hTs, h6, k⟩ := h
    refine ⟨_, pss_one (ps_ret (pe_call GP hr rfl TL'.gP TL'.FP.kp TL'.bP .nil pass0 (pa_cons (pe_fld (pv 0) rfl) pa_nil))), ?_⟩
    exact ⟨_, rfl, p, CH, dx, _, _, rfl, hp, TL'.cl, TL'.nT, hf_tables8 _ _ _ _, aT, ts, rfl, hT, hTs, k H (Same.refl H)⟩
end
structure CondM (Pt : Addr) (D : Ends) (σ : L2.St) (H : Hp) : Prop where
  ex : ∃ (d aT aC : Addr) (st : List Int) (ts : List Str) (kk : Int) (cs2 : List Int) (rs : List Pr) (v0 v5 v8 v9 v10 v11 v12 v13 v14 v15 v16 v17 v18 v19 : Option V), σ = [v0, some (.ref d), some (.ref aT), some (.int kk), some (.ref aC), v5, some (.int (((ts.map V.str).length : Nat) : Int)), some (.int ((per ts : Nat) : Int)), v8, v9, v10, v11, v12, v13, v14, v15, v16, v17, v18, v19] ∧
    H d = some (.lst (st.map V.int)) ∧ Good st ∧ H aT = some (.tup (ts.map V.str)) ∧ H aC = some (.tup (cs2.map V.int)) ∧ Parts ts kk cs2 rs ∧ LamX.Tabs [(Pt, lamQ)] H ∧ ∀ H', D.rt (.bl true) H'
structure CondE (Pt : Addr) (D : Ends) (σ : L2.St) (H : Hp) : Prop where
  ex : ∃ (v0 v1 v2 v3 v4 v5 v6 v7 v8 v9 v10 v11 v12 v13 v14 v15 v16 v17 v18 v19 : Option V), σ = [v0, v1, v2, v3, v4, v5, v6, v7, v8, v9, v10, v11, v12, v13, v14, v15, v16, v17, v18, v19] ∧ LamX.Tabs [(Pt, lamQ)] H ∧ ∀ H', D.rt (.bl true) H'
end Dk

set_option Elab.async false
set_option linter.all false
set_option maxRecDepth 100000
set_option maxHeartbeats 8000000
namespace Dk
open PySem PySem.Spec PyProof.Rows L2 TL
section
variable {P : Program} {w : World} {K : PySem.W.Frag} {mg : Str → Option Value} {base : Heap} {C fI : Addr} {fdI : FuncData} {fII fIB fHO : Addr} {fdII fdIB fdHO : FuncData} {fIT fIR fAs : Addr} {fdIT fdIR fdAs : FuncData}
  {CH fP fT fK fC fR : Addr} {fdP fdT fdK fdC fdR : FuncData} {fH : Addr} {fdH : FuncData} {dvs : List V} {ds2 : List Value}
  {fB fTb fLn : Addr} {fdB fdTb fdLn : FuncData} {fRa fPa fErr pP gP : Addr} {fdRa fdPa fdErr fdPp : FuncData} {cs : Nat → Addr} {CE CT cL Pt : Addr}
theorem law_P7 {f : Addr} {A : Around} {outer : List Env} {s : Shared} {H : Hp} {E : XK} (hr : Room 8 (A.deeper (envOfC (Str.ofString "law") (defScope sLaw) s.heap.objs.size f (.ref cL)))) (T : TxtA mg) (B : TxtB K mg fB fdB) (D' : TxtD K mg fTb fLn fdTb fdLn) (TC : TxtC mg) (TF : TxtF K mg fII fIB fHO fdII fdIB fdHO) (TI : TxtI K mg fIT fIR fAs fdIT fdIR fdAs) (TH : TxtIH K mg C fI fdI)
    (TL' : TxtL K mg CH fP fT fK fC fR fdP fdT fdK fdC fdR)
    (FH : FunD K "__init__" "House.__init__" (defArgs sInit) (defBody sInit) (defScope sInit) dvs [] fH fdH) (bH : Binds K fdH ["self", "tables", "keys", "careful", "reminders"] []) (bH2 : Binds K fdH ["self", "tables", "keys", "careful", "reminders"] ds2) (hd2 : Vals dvs ds2) (M : Mk K CH fH) (gH : mg "House" = some (.ref CH))
    (W : TxtV K mg CH fRa fPa fErr pP gP fdRa fdPa fdErr fdPp) (N : TxtN mg cs CE) (EI : ErrKit K cs CE C 8) (ET : ErrKit K cs CE CT 9) (XF : XFs K C CT) (TB : LamX.TabB base mg cL Pt)
    {e1 e2 : Addr} (hdv : dvs = [.ref e1, .ref e2]) (he1 : SqT K (fun _ => none) e1 []) (he2 : SqT K (fun _ => none) e2 []) :
    ∃ t, PSs (cxOf CX0 P w K mg base nLaw8 "law" (defScope sLaw) f (.ref cL) A outer s H E).nox ((defBody sLaw).drop 21) t ∧ ∀ D σ H2, CondE Pt D σ H2 → t D σ H2 := by
  have GRa : FnOk P w K mg base CX0 1 fRa fdRa ["_law_script", "_law_salt"] (spRandom K) := ok_random W.FRa T
  have GB : FnOk P w K mg base CX0 1 fB fdB ["_law_d", "_law_limit"] spBelow := ok_below B.F T
  have GL : FnOk P w K mg base CX0 1 fLn fdLn ["_law_tables"] (spLength K) := ok_length D'.FL T
  have GPa : FnOk P w K mg base CX0 3 fPa fdPa ["_law_d", "_law_most"] spParts := ok_parts W.FPa T B D'
  have GPe : FnOk P w K mg base CX0 2 gP fdPp ["self"] (spPer K CH) := ok_period8 W.FPe T TC TL'
  have GH : FnOk P w K mg base (L2.CX P w) 5 fH fdH ["self", "tables", "keys", "careful", "reminders"] (spInit K CH C) := ok_init FH T TC TF TI TH TL'
  have hr6 : Room 6 (A.deeper (envOfC (Str.ofString "law") (defScope sLaw) s.heap.objs.size f (.ref cL))) := hr.mono (by decide)
  have hr3 : Room 3 (A.deeper (envOfC (Str.ofString "law") (defScope sLaw) s.heap.objs.size f (.ref cL))) := hr.mono (by decide)
  have hr2 : Room 3 (A.deeper (envOfC (Str.ofString "law") (defScope sLaw) s.heap.objs.size f (.ref cL))) := hr.mono (by decide)
  have hr1 : Room 1 (A.deeper (envOfC (Str.ofString "law") (defScope sLaw) s.heap.objs.size f (.ref cL))) := hr.mono (by decide)
  have hu64 : (A.deeper (envOfC (Str.ofString "law") (defScope sLaw) s.heap.objs.size f (.ref cL))).units + 64 < cLine := by have := hr.un; omega
  have hmT : (Pt, lamQ) ∈ [(Pt, lamQ)] := List.mem_singleton.mpr rfl
  have hu : ∀ p ∈ [(Pt, lamQ)], p.1 = Pt → p.2 = lamQ := fun p hp _ => by rw [List.mem_singleton.mp hp]
  refine ⟨_, (pss_cons (ps_set (i := 17) scLaw8.nd rfl (.inr rfl) (pe_callTy call_tuple_of (by rfl) TF.tuple (by decide +kernel) (pa_cons (pe_lc (own := [("_law_tick", 19)]) (g := gName 19) (te := tTup (tCons (tVar 19) (tCons (tC (.int 0)) tNil))) (by rfl) scLaw8.nd (pi_range1 rfl T.range (pa_cons pe_int pa_nil)) (blkOk_by (N := nLaw8) (sc := defScope sLaw) (by decide +kernel)) (fun _ _ _ _ _ => pg_name (i := 19) scLaw8.nd rfl (Or.inl rfl)) (fun _ _ _ _ _ => pts_nil) (fun _ _ _ _ _ => by exact (pe_tup (pa_cons (pv 19) (pa_cons pe_int pa_nil))))) pa_nil)))
      (pss_cons (ps_if (pt_cmpR (op_neD hu64) (pe_errof (T := [(Pt, lamQ)]) (t := tH4 K CH C tHo6 (tC (.int 1)) (tTup tNil) (tVar 17)) N EI ET XF (by rfl) W.gErr W.FErr W.bErr TB rfl hmT hu hr (LamX.lamS_by (sc := defScope sLaw) (by decide +kernel)) rfl (fun _ _ _ _ _ => rfl) (fun A outer s H E f c' hr' => by exact pe_make M GH hr' rfl gH bH .nil (passes_call (takes_of rfl rfl rfl rfl) (fun _ _ _ _ h => h)) (pa_cons (pe_tup (pa_cons (pe_op op_mulStr pe_str pe_int) pa_nil)) (pa_cons pe_int (pa_cons (pe_tup pa_nil) (pa_cons (pv 17) pa_nil)))))) (pe_tup (pa_cons pe_str (pa_cons (pe_tup (pa_cons pe_str (pa_cons pe_int pa_nil))) pa_nil))) (nomark _)) (pss_one (ps_ret pe_bl)) pss_nil)
      (pss_cons (ps_set (i := 18) scLaw8.nd rfl (.inl rfl) (pe_make M GH hr6 rfl gH bH .nil passL (pa_cons (pe_op op_repT (pe_tup (pa_cons (pe_op op_mulStr pe_str pe_int) pa_nil)) pe_int) (pa_cons pe_int (pa_cons (pe_tup (pa_cons pe_int (pa_cons pe_int (pa_cons pe_int (pa_cons pe_int (pa_cons pe_int (pa_cons pe_int pa_nil))))))) (pa_cons (pe_tup pa_nil) pa_nil))))))
      (pss_one (ps_ret (pe_and (pe_cmpR op_eq (pe_prop (pv 18) TL'.cl W.po GPe hr2 W.bPe .nil pass0 rfl) pe_int (nomark _)) (pe_one (pe_cmpR (op_eqD hu64) (pe_fld (pe_make M GH hr6 rfl gH bH .nil passL (pa_cons (pe_tup (pa_cons (pe_op op_mulStr pe_str pe_int) pa_nil)) (pa_cons pe_int (pa_cons (pe_tup pa_nil) (pa_cons (pe_slice sl_tupA (pv 17) po_none (po_some pe_int)) pa_nil))))) rfl) (pe_tup pa_nil) (nomark _))))))))), fun D σ H40 hc => ?_⟩
  obtain ⟨⟨v0, v1, v2, v3, v4, v5, v6, v7, v8, v9, v10, v11, v12, v13, v14, v15, v16, v17, v18, v19, rfl, T40, k⟩⟩ := hc
  refine ⟨_, rfl, by decide, by decide, fun Dd hDd => lc_range (lo := 0) (n := 11)
    (fun i H3 => ∃ xs, Same H40 H3 ∧ H3 Dd = some (.lst xs) ∧ Prs H3 xs ((List.range i).map fun k => ((0 : Int) + ((k : Nat) : Int), (0 : Int))))
    ⟨[], same_upd hDd, upd_same, .nil⟩ ?_ ?_⟩
  · rintro i H3 hi ⟨xs, s3, eD, hP⟩
    refine ⟨rfl, _, rfl, by show 2 ≤ sizeLine; decide, fun q hq => ⟨_, same_upd hq _ _ eD, ?_, xs ++ [.ref q], fun b o eb => ?_, upd_same, ?_⟩⟩
    · rw [hP.len, List.length_map, List.length_range]; exact Nat.lt_of_le_of_lt (by omega : i ≤ 1000) (by decide)
    · rw [upd_ne (ne_of_none eb hDd)]; exact same_upd hq _ _ (s3 _ _ eb)
    · have eD2 := same_upd (o := .tup [V.int ((0 : Int) + (i : Int)), V.int 0]) hq _ _ eD
      have tK : ∀ t ys, (upd H3 q (.tup [V.int ((0 : Int) + (i : Int)), V.int 0])) t = some (.tup ys) → (upd (upd H3 q (.tup [V.int ((0 : Int) + (i : Int)), V.int 0])) Dd (.lst (xs ++ [V.ref q]))) t = some (.tup ys) := fun t ys h => by
        rw [upd_ne (fun e => by rw [e, eD2] at h; cases h)]; exact h
      rw [List.range_succ, List.map_append]
      exact (hP.mono fun t ys h => tK _ _ (same_upd hq _ _ h)).app ⟨q, rfl, tK _ _ upd_same⟩
  rintro H3 ⟨xs, s3, eD, hP⟩
  refine ⟨Dd, xs, rfl, .inl ⟨SqL.of eD, fun aF haF => ?_⟩⟩
  have sF := same_upd (o := .tup xs) haF
  have eF : (upd H3 aF (.tup xs)) aF = some (.tup xs) := upd_same
  have hPF := hP.mono fun t ys h => sF _ _ h
  have T41 := tabs_same T40 (s3.trans sF)
  generalize upd H3 aF (.tup xs) = H41 at sF eF hPF T41 ⊢
  clear hP eD haF s3 sF T40 hDd
  have lx : xs.length = 11 := by rw [hPF.len, List.length_map, List.length_range]
  refine chk_step (part := Str.ofString "reminders") (i := 10) (by decide +kernel) T41 (fun H42 E Q0 x42 T42 hE => ?_) (fun H42 Q q => q) (fun H42 x42 T42 => ?_)
  · refine ⟨_, _, rfl, rfl, by unfold MulOk; decide +kernel, by show 1 ≤ sizeLine; decide, fun q hq => ⟨by show 0 ≤ sizeLine; decide, fun q2 hq2 => ⟨_, rfl, ?_⟩⟩⟩
    have sA := same_upd (o := .tup [V.str (Txt.mul (Str.ofString "ho") 6)]) hq
    have sB := same_upd (o := .tup []) hq2
    refine house_fail (dT := .tuple [.str (Txt.mul (Str.ofString "ho") 6)]) (dK := .int 1) (dC := .tuple []) (part := Str.ofString "reminders") (i := 10) (.tup (SqT.of (sB _ _ upd_same)) (.cons (.str _) .nil)) (.int 1) (.tup (SqT.of upd_same) .nil)
      (.tup (SqT.of (sB _ _ (sA _ _ (ExtN_tup x42 eF)))) (dpAll_prs (hPF.mono fun t ys h => sB _ _ (sA _ _ (ExtN_tup x42 h))))) ?_ ?_ (fun H2 s2 => hE H2 ((sA.trans sB).trans s2))
    · intro ds e x hx
      cases e
      rw [List.mem_singleton.mp hx]
      show Str.length _ ≤ 100000
      decide +kernel
    · decide +kernel
  have eF2 := ExtN_tup x42 eF
  have hPF2 := hPF.mono fun t ys h => ExtN_tup x42 h
  clear T41 T42 x42 eF hPF
  refine ⟨_, _, rfl, rfl, by unfold MulOk; decide +kernel, by show 1 ≤ sizeLine; decide, fun q hq => ⟨q, 6, _, rfl, rfl, SqT.of upd_same, by simp, by decide, by decide, by decide, fun p hp => ⟨by show 6 ≤ sizeLine; decide, fun q2 hq2 => ⟨by show 0 ≤ sizeLine; decide, fun q3 hq3 => ?_⟩⟩⟩⟩
  have sA := same_upd (o := .tup [V.str (Txt.mul (Str.ofString "o") 24)]) hq
  have sB := same_upd (o := .tup (List.replicate (6 : Int).toNat [V.str (Txt.mul (Str.ofString "o") 24)]).flatten) hp
  have sC := same_upd (o := .tup [V.int 0, V.int 1, V.int 2, V.int 3, V.int 4, V.int 5]) hq2
  have sD := same_upd (o := .tup []) hq3
  have ep := sD _ _ (sC _ _ (upd_same (a := p) (o := .tup (List.replicate (6 : Int).toNat [V.str (Txt.mul (Str.ofString "o") 24)]).flatten)))
  replace ep := (show ∀ {X : Option HO}, X = some (.tup (List.replicate (6 : Int).toNat [V.str (Txt.mul (Str.ofString "o") 24)]).flatten) → X = some (.tup ([Txt.mul (Str.ofString "o") 24, Txt.mul (Str.ofString "o") 24, Txt.mul (Str.ofString "o") 24, Txt.mul (Str.ofString "o") 24, Txt.mul (Str.ofString "o") 24, Txt.mul (Str.ofString "o") 24].map V.str)) from fun h => h) ep
  have ec := sD _ _ (upd_same (a := q2) (o := .tup [V.int 0, V.int 1, V.int 2, V.int 3, V.int 4, V.int 5]))
  have s44 := ((sA.trans sB).trans sC).trans sD
  have hchk : chkHouse (.tuple ([Txt.mul (Str.ofString "o") 24, Txt.mul (Str.ofString "o") 24, Txt.mul (Str.ofString "o") 24, Txt.mul (Str.ofString "o") 24, Txt.mul (Str.ofString "o") 24, Txt.mul (Str.ofString "o") 24].map PyData.str)) (.int 9) (.tuple [.int 0, .int 1, .int 2, .int 3, .int 4, .int 5]) (.tuple []) = none := by decide +kernel
  intro pp dx hpp hdx _
  refine house_ok2 hpp hdx (.tup (SqT.of ep) (dpAll_strs [Txt.mul (Str.ofString "o") 24, Txt.mul (Str.ofString "o") 24, Txt.mul (Str.ofString "o") 24, Txt.mul (Str.ofString "o") 24, Txt.mul (Str.ofString "o") 24, Txt.mul (Str.ofString "o") 24])) (.int 9) (.tup (SqT.of ec) (.cons (.int _) (.cons (.int _) (.cons (.int _) (.cons (.int _) (.cons (.int _) (.cons (.int _) .nil))))))) (.tup (SqT.of upd_same) .nil) ?_ hchk (fun H45 s45 epp => ⟨rfl, ?_⟩)
  · intro ds e x hx
    cases e
    obtain ⟨t, ht, rfl⟩ := List.mem_map.mp hx
    simp only [List.mem_cons, List.not_mem_nil, or_false] at ht
    rcases ht with rfl | rfl | rfl | rfl | rfl | rfl <;> (show Str.length _ ≤ 100000; decide +kernel)
  obtain ⟨ts6, ets, hTs, _, h6⟩ := tabs_of (show chkTabs (.tuple ([Txt.mul (Str.ofString "o") 24, Txt.mul (Str.ofString "o") 24, Txt.mul (Str.ofString "o") 24, Txt.mul (Str.ofString "o") 24, Txt.mul (Str.ofString "o") 24, Txt.mul (Str.ofString "o") 24].map PyData.str)) = none by decide +kernel)
  have ets' : [Txt.mul (Str.ofString "o") 24, Txt.mul (Str.ofString "o") 24, Txt.mul (Str.ofString "o") 24, Txt.mul (Str.ofString "o") 24, Txt.mul (Str.ofString "o") 24, Txt.mul (Str.ofString "o") 24] = ts6 := by
    have e := congrArg (fun d => (match d with | PyData.tuple ds => ds.map strOf | _ => [])) ets
    have e' : ([Txt.mul (Str.ofString "o") 24, Txt.mul (Str.ofString "o") 24, Txt.mul (Str.ofString "o") 24, Txt.mul (Str.ofString "o") 24, Txt.mul (Str.ofString "o") 24, Txt.mul (Str.ofString "o") 24].map PyData.str).map strOf = (ts6.map PyData.str).map strOf := e
    rw [strs_back, strs_back] at e'
    exact e'
  subst ets'
  refine ⟨_, rfl, pp, dx, _, rfl, epp, pp, dx, p, _, _, _, _, rfl, epp, SqT.of (s45 _ _ ep), hTs, h6, fun H46 s46 => ?_⟩
  refine ⟨rfl, _, rfl, ?_⟩
  rw [show per [Txt.mul (Str.ofString "o") 24, Txt.mul (Str.ofString "o") 24, Txt.mul (Str.ofString "o") 24, Txt.mul (Str.ofString "o") 24, Txt.mul (Str.ofString "o") 24, Txt.mul (Str.ofString "o") 24] = 24 by decide +kernel]
  refine iteT ?_
  have s47 := (s44.trans s45).trans s46
  have eF3 := s47 _ _ eF2
  have hPF3 := hPF2.mono fun t ys h => s47 _ _ h
  refine ⟨_, _, rfl, rfl, by unfold MulOk; decide +kernel, by show 1 ≤ sizeLine; decide, fun r1 hr1' => ⟨by show 0 ≤ sizeLine; decide, fun r2 hr2' => ⟨_, rfl, _, rfl, ?_⟩⟩⟩
  have tA := same_upd (o := .tup [V.str (Txt.mul (Str.ofString "ho") 6)]) hr1'
  have tB := same_upd (o := .tup []) hr2'
  refine sl_any (lo := none) (hi := some 10) (SqT.of (tB _ _ (tA _ _ eF3))) ?_
  intro H48 p8 s48 z8
  rw [cut_take (by decide) (by rw [lx]; decide)] at z8
  have hP8 := prs_take 10 (hPF3.mono fun t ys h => s48 _ _ (tB _ _ (tA _ _ h)))
  intro p9 dx9 hp9 hdx9 _
  refine house_ok2 hp9 hdx9 (dT := .tuple [.str (Txt.mul (Str.ofString "ho") 6)]) (dK := .int 1) (dC := .tuple []) (.tup (SqT.of (s48 _ _ (tB _ _ upd_same))) (.cons (.str _) .nil)) (.int 1) (.tup (SqT.of (s48 _ _ upd_same)) .nil) (.tup z8 (dpAll_prs hP8)) ?_ (by decide +kernel) (fun H49 s49 e49 => ⟨rfl, ?_⟩)
  · intro ds e x hx
    cases e
    rw [List.mem_singleton.mp hx]
    show Str.length _ ≤ 100000
    decide +kernel
  refine ⟨p9, CH, dx9, _, _, rfl, e49, TL'.cl, TL'.nC, hf_careful8 _ _ _ _, by show 0 ≤ sizeLine; decide, fun q9 hq9 => ?_⟩
  have sz := same_upd (o := .tup []) hq9
  exact ⟨.tuple [], .tuple [], .tup (SqT.of (sz _ _ (s49 _ _ (s48 _ _ upd_same)))) .nil, .tup (SqT.of upd_same) .nil, rfl, rfl, k _⟩
end
end Dk

set_option Elab.async false
set_option linter.all false
set_option maxRecDepth 100000
set_option maxHeartbeats 8000000
namespace Dk
open PySem PySem.Spec PyProof.Rows L2 TL
section
variable {P : Program} {w : World} {K : PySem.W.Frag} {mg : Str → Option Value} {base : Heap} {C fI : Addr} {fdI : FuncData} {fII fIB fHO : Addr} {fdII fdIB fdHO : FuncData} {fIT fIR fAs : Addr} {fdIT fdIR fdAs : FuncData}
  {CH fP fT fK fC fR : Addr} {fdP fdT fdK fdC fdR : FuncData} {fH : Addr} {fdH : FuncData} {dvs : List V} {ds2 : List Value}
  {fB fTb fLn : Addr} {fdB fdTb fdLn : FuncData} {fRa fPa fErr pP gP : Addr} {fdRa fdPa fdErr fdPp : FuncData} {cs : Nat → Addr} {CE CT cL Pt : Addr}
theorem law_P6 {f : Addr} {A : Around} {outer : List Env} {s : Shared} {H : Hp} {E : XK} (hr : Room 8 (A.deeper (envOfC (Str.ofString "law") (defScope sLaw) s.heap.objs.size f (.ref cL)))) (T : TxtA mg) (B : TxtB K mg fB fdB) (D' : TxtD K mg fTb fLn fdTb fdLn) (TC : TxtC mg) (TF : TxtF K mg fII fIB fHO fdII fdIB fdHO) (TI : TxtI K mg fIT fIR fAs fdIT fdIR fdAs) (TH : TxtIH K mg C fI fdI)
    (TL' : TxtL K mg CH fP fT fK fC fR fdP fdT fdK fdC fdR)
    (FH : FunD K "__init__" "House.__init__" (defArgs sInit) (defBody sInit) (defScope sInit) dvs [] fH fdH) (bH : Binds K fdH ["self", "tables", "keys", "careful", "reminders"] []) (bH2 : Binds K fdH ["self", "tables", "keys", "careful", "reminders"] ds2) (hd2 : Vals dvs ds2) (M : Mk K CH fH) (gH : mg "House" = some (.ref CH))
    (W : TxtV K mg CH fRa fPa fErr pP gP fdRa fdPa fdErr fdPp) (N : TxtN mg cs CE) (EI : ErrKit K cs CE C 8) (ET : ErrKit K cs CE CT 9) (XF : XFs K C CT) (TB : LamX.TabB base mg cL Pt)
    {e1 e2 : Addr} (hdv : dvs = [.ref e1, .ref e2]) (he1 : SqT K (fun _ => none) e1 []) (he2 : SqT K (fun _ => none) e2 []) :
    ∃ t, PSs (cxOf CX0 P w K mg base nLaw8 "law" (defScope sLaw) f (.ref cL) A outer s H E).nox ((defBody sLaw).drop 16) t ∧ ∀ D σ H2, CondM Pt D σ H2 → t D σ H2 := by
  have GRa : FnOk P w K mg base CX0 1 fRa fdRa ["_law_script", "_law_salt"] (spRandom K) := ok_random W.FRa T
  have GB : FnOk P w K mg base CX0 1 fB fdB ["_law_d", "_law_limit"] spBelow := ok_below B.F T
  have GL : FnOk P w K mg base CX0 1 fLn fdLn ["_law_tables"] (spLength K) := ok_length D'.FL T
  have GPa : FnOk P w K mg base CX0 3 fPa fdPa ["_law_d", "_law_most"] spParts := ok_parts W.FPa T B D'
  have GPe : FnOk P w K mg base CX0 2 gP fdPp ["self"] (spPer K CH) := ok_period8 W.FPe T TC TL'
  have GH : FnOk P w K mg base (L2.CX P w) 5 fH fdH ["self", "tables", "keys", "careful", "reminders"] (spInit K CH C) := ok_init FH T TC TF TI TH TL'
  have hr6 : Room 6 (A.deeper (envOfC (Str.ofString "law") (defScope sLaw) s.heap.objs.size f (.ref cL))) := hr.mono (by decide)
  have hr3 : Room 3 (A.deeper (envOfC (Str.ofString "law") (defScope sLaw) s.heap.objs.size f (.ref cL))) := hr.mono (by decide)
  have hr2 : Room 3 (A.deeper (envOfC (Str.ofString "law") (defScope sLaw) s.heap.objs.size f (.ref cL))) := hr.mono (by decide)
  have hr1 : Room 1 (A.deeper (envOfC (Str.ofString "law") (defScope sLaw) s.heap.objs.size f (.ref cL))) := hr.mono (by decide)
  have hu64 : (A.deeper (envOfC (Str.ofString "law") (defScope sLaw) s.heap.objs.size f (.ref cL))).units + 64 < cLine := by have := hr.un; omega
  have hmT : (Pt, lamQ) ∈ [(Pt, lamQ)] := List.mem_singleton.mpr rfl
  have hu : ∀ p ∈ [(Pt, lamQ)], p.1 = Pt → p.2 = lamQ := fun p hp _ => by rw [List.mem_singleton.mp hp]
  obtain ⟨tn, htn, hnx⟩ := law_P7 hr T B D' TC TF TI TH TL' FH bH bH2 hd2 M gH W N EI ET XF TB hdv he1 he2 (outer := outer) (H := H) (E := E)
  refine ⟨_, (pss_cons (ps_set (i := 14) scLaw8.nd rfl (.inl rfl) (pe_lst (pa_cons (pe_tup (pa_cons pe_non (pa_cons pe_int pa_nil))) (pa_cons (pe_tup (pa_cons (pe_lst pa_nil) (pa_cons pe_int pa_nil))) (pa_cons (pe_tup (pa_cons (pe_tup (pa_cons (pe_tup (pa_cons (pv 7) (pa_cons pe_int pa_nil))) pa_nil)) (pa_cons pe_int pa_nil))) (pa_cons (pe_tup (pa_cons (pe_tup (pa_cons (pe_tup (pa_cons pe_int (pa_cons (pv 6) pa_nil))) pa_nil)) (pa_cons pe_int pa_nil))) (pa_cons (pe_tup (pa_cons (pe_tup (pa_cons (pe_tup (pa_cons pe_int (pa_cons pe_int pa_nil))) (pa_cons (pe_tup (pa_cons pe_int (pa_cons pe_int pa_nil))) pa_nil))) (pa_cons pe_int pa_nil))) (pa_cons (pe_tup (pa_cons (pe_tup (pa_cons (pe_tup (pa_cons pe_int pa_nil)) pa_nil)) (pa_cons pe_int pa_nil))) pa_nil))))))))
      (pss_cons (ps_set (i := 14) scLaw8.nd rfl (.inl rfl) (pe_op op_cat (pv 14) (pe_lst (pa_cons (pe_tup (pa_cons (pe_tup (pa_cons pe_int (pa_cons pe_int pa_nil))) (pa_cons pe_int pa_nil))) (pa_cons (pe_tup (pa_cons (pe_tup (pa_cons (pe_tup (pa_cons pe_int (pa_cons pe_int (pa_cons pe_int pa_nil)))) pa_nil)) (pa_cons pe_int pa_nil))) (pa_cons (pe_tup (pa_cons (pe_tup (pa_cons (pe_lst (pa_cons pe_int (pa_cons pe_int pa_nil))) pa_nil)) (pa_cons pe_int pa_nil))) (pa_cons (pe_tup (pa_cons (pe_tup (pa_cons (pe_tup (pa_cons pe_bl (pa_cons pe_int pa_nil))) pa_nil)) (pa_cons pe_int pa_nil))) (pa_cons (pe_tup (pa_cons (pe_tup (pa_cons (pe_tup (pa_cons (pe_op op_sub pe_int pe_int) (pa_cons pe_int pa_nil))) pa_nil)) (pa_cons pe_int pa_nil))) pa_nil))))))))
      (pss_cons (ps_expr (pe_bm PySem.F.plainAttrs_list PySem.F.slot_list_append PySem.F.type_list_append mt_append (pv 14) (pa_cons (pe_tup (pa_cons (pe_tup (pa_cons (pe_tup (pa_cons pe_int (pa_cons pe_non pa_nil))) pa_nil)) (pa_cons pe_int pa_nil))) pa_nil)))
      (pss_cons (ps_asg (pe_ix ix_list (pv 14) (pe_call GB hr1 rfl B.g B.F.kp B.b .nil pass0 (pa_cons (pv 1) (pa_cons pe_int pa_nil))) (fun _ _ => rfl)) (pg_tup rfl (pgs_cons (pg_name (i := 15) scLaw8.nd rfl (.inr rfl)) (pgs_cons (pg_name (i := 16) scLaw8.nd rfl (.inl rfl)) pgs_nil))))
      (pss_cons (ps_if (pt_cmpR (op_neD hu64) (pe_errof (T := [(Pt, lamQ)]) (t := tH4 K CH C (tVar 2) (tVar 3) (tVar 4) (tVar 15)) N EI ET XF (by rfl) W.gErr W.FErr W.bErr TB rfl hmT hu hr (LamX.lamS_by (sc := defScope sLaw) (by decide +kernel)) rfl (fun _ _ _ _ _ => rfl) (fun A outer s H E f c' hr' => by exact pe_make M GH hr' rfl gH bH .nil (passes_call (takes_of rfl rfl rfl rfl) (fun _ _ _ _ h => h)) (pa_cons (pv 2) (pa_cons (pv 3) (pa_cons (pv 4) (pa_cons (pv 15) pa_nil)))))) (pe_tup (pa_cons pe_str (pa_cons (pe_tup (pa_cons pe_str (pa_cons (pv 16) pa_nil))) pa_nil))) (nomark _)) (pss_one (ps_ret pe_bl)) pss_nil)
      htn))))), fun D σ H38 hc => ?_⟩
  obtain ⟨⟨d, aT, aC, st37, ts, kk, cs2, rs, v0, v5, v8_, v9_, v10_, v11_, v12_, v13_, v14_, v15_, v16_, v17_, v18_, v19_, rfl, hd38, hg37, t38, c38, hPP, T38, k⟩⟩ := hc
  have i0 : Its K d H38 [] [] := .nil
  have hts := tabs_is hPP.tabs hPP.n1 hPP.n6
  have hsm : ∀ ds, (PyData.tuple (ts.map PyData.str)) = .tuple ds → ∀ x ∈ ds, SmallS x := fun ds e x hx => by cases e; exact small_strs hPP.tabs x hx
  refine ⟨by show 2 ≤ sizeLine; decide, fun tr1 htr1 => ?_⟩
  obtain ⟨ur1, wr1⟩ := pair_new (i := 0) i0 hd38 (.non : Dn K d _ _ .none) htr1
  generalize upd H38 tr1 (.tup [.non, .int 0]) = Gr1 at ur1 wr1 ⊢
  have dr1 := ur1 _ _ hd38
  have sr1 := ur1
  refine ⟨by show 0 ≤ sizeLine; decide, fun qr2 hqr2 => ?_⟩
  obtain ⟨ur2, wr2⟩ := lst_new (K := K) (d := d) (ds := []) (.nil) dr1 hqr2
  generalize upd Gr1 qr2 (.lst []) = Gr2 at ur2 wr2 ⊢
  have dr2 := ur2 _ _ dr1
  have sr2 := sr1.trans ur2
  have ar2 := wr1.kp (KpN.same ur2)
  refine ⟨by show 2 ≤ sizeLine; decide, fun tr3 htr3 => ?_⟩
  obtain ⟨ur3, wr3⟩ := pair_new (i := 0) ar2 dr2 (wr2 : Dn K d _ _ (.list [])) htr3
  generalize upd Gr2 tr3 (.tup [.ref qr2, .int 0]) = Gr3 at ur3 wr3 ⊢
  have dr3 := ur3 _ _ dr2
  have sr3 := sr2.trans ur3
  refine ⟨_, rfl, by show 2 ≤ sizeLine; decide, fun qr4 hqr4 => ?_⟩
  obtain ⟨ur4, wr4⟩ := tup_new (K := K) (d := d) (ds := [.int ((per ts : Nat) : Int), .int 0]) (.cons (.int _) (.cons (.int _) .nil)) dr3 hqr4
  generalize upd Gr3 qr4 (.tup [.int ((per ts : Nat) : Int), .int 0]) = Gr4 at ur4 wr4 ⊢
  have dr4 := ur4 _ _ dr3
  have sr4 := sr3.trans ur4
  have ar4 := wr3.kp (KpN.same ur4)
  refine ⟨by show 1 ≤ sizeLine; decide, fun qr5 hqr5 => ?_⟩
  obtain ⟨ur5, wr5⟩ := tup_new (K := K) (d := d) (ds := [.tuple [.int ((per ts : Nat) : Int), .int 0]]) (.cons wr4 .nil) dr4 hqr5
  generalize upd Gr4 qr5 (.tup [.ref qr4]) = Gr5 at ur5 wr5 ⊢
  have dr5 := ur5 _ _ dr4
  have sr5 := sr4.trans ur5
  have ar5 := ar4.kp (KpN.same ur5)
  refine ⟨by show 2 ≤ sizeLine; decide, fun tr6 htr6 => ?_⟩
  obtain ⟨ur6, wr6⟩ := pair_new (i := 0) ar5 dr5 (wr5 : Dn K d _ _ (.tuple [.tuple [.int ((per ts : Nat) : Int), .int 0]])) htr6
  generalize upd Gr5 tr6 (.tup [.ref qr5, .int 0]) = Gr6 at ur6 wr6 ⊢
  have dr6 := ur6 _ _ dr5
  have sr6 := sr5.trans ur6
  refine ⟨_, rfl, by show 2 ≤ sizeLine; decide, fun qr7 hqr7 => ?_⟩
  obtain ⟨ur7, wr7⟩ := tup_new (K := K) (d := d) (ds := [.int 0, .int (((ts.map V.str).length : Nat) : Int)]) (.cons (.int _) (.cons (.int _) .nil)) dr6 hqr7
  generalize upd Gr6 qr7 (.tup [.int 0, .int (((ts.map V.str).length : Nat) : Int)]) = Gr7 at ur7 wr7 ⊢
  have dr7 := ur7 _ _ dr6
  have sr7 := sr6.trans ur7
  have ar7 := wr6.kp (KpN.same ur7)
  refine ⟨by show 1 ≤ sizeLine; decide, fun qr8 hqr8 => ?_⟩
  obtain ⟨ur8, wr8⟩ := tup_new (K := K) (d := d) (ds := [.tuple [.int 0, .int (((ts.map V.str).length : Nat) : Int)]]) (.cons wr7 .nil) dr7 hqr8
  generalize upd Gr7 qr8 (.tup [.ref qr7]) = Gr8 at ur8 wr8 ⊢
  have dr8 := ur8 _ _ dr7
  have sr8 := sr7.trans ur8
  have ar8 := ar7.kp (KpN.same ur8)
  refine ⟨by show 2 ≤ sizeLine; decide, fun tr9 htr9 => ?_⟩
  obtain ⟨ur9, wr9⟩ := pair_new (i := 0) ar8 dr8 (wr8 : Dn K d _ _ (.tuple [.tuple [.int 0, .int (((ts.map V.str).length : Nat) : Int)]])) htr9
  generalize upd Gr8 tr9 (.tup [.ref qr8, .int 0]) = Gr9 at ur9 wr9 ⊢
  have dr9 := ur9 _ _ dr8
  have sr9 := sr8.trans ur9
  refine ⟨by show 2 ≤ sizeLine; decide, fun qr10 hqr10 => ?_⟩
  obtain ⟨ur10, wr10⟩ := tup_new (K := K) (d := d) (ds := [.int 0, .int 0]) (.cons (.int _) (.cons (.int _) .nil)) dr9 hqr10
  generalize upd Gr9 qr10 (.tup [.int 0, .int 0]) = Gr10 at ur10 wr10 ⊢
  have dr10 := ur10 _ _ dr9
  have sr10 := sr9.trans ur10
  have ar10 := wr9.kp (KpN.same ur10)
  refine ⟨by show 2 ≤ sizeLine; decide, fun qr11 hqr11 => ?_⟩
  obtain ⟨ur11, wr11⟩ := tup_new (K := K) (d := d) (ds := [.int 0, .int 0]) (.cons (.int _) (.cons (.int _) .nil)) dr10 hqr11
  generalize upd Gr10 qr11 (.tup [.int 0, .int 0]) = Gr11 at ur11 wr11 ⊢
  have dr11 := ur11 _ _ dr10
  have sr11 := sr10.trans ur11
  have ar11 := ar10.kp (KpN.same ur11)
  refine ⟨by show 2 ≤ sizeLine; decide, fun qr12 hqr12 => ?_⟩
  obtain ⟨ur12, wr12⟩ := tup_new (K := K) (d := d) (ds := [.tuple [.int 0, .int 0], .tuple [.int 0, .int 0]]) (.cons (wr10.kp (KpN.same ur11)) (.cons wr11 .nil)) dr11 hqr12
  generalize upd Gr11 qr12 (.tup [.ref qr10, .ref qr11]) = Gr12 at ur12 wr12 ⊢
  have dr12 := ur12 _ _ dr11
  have sr12 := sr11.trans ur12
  have ar12 := ar11.kp (KpN.same ur12)
  refine ⟨by show 2 ≤ sizeLine; decide, fun tr13 htr13 => ?_⟩
  obtain ⟨ur13, wr13⟩ := pair_new (i := 1) ar12 dr12 (wr12 : Dn K d _ _ (.tuple [.tuple [.int 0, .int 0], .tuple [.int 0, .int 0]])) htr13
  generalize upd Gr12 tr13 (.tup [.ref qr12, .int 1]) = Gr13 at ur13 wr13 ⊢
  have dr13 := ur13 _ _ dr12
  have sr13 := sr12.trans ur13
  refine ⟨by show 1 ≤ sizeLine; decide, fun qr14 hqr14 => ?_⟩
  obtain ⟨ur14, wr14⟩ := tup_new (K := K) (d := d) (ds := [.int 0]) (.cons (.int _) .nil) dr13 hqr14
  generalize upd Gr13 qr14 (.tup [.int 0]) = Gr14 at ur14 wr14 ⊢
  have dr14 := ur14 _ _ dr13
  have sr14 := sr13.trans ur14
  have ar14 := wr13.kp (KpN.same ur14)
  refine ⟨by show 1 ≤ sizeLine; decide, fun qr15 hqr15 => ?_⟩
  obtain ⟨ur15, wr15⟩ := tup_new (K := K) (d := d) (ds := [.tuple [.int 0]]) (.cons wr14 .nil) dr14 hqr15
  generalize upd Gr14 qr15 (.tup [.ref qr14]) = Gr15 at ur15 wr15 ⊢
  have dr15 := ur15 _ _ dr14
  have sr15 := sr14.trans ur15
  have ar15 := ar14.kp (KpN.same ur15)
  refine ⟨by show 2 ≤ sizeLine; decide, fun tr16 htr16 => ?_⟩
  obtain ⟨ur16, wr16⟩ := pair_new (i := 0) ar15 dr15 (wr15 : Dn K d _ _ (.tuple [.tuple [.int 0]])) htr16
  generalize upd Gr15 tr16 (.tup [.ref qr15, .int 0]) = Gr16 at ur16 wr16 ⊢
  have dr16 := ur16 _ _ dr15
  have sr16 := sr15.trans ur16
  refine ⟨by show 6 ≤ sizeLine; decide, fun lB hlB => ?_⟩
  have sB := sr16.trans (same_upd (o := .lst [.ref tr1, .ref tr3, .ref tr6, .ref tr9, .ref tr13, .ref tr16]) hlB)
  have aB := wr16.kp (KpN.same (same_upd (o := .lst [.ref tr1, .ref tr3, .ref tr6, .ref tr9, .ref tr13, .ref tr16]) hlB))
  have gB : (upd Gr16 lB (.lst [.ref tr1, .ref tr3, .ref tr6, .ref tr9, .ref tr13, .ref tr16])) lB = some (.lst [.ref tr1, .ref tr3, .ref tr6, .ref tr9, .ref tr13, .ref tr16]) := upd_same
  have hdB := same_upd (o := .lst [.ref tr1, .ref tr3, .ref tr6, .ref tr9, .ref tr13, .ref tr16]) hlB _ _ dr16
  show tSeq _ _ _ (List.set _ 14 (some (.ref lB))) (upd Gr16 lB (.lst [.ref tr1, .ref tr3, .ref tr6, .ref tr9, .ref tr13, .ref tr16]))
  generalize upd Gr16 lB (.lst [.ref tr1, .ref tr3, .ref tr6, .ref tr9, .ref tr13, .ref tr16]) = HB at sB aB gB hdB ⊢
  refine ⟨_, rfl, by show 2 ≤ sizeLine; decide, fun qr17 hqr17 => ?_⟩
  obtain ⟨ur17, wr17⟩ := tup_new (K := K) (d := d) (ds := [.int 0, .int 0]) (.cons (.int _) (.cons (.int _) .nil)) hdB hqr17
  generalize upd HB qr17 (.tup [.int 0, .int 0]) = Gr17 at ur17 wr17 ⊢
  have dr17 := ur17 _ _ hdB
  have sr17 := ur17
  have ar17 := aB.kp (KpN.same ur17)
  refine ⟨by show 2 ≤ sizeLine; decide, fun tr18 htr18 => ?_⟩
  obtain ⟨ur18, wr18⟩ := pair_new (i := 0) ar17 dr17 (wr17 : Dn K d _ _ (.tuple [.int 0, .int 0])) htr18
  generalize upd Gr17 tr18 (.tup [.ref qr17, .int 0]) = Gr18 at ur18 wr18 ⊢
  have dr18 := ur18 _ _ dr17
  have sr18 := sr17.trans ur18
  refine ⟨by show 3 ≤ sizeLine; decide, fun qr19 hqr19 => ?_⟩
  obtain ⟨ur19, wr19⟩ := tup_new (K := K) (d := d) (ds := [.int 0, .int 0, .int 0]) (.cons (.int _) (.cons (.int _) (.cons (.int _) .nil))) dr18 hqr19
  generalize upd Gr18 qr19 (.tup [.int 0, .int 0, .int 0]) = Gr19 at ur19 wr19 ⊢
  have dr19 := ur19 _ _ dr18
  have sr19 := sr18.trans ur19
  have ar19 := wr18.kp (KpN.same ur19)
  refine ⟨by show 1 ≤ sizeLine; decide, fun qr20 hqr20 => ?_⟩
  obtain ⟨ur20, wr20⟩ := tup_new (K := K) (d := d) (ds := [.tuple [.int 0, .int 0, .int 0]]) (.cons wr19 .nil) dr19 hqr20
  generalize upd Gr19 qr20 (.tup [.ref qr19]) = Gr20 at ur20 wr20 ⊢
  have dr20 := ur20 _ _ dr19
  have sr20 := sr19.trans ur20
  have ar20 := ar19.kp (KpN.same ur20)
  refine ⟨by show 2 ≤ sizeLine; decide, fun tr21 htr21 => ?_⟩
  obtain ⟨ur21, wr21⟩ := pair_new (i := 0) ar20 dr20 (wr20 : Dn K d _ _ (.tuple [.tuple [.int 0, .int 0, .int 0]])) htr21
  generalize upd Gr20 tr21 (.tup [.ref qr20, .int 0]) = Gr21 at ur21 wr21 ⊢
  have dr21 := ur21 _ _ dr20
  have sr21 := sr20.trans ur21
  refine ⟨by show 2 ≤ sizeLine; decide, fun qr22 hqr22 => ?_⟩
  obtain ⟨ur22, wr22⟩ := lst_new (K := K) (d := d) (ds := [.int 0, .int 0]) (.cons (.int _) (.cons (.int _) .nil)) dr21 hqr22
  generalize upd Gr21 qr22 (.lst [.int 0, .int 0]) = Gr22 at ur22 wr22 ⊢
  have dr22 := ur22 _ _ dr21
  have sr22 := sr21.trans ur22
  have ar22 := wr21.kp (KpN.same ur22)
  refine ⟨by show 1 ≤ sizeLine; decide, fun qr23 hqr23 => ?_⟩
  obtain ⟨ur23, wr23⟩ := tup_new (K := K) (d := d) (ds := [.list [.int 0, .int 0]]) (.cons wr22 .nil) dr22 hqr23
  generalize upd Gr22 qr23 (.tup [.ref qr22]) = Gr23 at ur23 wr23 ⊢
  have dr23 := ur23 _ _ dr22
  have sr23 := sr22.trans ur23
  have ar23 := ar22.kp (KpN.same ur23)
  refine ⟨by show 2 ≤ sizeLine; decide, fun tr24 htr24 => ?_⟩
  obtain ⟨ur24, wr24⟩ := pair_new (i := 0) ar23 dr23 (wr23 : Dn K d _ _ (.tuple [.list [.int 0, .int 0]])) htr24
  generalize upd Gr23 tr24 (.tup [.ref qr23, .int 0]) = Gr24 at ur24 wr24 ⊢
  have dr24 := ur24 _ _ dr23
  have sr24 := sr23.trans ur24
  refine ⟨by show 2 ≤ sizeLine; decide, fun qr25 hqr25 => ?_⟩
  obtain ⟨ur25, wr25⟩ := tup_new (K := K) (d := d) (ds := [.bool true, .int 0]) (.cons (.bl _) (.cons (.int _) .nil)) dr24 hqr25
  generalize upd Gr24 qr25 (.tup [.bl true, .int 0]) = Gr25 at ur25 wr25 ⊢
  have dr25 := ur25 _ _ dr24
  have sr25 := sr24.trans ur25
  have ar25 := wr24.kp (KpN.same ur25)
  refine ⟨by show 1 ≤ sizeLine; decide, fun qr26 hqr26 => ?_⟩
  obtain ⟨ur26, wr26⟩ := tup_new (K := K) (d := d) (ds := [.tuple [.bool true, .int 0]]) (.cons wr25 .nil) dr25 hqr26
  generalize upd Gr25 qr26 (.tup [.ref qr25]) = Gr26 at ur26 wr26 ⊢
  have dr26 := ur26 _ _ dr25
  have sr26 := sr25.trans ur26
  have ar26 := ar25.kp (KpN.same ur26)
  refine ⟨by show 2 ≤ sizeLine; decide, fun tr27 htr27 => ?_⟩
  obtain ⟨ur27, wr27⟩ := pair_new (i := 0) ar26 dr26 (wr26 : Dn K d _ _ (.tuple [.tuple [.bool true, .int 0]])) htr27
  generalize upd Gr26 tr27 (.tup [.ref qr26, .int 0]) = Gr27 at ur27 wr27 ⊢
  have dr27 := ur27 _ _ dr26
  have sr27 := sr26.trans ur27
  refine ⟨_, _, rfl, rfl, by show 2 ≤ sizeLine; decide, fun qr28 hqr28 => ?_⟩
  obtain ⟨ur28, wr28⟩ := tup_new (K := K) (d := d) (ds := [.int (0 - 1), .int 0]) (.cons (.int _) (.cons (.int _) .nil)) dr27 hqr28
  generalize upd Gr27 qr28 (.tup [.int (0 - 1), .int 0]) = Gr28 at ur28 wr28 ⊢
  have dr28 := ur28 _ _ dr27
  have sr28 := sr27.trans ur28
  have ar28 := wr27.kp (KpN.same ur28)
  refine ⟨by show 1 ≤ sizeLine; decide, fun qr29 hqr29 => ?_⟩
  obtain ⟨ur29, wr29⟩ := tup_new (K := K) (d := d) (ds := [.tuple [.int (0 - 1), .int 0]]) (.cons wr28 .nil) dr28 hqr29
  generalize upd Gr28 qr29 (.tup [.ref qr28]) = Gr29 at ur29 wr29 ⊢
  have dr29 := ur29 _ _ dr28
  have sr29 := sr28.trans ur29
  have ar29 := ar28.kp (KpN.same ur29)
  refine ⟨by show 2 ≤ sizeLine; decide, fun tr30 htr30 => ?_⟩
  obtain ⟨ur30, wr30⟩ := pair_new (i := 0) ar29 dr29 (wr29 : Dn K d _ _ (.tuple [.tuple [.int (0 - 1), .int 0]])) htr30
  generalize upd Gr29 tr30 (.tup [.ref qr29, .int 0]) = Gr30 at ur30 wr30 ⊢
  have dr30 := ur30 _ _ dr29
  have sr30 := sr29.trans ur30
  refine ⟨by show 5 ≤ sizeLine; decide, fun lC hlC => ?_⟩
  have s5 := same_upd (o := .lst [.ref tr18, .ref tr21, .ref tr24, .ref tr27, .ref tr30]) hlC
  have gC : (upd Gr30 lC (.lst [.ref tr18, .ref tr21, .ref tr24, .ref tr27, .ref tr30])) lC = some (.lst [.ref tr18, .ref tr21, .ref tr24, .ref tr27, .ref tr30]) := upd_same
  have aC' := wr30.kp (KpN.same s5)
  have sC := sr30.trans s5
  have gB2 := sC _ _ gB
  have hdC := s5 _ _ dr30
  generalize upd Gr30 lC (.lst [.ref tr18, .ref tr21, .ref tr24, .ref tr27, .ref tr30]) = HC at gC aC' sC gB2 hdC ⊢
  refine ⟨lB, lC, _, _, rfl, rfl, gB2, gC, by show 6 + 5 ≤ sizeLine; decide, fun lD hlD => ?_⟩
  have aD : Its K lD (hid d (upd HC lD (.lst ([.ref tr1, .ref tr3, .ref tr6, .ref tr9, .ref tr13, .ref tr16] ++ [.ref tr18, .ref tr21, .ref tr24, .ref tr27, .ref tr30])))) ([.ref tr1, .ref tr3, .ref tr6, .ref tr9, .ref tr13, .ref tr16] ++ [.ref tr18, .ref tr21, .ref tr24, .ref tr27, .ref tr30]) _ := its_hid2 (hid_two hlD) aC'
  have gD : (upd HC lD (.lst ([.ref tr1, .ref tr3, .ref tr6, .ref tr9, .ref tr13, .ref tr16] ++ [.ref tr18, .ref tr21, .ref tr24, .ref tr27, .ref tr30]))) lD = some (.lst ([.ref tr1, .ref tr3, .ref tr6, .ref tr9, .ref tr13, .ref tr16] ++ [.ref tr18, .ref tr21, .ref tr24, .ref tr27, .ref tr30])) := upd_same
  have nD : lD ≠ d := (ne_of_none hdC hlD).symm
  have sD := (sB.trans sC).trans (same_upd (o := .lst ([.ref tr1, .ref tr3, .ref tr6, .ref tr9, .ref tr13, .ref tr16] ++ [.ref tr18, .ref tr21, .ref tr24, .ref tr27, .ref tr30])) hlD)
  have hdD := same_upd (o := .lst ([.ref tr1, .ref tr3, .ref tr6, .ref tr9, .ref tr13, .ref tr16] ++ [.ref tr18, .ref tr21, .ref tr24, .ref tr27, .ref tr30])) hlD _ _ hdC
  show tSeq _ _ _ (List.set _ 14 (some (.ref lD))) (upd HC lD (.lst ([.ref tr1, .ref tr3, .ref tr6, .ref tr9, .ref tr13, .ref tr16] ++ [.ref tr18, .ref tr21, .ref tr24, .ref tr27, .ref tr30])))
  generalize upd HC lD (.lst ([.ref tr1, .ref tr3, .ref tr6, .ref tr9, .ref tr13, .ref tr16] ++ [.ref tr18, .ref tr21, .ref tr24, .ref tr27, .ref tr30])) = HD at aD gD sD hdD ⊢
  generalize eLD : ([.ref tr1, .ref tr3, .ref tr6, .ref tr9, .ref tr13, .ref tr16] ++ [.ref tr18, .ref tr21, .ref tr24, .ref tr27, .ref tr30] : List V) = LD at aD gD
  have lLD : LD.length = 11 := by rw [← eLD]; rfl
  clear gB gB2 gC aC' sB sC aB
  refine ⟨_, rfl, .inl ⟨rfl, _, SqL.of gD⟩, by show 2 ≤ sizeLine; decide, fun qx hqx => ⟨by show 1 ≤ sizeLine; decide, fun qy hqy => ⟨by show 2 ≤ sizeLine; decide, fun t12 ht12 => ?_⟩⟩⟩
  have x1 := same_upd (o := .tup [.int 0, .non]) hqx
  have x2 := same_upd (o := .tup [.ref qx]) hqy
  have x3 := same_upd (o := .tup [.ref qy, .int 0]) ht12
  have ex := x3 _ _ (x2 _ _ (upd_same (H := HD) (a := qx) (o := .tup [.int 0, .non])))
  have ey := x3 _ _ (upd_same (H := upd HD qx (.tup [.int 0, .non])) (a := qy) (o := .tup [.ref qx]))
  have et : (upd (upd (upd HD qx (.tup [.int 0, .non])) qy (.tup [.ref qx])) t12 (.tup [.ref qy, .int 0])) t12 = some (.tup [.ref qy, .int 0]) := upd_same
  have xs := (x1.trans x2).trans x3
  generalize upd (upd (upd HD qx (.tup [.int 0, .non])) qy (.tup [.ref qx])) t12 (.tup [.ref qy, .int 0]) = HE at ex ey et xs ⊢
  clear x1 x2 x3 hqx hqy ht12
  have gE := xs _ _ gD
  have hdE := xs _ _ hdD
  have aE := aD.kp (KpN.same (hid_kp (KpN.same xs)))
  refine ⟨lD, LD, .ref t12, rfl, rfl, gE, by rw [lLD]; show 11 < sizeLine; decide, ?_⟩
  have nx : qx ≠ lD ∧ qx ≠ d := ⟨fun e => (by rw [e, gE] at ex; cases ex), fun e => (by rw [e, hdE] at ex; cases ex)⟩
  have ny : qy ≠ lD ∧ qy ≠ d := ⟨fun e => (by rw [e, gE] at ey; cases ey), fun e => (by rw [e, hdE] at ey; cases ey)⟩
  have nt : t12 ≠ lD ∧ t12 ≠ d := ⟨fun e => (by rw [e, gE] at et; cases et), fun e => (by rw [e, hdE] at et; cases et)⟩
  have fx : hid lD (hid d (upd HE lD (.lst (LD ++ [.ref t12])))) qx = some (.tup [.int 0, .non]) := hid_at (hid_at (by rw [upd_ne nx.1]; exact ex) nx.2 (fun ps z => by cases z)) nx.1 (fun ps z => by cases z)
  have fy : hid lD (hid d (upd HE lD (.lst (LD ++ [.ref t12])))) qy = some (.tup [.ref qx]) := hid_at (hid_at (by rw [upd_ne ny.1]; exact ey) ny.2 (fun ps z => by cases z)) ny.1 (fun ps z => by cases z)
  have ft : hid lD (hid d (upd HE lD (.lst (LD ++ [.ref t12])))) t12 = some (.tup [.ref qy, .int 0]) := hid_at (hid_at (by rw [upd_ne nt.1]; exact et) nt.2 (fun ps z => by cases z)) nt.1 (fun ps z => by cases z)
  have aF : Its K lD (hid d (upd HE lD (.lst (LD ++ [.ref t12])))) (LD ++ [.ref t12]) (R12 (ts.map V.str).length (per ts)) :=
    (aE.kp kpn_set).app (p := (.tuple [.tuple [.int 0, .none]], 0)) ⟨t12, .ref qy, rfl, ft, .tup (SqT.of fy) (.cons (.tup (SqT.of fx) (.cons (.int _) (.cons .non .nil))) .nil)⟩
  have gF : (upd HE lD (.lst (LD ++ [.ref t12]))) lD = some (.lst (LD ++ [.ref t12])) := upd_same
  have hdF : (upd HE lD (.lst (LD ++ [.ref t12]))) d = some (.lst (st37.map V.int)) := by rw [upd_ne nD.symm]; exact hdE
  have kF : KpN d H38 (upd HE lD (.lst (LD ++ [.ref t12]))) ∨ True := .inr trivial
  have tF : (upd HE lD (.lst (LD ++ [.ref t12]))) aT = some (.tup (ts.map V.str)) := by
    have q := xs _ _ (sD _ _ t38)
    rw [upd_ne (fun e => by rw [e, gE] at q; cases q)]; exact q
  have cF : (upd HE lD (.lst (LD ++ [.ref t12]))) aC = some (.tup (cs2.map V.int)) := by
    have q := xs _ _ (sD _ _ c38)
    rw [upd_ne (fun e => by rw [e, gE] at q; cases q)]; exact q
  have TF' : LamX.Tabs [(Pt, lamQ)] (upd HE lD (.lst (LD ++ [.ref t12]))) := tabs_kp (tabs_same (tabs_same T38 sD) xs) kp_upd gE
  generalize upd HE lD (.lst (LD ++ [.ref t12])) = HF at aF gF hdF tF cF TF' ⊢
  clear aD aE gE gD hdE hdD fx fy ft ex ey et sD xs kF
  have lLF : (LD ++ [V.ref t12]).length = 12 := by rw [List.length_append, lLD]; rfl
  refine ⟨_, rfl, _, rfl, d, 12, st37, rfl, hdF, hg37, by decide, by decide, fun HG st39 r39 k39 hd39 hg39 r390 r391 => ?_⟩
  obtain ⟨j39, v39, ej39, ea39, hv39⟩ := at_some (xs := LD ++ [V.ref t12]) r390 (by rw [lLF]; exact r391)
  refine ⟨lD, _, r39, v39, rfl, rfl, SqL.of (k39 _ _ nD gF), ea39, ?_⟩
  obtain ⟨pr, hpr, ⟨tt, bb, rfl, ett, hbb⟩⟩ := (aF.kp (KpN.same (hid_kp (KpN.of k39)))).get hv39
  have hn1 := hPP.n1
  obtain ⟨kk6, ek6, bad6⟩ := r12_bad (by rw [List.length_map]; exact hn1) (per_pos hPP.tabs) pr hpr
  refine ⟨tt, _, rfl, SqT.of (of_hid (of_hid ett).2.1).2.1, rfl, _, _, rfl, _, _, rfl, rfl, ?_⟩
  have hb : Dn K d HG bb pr.1 := hbb.dp
  have T39 := tabs_kp TF' k39 hdF
  have t39 := (KpN.of k39).tup hdF _ _ tF
  have c39 := (KpN.of k39).tup hdF _ _ cF
  have hlen : (lenD (.tuple (ts.map PyData.str)) : Int) = (((ts.map V.str).length : Nat) : Int) := by show (((ts.map PyData.str).length : Nat) : Int) = _; rw [List.length_map, List.length_map]
  have hper : (perD (.tuple (ts.map PyData.str)) : Int) = ((per ts : Nat) : Int) := by show ((per ((ts.map PyData.str).map strOf) : Nat) : Int) = _; rw [strs_back]
  have hkeys : chkKeys (.int kk) = none := by unfold chkKeys; rw [if_pos (below_is hPP.k0 (by have := hPP.k9; omega))]
  have hcar : chkCareful (.tuple (cs2.map PyData.int)) (lenD (.tuple (ts.map PyData.str)) : Int) = none := by rw [hlen]; exact careful_is hPP.cp (by rw [List.length_map]; exact hPP.cm)
  refine chk_step (part := Str.ofString "reminders") (i := pr.2) (by decide +kernel) T39 (fun H40 E Q0 x40 T40 hE => ⟨_, rfl, _, rfl, _, rfl, _, rfl, house_fail (part := Str.ofString "reminders") (i := kk6) (.tup (SqT.of (ExtN_tup x40 t39)) (dpAll_strs ts)) (.int kk) (.tup (SqT.of (ExtN_tup x40 c39)) (dpAll_ints _)) (Dn.kp hb (KpN.ext x40)).dp hsm (house_rem hts hkeys hcar (by rw [hlen, hper]; exact bad6)) (fun H2 s2 => by rw [← ek6]; exact hE H2 s2)⟩) (fun H40 Q q => ⟨_, rfl, q⟩) (fun H40 x40 T40 => ?_)
  exact hnx _ _ _ ⟨⟨_, _, _, _, _, _, _, _, _, _, _, _, _, _, _, _, _, _, _, _, rfl, T40, k⟩⟩
end
end Dk

set_option Elab.async false
set_option linter.all false
set_option maxRecDepth 100000
set_option maxHeartbeats 8000000
namespace Dk
open PySem PySem.Spec PyProof.Rows L2 TL
section
variable {P : Program} {w : World} {K : PySem.W.Frag} {mg : Str → Option Value} {base : Heap} {C fI : Addr} {fdI : FuncData} {fII fIB fHO : Addr} {fdII fdIB fdHO : FuncData} {fIT fIR fAs : Addr} {fdIT fdIR fdAs : FuncData}
  {CH fP fT fK fC fR : Addr} {fdP fdT fdK fdC fdR : FuncData} {fH : Addr} {fdH : FuncData} {dvs : List V} {ds2 : List Value}
  {fB fTb fLn : Addr} {fdB fdTb fdLn : FuncData} {fRa fPa fErr pP gP : Addr} {fdRa fdPa fdErr fdPp : FuncData} {cs : Nat → Addr} {CE CT cL Pt : Addr}
theorem law_P5 {f : Addr} {A : Around} {outer : List Env} {s : Shared} {H : Hp} {E : XK} (hr : Room 8 (A.deeper (envOfC (Str.ofString "law") (defScope sLaw) s.heap.objs.size f (.ref cL)))) (T : TxtA mg) (B : TxtB K mg fB fdB) (D' : TxtD K mg fTb fLn fdTb fdLn) (TC : TxtC mg) (TF : TxtF K mg fII fIB fHO fdII fdIB fdHO) (TI : TxtI K mg fIT fIR fAs fdIT fdIR fdAs) (TH : TxtIH K mg C fI fdI)
    (TL' : TxtL K mg CH fP fT fK fC fR fdP fdT fdK fdC fdR)
    (FH : FunD K "__init__" "House.__init__" (defArgs sInit) (defBody sInit) (defScope sInit) dvs [] fH fdH) (bH : Binds K fdH ["self", "tables", "keys", "careful", "reminders"] []) (bH2 : Binds K fdH ["self", "tables", "keys", "careful", "reminders"] ds2) (hd2 : Vals dvs ds2) (M : Mk K CH fH) (gH : mg "House" = some (.ref CH))
    (W : TxtV K mg CH fRa fPa fErr pP gP fdRa fdPa fdErr fdPp) (N : TxtN mg cs CE) (EI : ErrKit K cs CE C 8) (ET : ErrKit K cs CE CT 9) (XF : XFs K C CT) (TB : LamX.TabB base mg cL Pt)
    {e1 e2 : Addr} (hdv : dvs = [.ref e1, .ref e2]) (he1 : SqT K (fun _ => none) e1 []) (he2 : SqT K (fun _ => none) e2 []) :
    ∃ t, PSs (cxOf CX0 P w K mg base nLaw8 "law" (defScope sLaw) f (.ref cL) A outer s H E).nox ((defBody sLaw).drop 13) t ∧ ∀ D σ H2, CondM Pt D σ H2 → t D σ H2 := by
  have GRa : FnOk P w K mg base CX0 1 fRa fdRa ["_law_script", "_law_salt"] (spRandom K) := ok_random W.FRa T
  have GB : FnOk P w K mg base CX0 1 fB fdB ["_law_d", "_law_limit"] spBelow := ok_below B.F T
  have GL : FnOk P w K mg base CX0 1 fLn fdLn ["_law_tables"] (spLength K) := ok_length D'.FL T
  have GPa : FnOk P w K mg base CX0 3 fPa fdPa ["_law_d", "_law_most"] spParts := ok_parts W.FPa T B D'
  have GPe : FnOk P w K mg base CX0 2 gP fdPp ["self"] (spPer K CH) := ok_period8 W.FPe T TC TL'
  have GH : FnOk P w K mg base (L2.CX P w) 5 fH fdH ["self", "tables", "keys", "careful", "reminders"] (spInit K CH C) := ok_init FH T TC TF TI TH TL'
  have hr6 : Room 6 (A.deeper (envOfC (Str.ofString "law") (defScope sLaw) s.heap.objs.size f (.ref cL))) := hr.mono (by decide)
  have hr3 : Room 3 (A.deeper (envOfC (Str.ofString "law") (defScope sLaw) s.heap.objs.size f (.ref cL))) := hr.mono (by decide)
  have hr2 : Room 3 (A.deeper (envOfC (Str.ofString "law") (defScope sLaw) s.heap.objs.size f (.ref cL))) := hr.mono (by decide)
  have hr1 : Room 1 (A.deeper (envOfC (Str.ofString "law") (defScope sLaw) s.heap.objs.size f (.ref cL))) := hr.mono (by decide)
  have hu64 : (A.deeper (envOfC (Str.ofString "law") (defScope sLaw) s.heap.objs.size f (.ref cL))).units + 64 < cLine := by have := hr.un; omega
  have hmT : (Pt, lamQ) ∈ [(Pt, lamQ)] := List.mem_singleton.mpr rfl
  have hu : ∀ p ∈ [(Pt, lamQ)], p.1 = Pt → p.2 = lamQ := fun p hp _ => by rw [List.mem_singleton.mp hp]
  obtain ⟨tn, htn, hnx⟩ := law_P6 hr T B D' TC TF TI TH TL' FH bH bH2 hd2 M gH W N EI ET XF TB hdv he1 he2 (outer := outer) (H := H) (E := E)
  refine ⟨_, (pss_cons (ps_set (i := 14) scLaw8.nd rfl (.inl rfl) (pe_lst (pa_cons (pe_tup (pa_cons pe_non (pa_cons pe_int pa_nil))) (pa_cons (pe_tup (pa_cons pe_int (pa_cons pe_int pa_nil))) (pa_cons (pe_tup (pa_cons (pe_callTy call_list_of (by rfl) W.list (by decide +kernel) (pa_cons (pv 4) pa_nil)) (pa_cons pe_int pa_nil))) (pa_cons (pe_tup (pa_cons (pe_tup (pa_cons (pv 6) pa_nil)) (pa_cons pe_int pa_nil))) (pa_cons (pe_tup (pa_cons (pe_tup (pa_cons (pe_op op_sub pe_int pe_int) pa_nil)) (pa_cons pe_int pa_nil))) (pa_cons (pe_tup (pa_cons (pe_tup (pa_cons pe_bl pa_nil)) (pa_cons pe_int pa_nil))) (pa_cons (pe_tup (pa_cons (pe_tup (pa_cons pe_int (pa_cons pe_int pa_nil))) (pa_cons pe_int pa_nil))) (pa_cons (pe_tup (pa_cons (pe_tup (pa_cons pe_str pa_nil)) (pa_cons pe_int pa_nil))) pa_nil))))))))))
      (pss_cons (ps_asg (pe_ix ix_list (pe_op op_cat (pv 14) (pe_lst (pa_cons (pe_tup (pa_cons (pe_op op_catA (pe_tupRg rfl (by rfl) TF.tuple (prg_1 (by rfl) T.range (pv 6))) (pe_tup (pa_cons pe_int pa_nil))) (pa_cons (pv 6) pa_nil))) pa_nil))) (pe_call GB hr1 rfl B.g B.F.kp B.b .nil pass0 (pa_cons (pv 1) (pa_cons pe_int pa_nil))) (fun _ _ => rfl)) (pg_tup rfl (pgs_cons (pg_name (i := 15) scLaw8.nd rfl (.inr rfl)) (pgs_cons (pg_name (i := 16) scLaw8.nd rfl (.inl rfl)) pgs_nil))))
      (pss_cons (ps_if (pt_cmpR (op_neD hu64) (pe_errof (T := [(Pt, lamQ)]) (t := tH4 K CH C (tVar 2) (tVar 3) (tVar 15) (tC .non)) N EI ET XF (by rfl) W.gErr W.FErr W.bErr TB rfl hmT hu hr (LamX.lamS_by (sc := defScope sLaw) (by decide +kernel)) rfl (fun _ _ _ _ _ => rfl) (fun A outer s H E f c' hr' => by exact pe_make M GH hr' rfl gH bH .nil (passes_call (takes_of rfl rfl rfl rfl) (fun _ _ _ _ h => h)) (pa_cons (pv 2) (pa_cons (pv 3) (pa_cons (pv 15) (pa_cons pe_non pa_nil)))))) (pe_tup (pa_cons pe_str (pa_cons (pe_tup (pa_cons pe_str (pa_cons (pv 16) pa_nil))) pa_nil))) (nomark _)) (pss_one (ps_ret pe_bl)) pss_nil)
      htn))), fun D σ H23 hc => ?_⟩
  obtain ⟨⟨d, aT, aC, st22, ts, kk, cs2, rs, v0, v5, v8_, v9_, v10_, v11_, v12_, v13_, v14_, v15_, v16_, v17_, v18_, v19_, rfl, hd23, hg22, t23, c23, hPP, T23, k⟩⟩ := hc
  have hts := tabs_is hPP.tabs hPP.n1 hPP.n6
  have hsm : ∀ ds, (PyData.tuple (ts.map PyData.str)) = .tuple ds → ∀ x ∈ ds, SmallS x := fun ds e x hx => by cases e; exact small_strs hPP.tabs x hx
  have hm : ((ts.map V.str).length : Int) ≤ 6 := by rw [List.length_map]; have := hPP.n6; omega
  -- careful persons
  have i0 : Its K d H23 [] [] := .nil
  refine ⟨by show 2 ≤ sizeLine; decide, fun tc1 htc1 => ?_⟩
  obtain ⟨uc1, wc1⟩ := pair_new (i := 0) i0 hd23 (.non : Dn K d _ _ .none) htc1
  generalize upd H23 tc1 (.tup [.non, .int 0]) = Gc1 at uc1 wc1 ⊢
  have dc1 := uc1 _ _ hd23
  have sc1 := uc1
  refine ⟨by show 2 ≤ sizeLine; decide, fun tc2 htc2 => ?_⟩
  obtain ⟨uc2, wc2⟩ := pair_new (i := 0) wc1 dc1 (.int 5 : Dn K d _ _ (.int 5)) htc2
  generalize upd Gc1 tc2 (.tup [.int 5, .int 0]) = Gc2 at uc2 wc2 ⊢
  have dc2 := uc2 _ _ dc1
  have sc2 := sc1.trans uc2
  refine ⟨_, rfl, aC, _, rfl, .inr (SqT.of (sc2 _ _ c23)), ?_⟩
  intro qc3 hqc3
  obtain ⟨uc3, wc3⟩ := lst_new (K := K) (d := d) (ds := cs2.map PyData.int) (dpAll_ints _) dc2 hqc3
  generalize upd Gc2 qc3 (.lst (cs2.map V.int)) = Gc3 at uc3 wc3 ⊢
  have dc3 := uc3 _ _ dc2
  have sc3 := sc2.trans uc3
  have ac3 := wc2.kp (KpN.same uc3)
  refine ⟨by show 2 ≤ sizeLine; decide, fun tc4 htc4 => ?_⟩
  obtain ⟨uc4, wc4⟩ := pair_new (i := 0) ac3 dc3 (wc3 : Dn K d _ _ (.list (cs2.map PyData.int))) htc4
  generalize upd Gc3 tc4 (.tup [.ref qc3, .int 0]) = Gc4 at uc4 wc4 ⊢
  have dc4 := uc4 _ _ dc3
  have sc4 := sc3.trans uc4
  refine ⟨_, rfl, by show 1 ≤ sizeLine; decide, fun qc5 hqc5 => ?_⟩
  obtain ⟨uc5, wc5⟩ := tup_new (K := K) (d := d) (ds := [.int (((ts.map V.str).length : Nat) : Int)]) (.cons (.int _) .nil) dc4 hqc5
  generalize upd Gc4 qc5 (.tup [.int (((ts.map V.str).length : Nat) : Int)]) = Gc5 at uc5 wc5 ⊢
  have dc5 := uc5 _ _ dc4
  have sc5 := sc4.trans uc5
  have ac5 := wc4.kp (KpN.same uc5)
  refine ⟨by show 2 ≤ sizeLine; decide, fun tc6 htc6 => ?_⟩
  obtain ⟨uc6, wc6⟩ := pair_new (i := 0) ac5 dc5 (wc5 : Dn K d _ _ (.tuple [.int (((ts.map V.str).length : Nat) : Int)])) htc6
  generalize upd Gc5 tc6 (.tup [.ref qc5, .int 0]) = Gc6 at uc6 wc6 ⊢
  have dc6 := uc6 _ _ dc5
  have sc6 := sc5.trans uc6
  refine ⟨_, _, rfl, rfl, by show 1 ≤ sizeLine; decide, fun qc7 hqc7 => ?_⟩
  obtain ⟨uc7, wc7⟩ := tup_new (K := K) (d := d) (ds := [.int (0 - 1)]) (.cons (.int _) .nil) dc6 hqc7
  generalize upd Gc6 qc7 (.tup [.int (0 - 1)]) = Gc7 at uc7 wc7 ⊢
  have dc7 := uc7 _ _ dc6
  have sc7 := sc6.trans uc7
  have ac7 := wc6.kp (KpN.same uc7)
  refine ⟨by show 2 ≤ sizeLine; decide, fun tc8 htc8 => ?_⟩
  obtain ⟨uc8, wc8⟩ := pair_new (i := 0) ac7 dc7 (wc7 : Dn K d _ _ (.tuple [.int (0 - 1)])) htc8
  generalize upd Gc7 tc8 (.tup [.ref qc7, .int 0]) = Gc8 at uc8 wc8 ⊢
  have dc8 := uc8 _ _ dc7
  have sc8 := sc7.trans uc8
  refine ⟨by show 1 ≤ sizeLine; decide, fun qc9 hqc9 => ?_⟩
  obtain ⟨uc9, wc9⟩ := tup_new (K := K) (d := d) (ds := [.bool true]) (.cons (.bl _) .nil) dc8 hqc9
  generalize upd Gc8 qc9 (.tup [.bl true]) = Gc9 at uc9 wc9 ⊢
  have dc9 := uc9 _ _ dc8
  have sc9 := sc8.trans uc9
  have ac9 := wc8.kp (KpN.same uc9)
  refine ⟨by show 2 ≤ sizeLine; decide, fun tc10 htc10 => ?_⟩
  obtain ⟨uc10, wc10⟩ := pair_new (i := 0) ac9 dc9 (wc9 : Dn K d _ _ (.tuple [.bool true])) htc10
  generalize upd Gc9 tc10 (.tup [.ref qc9, .int 0]) = Gc10 at uc10 wc10 ⊢
  have dc10 := uc10 _ _ dc9
  have sc10 := sc9.trans uc10
  refine ⟨by show 2 ≤ sizeLine; decide, fun qc11 hqc11 => ?_⟩
  obtain ⟨uc11, wc11⟩ := tup_new (K := K) (d := d) (ds := [.int 0, .int 0]) (.cons (.int _) (.cons (.int _) .nil)) dc10 hqc11
  generalize upd Gc10 qc11 (.tup [.int 0, .int 0]) = Gc11 at uc11 wc11 ⊢
  have dc11 := uc11 _ _ dc10
  have sc11 := sc10.trans uc11
  have ac11 := wc10.kp (KpN.same uc11)
  refine ⟨by show 2 ≤ sizeLine; decide, fun tc12 htc12 => ?_⟩
  obtain ⟨uc12, wc12⟩ := pair_new (i := 1) ac11 dc11 (wc11 : Dn K d _ _ (.tuple [.int 0, .int 0])) htc12
  generalize upd Gc11 tc12 (.tup [.ref qc11, .int 1]) = Gc12 at uc12 wc12 ⊢
  have dc12 := uc12 _ _ dc11
  have sc12 := sc11.trans uc12
  refine ⟨by show 1 ≤ sizeLine; decide, fun qc13 hqc13 => ?_⟩
  obtain ⟨uc13, wc13⟩ := tup_new (K := K) (d := d) (ds := [.str (Str.ofString "0")]) (.cons (.str _) .nil) dc12 hqc13
  generalize upd Gc12 qc13 (.tup [.str (Str.ofString "0")]) = Gc13 at uc13 wc13 ⊢
  have dc13 := uc13 _ _ dc12
  have sc13 := sc12.trans uc13
  have ac13 := wc12.kp (KpN.same uc13)
  refine ⟨by show 2 ≤ sizeLine; decide, fun tc14 htc14 => ?_⟩
  obtain ⟨uc14, wc14⟩ := pair_new (i := 0) ac13 dc13 (wc13 : Dn K d _ _ (.tuple [.str (Str.ofString "0")])) htc14
  generalize upd Gc13 tc14 (.tup [.ref qc13, .int 0]) = Gc14 at uc14 wc14 ⊢
  have dc14 := uc14 _ _ dc13
  have sc14 := sc13.trans uc14
  refine ⟨by show 8 ≤ sizeLine; decide, fun l8 hl8 => ?_⟩
  have s30 := sc14.trans (same_upd (o := .lst [.ref tc1, .ref tc2, .ref tc4, .ref tc6, .ref tc8, .ref tc10, .ref tc12, .ref tc14]) hl8)
  have a30 := wc14.kp (KpN.same (same_upd (o := .lst [.ref tc1, .ref tc2, .ref tc4, .ref tc6, .ref tc8, .ref tc10, .ref tc12, .ref tc14]) hl8))
  have g30 : (upd Gc14 l8 (.lst [.ref tc1, .ref tc2, .ref tc4, .ref tc6, .ref tc8, .ref tc10, .ref tc12, .ref tc14])) l8 = some (.lst [.ref tc1, .ref tc2, .ref tc4, .ref tc6, .ref tc8, .ref tc10, .ref tc12, .ref tc14]) := upd_same
  generalize upd Gc14 l8 (.lst [.ref tc1, .ref tc2, .ref tc4, .ref tc6, .ref tc8, .ref tc10, .ref tc12, .ref tc14]) = H30 at s30 a30 g30
  have hd30 := s30 _ _ hd23
  have n30 : l8 ≠ d := (ne_of_none dc14 hl8).symm
  clear hl8
  have hn1 := hPP.n1
  have hmn : (((ts.map V.str).length : Nat) : Int) = (ts.length : Int) := by rw [List.length_map]
  refine ⟨_, rfl, _, rfl, _, rfl, RgOk.of_le (Int.le_refl 0) (by omega) (by omega) (by omega), ?_⟩
  intro qR hqR
  have sR := same_upd (o := .tup (rgV 0 (((ts.map V.str).length : Nat) : Int))) hqR
  have gR : (upd H30 qR (.tup (rgV 0 (((ts.map V.str).length : Nat) : Int)))) qR = some (.tup (rgV 0 (((ts.map V.str).length : Nat) : Int))) := upd_same
  have a31 := a30.kp (KpN.same sR)
  have g31 := sR _ _ g30
  have hd31 := sR _ _ hd30
  generalize upd H30 qR (.tup (rgV 0 (((ts.map V.str).length : Nat) : Int))) = H31 at sR gR a31 g31 hd31 ⊢
  refine ⟨by show 1 ≤ sizeLine; decide, fun qZ hqZ => ?_⟩
  have sZ := same_upd (o := .tup [.int 0]) hqZ
  have gZ : (upd H31 qZ (.tup [.int 0])) qZ = some (.tup [.int 0]) := upd_same
  have a32 := a31.kp (KpN.same sZ)
  have g32 := sZ _ _ g31
  have gR2 := sZ _ _ gR
  have hd32 := sZ _ _ hd31
  have s32 := sR.trans sZ
  generalize upd H31 qZ (.tup [.int 0]) = H32 at sZ gZ a32 g32 gR2 hd32 s32 ⊢
  have rne : rgV 0 (((ts.map V.str).length : Nat) : Int) ≠ [] := fun e => by have := congrArg List.length e; rw [rgV_length, Int.sub_zero, Int.toNat_natCast, List.length_map] at this; simp at this; rw [this] at hn1; simp at hn1
  refine ⟨qR, qZ, _, _, rfl, rfl, SqT.of gR2, SqT.of gZ, ?_, fun e => absurd e rne, fun _ e => absurd e (by simp), fun _ _ p9 hp9 => ?_⟩
  · rw [rgV_length, Int.sub_zero, Int.toNat_natCast]
    exact Nat.le_trans (by show (ts.map V.str).length + 1 ≤ 1000; omega) (by decide)
  obtain ⟨u33, w33⟩ := tup_new (K := K) (d := d) (ds := ((List.range (ts.map V.str).length).map fun k => PyData.int (0 + (k : Nat))) ++ [.int 0]) (dpAll_app (dp_range _) (.cons (.int _) .nil)) hd32 hp9
  have a33 := a32.kp (KpN.same u33)
  have g33 := u33 _ _ g32
  have hd33 := u33 _ _ hd32
  have s33 := s32.trans u33
  generalize upd H32 p9 (.tup (rgV 0 (((ts.map V.str).length : Nat) : Int) ++ [.int 0])) = H33 at u33 w33 a33 g33 hd33 s33 ⊢
  refine ⟨_, rfl, by show 2 ≤ sizeLine; decide, fun t9 ht9 => ?_⟩
  obtain ⟨u34, a34⟩ := pair_new (i := (((ts.map V.str).length : Nat) : Int)) a33 hd33 w33 ht9
  have g34 := u34 _ _ g33
  have hd34 := u34 _ _ hd33
  have s34 := s33.trans u34
  generalize upd H33 t9 (.tup [.ref p9, .int (((ts.map V.str).length : Nat) : Int)]) = H34 at u34 a34 g34 hd34 s34 ⊢
  refine ⟨by show 1 ≤ sizeLine; decide, fun l9 hl9 => ?_⟩
  have s35 := same_upd (o := .lst [.ref t9]) hl9
  have gl9 : (upd H34 l9 (.lst [.ref t9])) l9 = some (.lst [.ref t9]) := upd_same
  have a35 := a34.kp (KpN.same s35)
  have g35 := s35 _ _ g34
  have hd35 := s35 _ _ hd34
  have s35' := s34.trans s35
  generalize upd H34 l9 (.lst [.ref t9]) = H35 at s35 gl9 a35 g35 hd35 s35' ⊢
  refine ⟨l8, l9, _, _, rfl, rfl, g35, gl9, by show 8 + 1 ≤ sizeLine; decide, fun lA hlA => ?_⟩
  have s36 := s35'.trans (same_upd (o := .lst ([.ref tc1, .ref tc2, .ref tc4, .ref tc6, .ref tc8, .ref tc10, .ref tc12, .ref tc14] ++ [.ref t9])) hlA)
  have a36 : Its K d (upd H35 lA (.lst ([.ref tc1, .ref tc2, .ref tc4, .ref tc6, .ref tc8, .ref tc10, .ref tc12, .ref tc14] ++ [.ref t9]))) ([.ref tc1, .ref tc2, .ref tc4, .ref tc6, .ref tc8, .ref tc10, .ref tc12, .ref tc14] ++ [.ref t9]) (C9 (ts.map V.str).length cs2) := a35.kp (KpN.same (same_upd hlA))
  have gA : (upd H35 lA (.lst ([.ref tc1, .ref tc2, .ref tc4, .ref tc6, .ref tc8, .ref tc10, .ref tc12, .ref tc14] ++ [.ref t9]))) lA = some (.lst ([.ref tc1, .ref tc2, .ref tc4, .ref tc6, .ref tc8, .ref tc10, .ref tc12, .ref tc14] ++ [.ref t9])) := upd_same
  have nA : lA ≠ d := (ne_of_none hd35 hlA).symm
  have hd36 := same_upd (o := .lst ([.ref tc1, .ref tc2, .ref tc4, .ref tc6, .ref tc8, .ref tc10, .ref tc12, .ref tc14] ++ [.ref t9])) hlA _ _ hd35
  generalize upd H35 lA (.lst ([.ref tc1, .ref tc2, .ref tc4, .ref tc6, .ref tc8, .ref tc10, .ref tc12, .ref tc14] ++ [.ref t9])) = H36 at s36 a36 gA hd36 ⊢
  generalize eLA : ([.ref tc1, .ref tc2, .ref tc4, .ref tc6, .ref tc8, .ref tc10, .ref tc12, .ref tc14] ++ [.ref t9] : List V) = LA at a36 gA
  have lLA : LA.length = 9 := by rw [← eLA]; rfl
  refine ⟨_, rfl, d, 9, st22, rfl, hd36, hg22, by decide, by decide, fun H37 st37 r37 k37 hd37 hg37 r370 r371 => ?_⟩
  obtain ⟨j37, v37, ej37, ea37, hv37⟩ := at_some (xs := LA) r370 (by rw [lLA]; exact r371)
  refine ⟨lA, LA, r37, v37, rfl, rfl, SqL.of (k37 _ _ nA gA), ea37, ?_⟩
  obtain ⟨pr, hpr, ⟨tt, bb, rfl, ett, hbb⟩⟩ := (a36.kp (KpN.of k37)).get hv37
  obtain ⟨kk5, ek5, bad5⟩ := c9_bad (by rw [List.length_map]; exact hn1) pr hpr
  refine ⟨tt, _, rfl, SqT.of (of_hid ett).2.1, rfl, _, _, rfl, _, _, rfl, rfl, ?_⟩
  have kB : KpN d H23 H37 := KpN.of ((sKp (s30.trans s36)).trans k37)
  have T37 : LamX.Tabs [(Pt, lamQ)] H37 := tabs_kp (tabs_same T23 (s30.trans s36)) k37 hd36
  have t37 := kB.tup hd23 _ _ t23
  have c37 := kB.tup hd23 _ _ c23
  clear a30 a31 a32 a33 a34 a35 a36 s30 s32 s33 s34 s35 s35' s36 kB T23 k37 hd23 t23 c23 g30 g31 g32 g33 g34 g35 gA gl9 gR gR2 gZ
  have hlen : (lenD (.tuple (ts.map PyData.str)) : Int) = (((ts.map V.str).length : Nat) : Int) := by show (((ts.map PyData.str).length : Nat) : Int) = _; rw [List.length_map, List.length_map]
  have hkeys : chkKeys (.int kk) = none := by unfold chkKeys; rw [if_pos (below_is hPP.k0 (by have := hPP.k9; omega))]
  refine chk_step (part := Str.ofString "careful") (i := pr.2) (by decide +kernel) T37 (fun H38 E Q0 x38 T38 hE => ⟨_, rfl, _, rfl, _, rfl, house_fail (dR := .none) (part := Str.ofString "careful") (i := kk5) (.tup (SqT.of (ExtN_tup x38 t37)) (dpAll_strs ts)) (.int kk) (Dn.kp hbb (KpN.ext x38)).dp .non hsm (house_careful hts hkeys (by rw [hlen]; exact bad5)) (fun H2 s2 => by rw [← ek5]; exact hE H2 s2)⟩) (fun H38 Q q => ⟨_, rfl, q⟩) (fun H38 x38 T38 => ?_)
  have hd38 := ExtN_lst x38 hd37
  have t38 := ExtN_tup x38 t37
  have c38 := ExtN_tup x38 c37
  clear T37 hbb bad5 x38 hd37 t37 c37
  exact hnx _ _ _ ⟨⟨d, aT, aC, st37, ts, kk, cs2, rs, _, _, _, _, _, _, _, _, _, _, _, _, _, _, rfl, hd38, hg37, t38, c38, hPP, T38, k⟩⟩
end
end Dk

set_option Elab.async false
set_option linter.all false
set_option maxRecDepth 100000
set_option maxHeartbeats 8000000
namespace Dk
open PySem PySem.Spec PyProof.Rows L2 TL
section
variable {P : Program} {w : World} {K : PySem.W.Frag} {mg : Str → Option Value} {base : Heap} {C fI : Addr} {fdI : FuncData} {fII fIB fHO : Addr} {fdII fdIB fdHO : FuncData} {fIT fIR fAs : Addr} {fdIT fdIR fdAs : FuncData}
  {CH fP fT fK fC fR : Addr} {fdP fdT fdK fdC fdR : FuncData} {fH : Addr} {fdH : FuncData} {dvs : List V} {ds2 : List Value}
  {fB fTb fLn : Addr} {fdB fdTb fdLn : FuncData} {fRa fPa fErr pP gP : Addr} {fdRa fdPa fdErr fdPp : FuncData} {cs : Nat → Addr} {CE CT cL Pt : Addr}
theorem law_P4 {f : Addr} {A : Around} {outer : List Env} {s : Shared} {H : Hp} {E : XK} (hr : Room 8 (A.deeper (envOfC (Str.ofString "law") (defScope sLaw) s.heap.objs.size f (.ref cL)))) (T : TxtA mg) (B : TxtB K mg fB fdB) (D' : TxtD K mg fTb fLn fdTb fdLn) (TC : TxtC mg) (TF : TxtF K mg fII fIB fHO fdII fdIB fdHO) (TI : TxtI K mg fIT fIR fAs fdIT fdIR fdAs) (TH : TxtIH K mg C fI fdI)
    (TL' : TxtL K mg CH fP fT fK fC fR fdP fdT fdK fdC fdR)
    (FH : FunD K "__init__" "House.__init__" (defArgs sInit) (defBody sInit) (defScope sInit) dvs [] fH fdH) (bH : Binds K fdH ["self", "tables", "keys", "careful", "reminders"] []) (bH2 : Binds K fdH ["self", "tables", "keys", "careful", "reminders"] ds2) (hd2 : Vals dvs ds2) (M : Mk K CH fH) (gH : mg "House" = some (.ref CH))
    (W : TxtV K mg CH fRa fPa fErr pP gP fdRa fdPa fdErr fdPp) (N : TxtN mg cs CE) (EI : ErrKit K cs CE C 8) (ET : ErrKit K cs CE CT 9) (XF : XFs K C CT) (TB : LamX.TabB base mg cL Pt)
    {e1 e2 : Addr} (hdv : dvs = [.ref e1, .ref e2]) (he1 : SqT K (fun _ => none) e1 []) (he2 : SqT K (fun _ => none) e2 []) :
    ∃ t, PSs (cxOf CX0 P w K mg base nLaw8 "law" (defScope sLaw) f (.ref cL) A outer s H E).nox ((defBody sLaw).drop 11) t ∧ ∀ D σ H2, CondM Pt D σ H2 → t D σ H2 := by
  have GRa : FnOk P w K mg base CX0 1 fRa fdRa ["_law_script", "_law_salt"] (spRandom K) := ok_random W.FRa T
  have GB : FnOk P w K mg base CX0 1 fB fdB ["_law_d", "_law_limit"] spBelow := ok_below B.F T
  have GL : FnOk P w K mg base CX0 1 fLn fdLn ["_law_tables"] (spLength K) := ok_length D'.FL T
  have GPa : FnOk P w K mg base CX0 3 fPa fdPa ["_law_d", "_law_most"] spParts := ok_parts W.FPa T B D'
  have GPe : FnOk P w K mg base CX0 2 gP fdPp ["self"] (spPer K CH) := ok_period8 W.FPe T TC TL'
  have GH : FnOk P w K mg base (L2.CX P w) 5 fH fdH ["self", "tables", "keys", "careful", "reminders"] (spInit K CH C) := ok_init FH T TC TF TI TH TL'
  have hr6 : Room 6 (A.deeper (envOfC (Str.ofString "law") (defScope sLaw) s.heap.objs.size f (.ref cL))) := hr.mono (by decide)
  have hr3 : Room 3 (A.deeper (envOfC (Str.ofString "law") (defScope sLaw) s.heap.objs.size f (.ref cL))) := hr.mono (by decide)
  have hr2 : Room 3 (A.deeper (envOfC (Str.ofString "law") (defScope sLaw) s.heap.objs.size f (.ref cL))) := hr.mono (by decide)
  have hr1 : Room 1 (A.deeper (envOfC (Str.ofString "law") (defScope sLaw) s.heap.objs.size f (.ref cL))) := hr.mono (by decide)
  have hu64 : (A.deeper (envOfC (Str.ofString "law") (defScope sLaw) s.heap.objs.size f (.ref cL))).units + 64 < cLine := by have := hr.un; omega
  have hmT : (Pt, lamQ) ∈ [(Pt, lamQ)] := List.mem_singleton.mpr rfl
  have hu : ∀ p ∈ [(Pt, lamQ)], p.1 = Pt → p.2 = lamQ := fun p hp _ => by rw [List.mem_singleton.mp hp]
  obtain ⟨tn, htn, hnx⟩ := law_P5 hr T B D' TC TF TI TH TL' FH bH bH2 hd2 M gH W N EI ET XF TB hdv he1 he2 (outer := outer) (H := H) (E := E)
  refine ⟨_, (pss_cons (ps_set (i := 13) scLaw8.nd rfl (.inr rfl) (pe_ix ix_list (pe_lst (pa_cons (pe_op op_sub pe_int pe_int) (pa_cons pe_int (pa_cons pe_non (pa_cons pe_bl (pa_cons pe_str (pa_cons (pe_tup (pa_cons pe_int pa_nil)) pa_nil))))))) (pe_call GB hr1 rfl B.g B.F.kp B.b .nil pass0 (pa_cons (pv 1) (pa_cons pe_int pa_nil))) (fun _ _ => rfl)))
      (pss_cons (ps_if (pt_cmpR (op_neD hu64) (pe_errof (T := [(Pt, lamQ)]) (t := tH4 K CH C (tVar 2) (tVar 13) (tC .non) (tC .non)) N EI ET XF (by rfl) W.gErr W.FErr W.bErr TB rfl hmT hu hr (LamX.lamS_by (sc := defScope sLaw) (by decide +kernel)) rfl (fun _ _ _ _ _ => rfl) (fun A outer s H E f c' hr' => by exact pe_make M GH hr' rfl gH bH .nil (passes_call (takes_of rfl rfl rfl rfl) (fun _ _ _ _ h => h)) (pa_cons (pv 2) (pa_cons (pv 13) (pa_cons pe_non (pa_cons pe_non pa_nil)))))) (pe_tup (pa_cons pe_str (pa_cons (pe_tup (pa_cons pe_str (pa_cons pe_int pa_nil))) pa_nil))) (nomark _)) (pss_one (ps_ret pe_bl)) pss_nil)
      htn)), fun D σ H19 hc => ?_⟩
  obtain ⟨⟨d, aT, aC, st17, ts, kk, cs2, rs, v0, v5, v8_, v9_, v10_, v11_, v12_, v13_, v14_, v15_, v16_, v17_, v18_, v19_, rfl, hd19, hg17, t19, c19, hPP, T19, k⟩⟩ := hc
  refine ⟨_, _, rfl, rfl, by show 1 ≤ sizeLine; decide, fun q20 hq20 => ?_⟩
  obtain ⟨s20, w20⟩ := tup_new (K := K) (d := d) (ds := [.int 1]) (.cons (.int _) .nil) hd19 hq20
  generalize upd H19 q20 (.tup [.int 1]) = H20 at s20 w20 ⊢
  refine ⟨by show 6 ≤ sizeLine; decide, fun l6 hl6 => ?_⟩
  have s21 := s20.trans (same_upd (o := .lst [.int (0 - 1), .int 10, .non, .bl true, .str (Str.ofString "1"), .ref q20]) hl6)
  have w21 : DpAll K (hid d (upd H20 l6 (.lst [.int (0 - 1), .int 10, .non, .bl true, .str (Str.ofString "1"), .ref q20]))) [.int (0 - 1), .int 10, .non, .bl true, .str (Str.ofString "1"), .ref q20] [.int (0 - 1), .int 10, .none, .bool true, .str (Str.ofString "1"), .tuple [.int 1]] :=
    .cons (.int _) (.cons (.int _) (.cons .non (.cons (.bl _) (.cons (.str _) (.cons (w20.kp (KpN.same (same_upd hl6))) .nil)))))
  have g21 : (upd H20 l6 (.lst [.int (0 - 1), .int 10, .non, .bl true, .str (Str.ofString "1"), .ref q20])) l6 = some (.lst [.int (0 - 1), .int 10, .non, .bl true, .str (Str.ofString "1"), .ref q20]) := upd_same
  have n21 : l6 ≠ d := (ne_of_none (s20 _ _ hd19) hl6).symm
  generalize upd H20 l6 (.lst [.int (0 - 1), .int 10, .non, .bl true, .str (Str.ofString "1"), .ref q20]) = H21 at s21 w21 g21
  clear hl6 w20 s20
  have hd21 := s21 _ _ hd19
  refine ⟨_, rfl, d, 6, st17, rfl, hd21, hg17, by decide, by decide, fun H22 st22 r22 k22 hd22 hg22 r220 r221 => ?_⟩
  obtain ⟨j22, v22, ej22, ea22, hv22⟩ := at_some (xs := [.int (0 - 1), .int 10, .non, .bl true, .str (Str.ofString "1"), .ref q20]) r220 r221
  refine ⟨l6, _, r22, v22, rfl, rfl, SqL.of (k22 _ _ n21 g21), ea22, ?_⟩
  have w22 := dpAllSame (hid_kp (KpN.of k22)) _ _ w21
  obtain ⟨x22, ex22, hx22⟩ := dpAll_get w22 hv22
  have bad22 := keys_bad x22 (List.mem_of_getElem? ex22)
  have T22 := tabs_kp (tabs_same T19 s21) k22 hd21
  have t22 := (KpN.of ((sKp s21).trans k22)).tup hd19 _ _ t19
  have c22 := (KpN.of ((sKp s21).trans k22)).tup hd19 _ _ c19
  clear w21 g21 w22 ex22 hv22 ea22 T19 s21 k22 hd21 hd19 t19 c19
  have hts := tabs_is hPP.tabs hPP.n1 hPP.n6
  have hsm : ∀ ds, (PyData.tuple (ts.map PyData.str)) = .tuple ds → ∀ x ∈ ds, SmallS x := fun ds e x hx => by cases e; exact small_strs hPP.tabs x hx
  refine chk_step (part := Str.ofString "keys") (i := 0) (by decide +kernel) T22 (fun H23 E Q0 x23 T23 hE => ⟨_, rfl, _, rfl, house_fail (dC := .none) (dR := .none) (part := Str.ofString "keys") (i := 0) (.tup (SqT.of (ExtN_tup x23 t22)) (dpAll_strs ts)) (Dn.kp hx22 (KpN.ext x23)).dp .non .non hsm (house_keys hts bad22) hE⟩) (fun H23 Q q => q) (fun H23 x23 T23 => ?_)
  have hd23 := ExtN_lst x23 hd22
  have t23 := ExtN_tup x23 t22
  have c23 := ExtN_tup x23 c22
  clear T22 hx22 bad22 x23 hd22 t22 c22
  exact hnx _ _ _ ⟨⟨d, aT, aC, st22, ts, kk, cs2, rs, _, _, _, _, _, _, _, _, _, _, _, _, _, _, rfl, hd23, hg22, t23, c23, hPP, T23, k⟩⟩
end
end Dk

set_option Elab.async false
set_option linter.all false
set_option maxRecDepth 100000
set_option maxHeartbeats 8000000
namespace Dk
open PySem PySem.Spec PyProof.Rows L2 TL
section
variable {P : Program} {w : World} {K : PySem.W.Frag} {mg : Str → Option Value} {base : Heap} {C fI : Addr} {fdI : FuncData} {fII fIB fHO : Addr} {fdII fdIB fdHO : FuncData} {fIT fIR fAs : Addr} {fdIT fdIR fdAs : FuncData}
  {CH fP fT fK fC fR : Addr} {fdP fdT fdK fdC fdR : FuncData} {fH : Addr} {fdH : FuncData} {dvs : List V} {ds2 : List Value}
  {fB fTb fLn : Addr} {fdB fdTb fdLn : FuncData} {fRa fPa fErr pP gP : Addr} {fdRa fdPa fdErr fdPp : FuncData} {cs : Nat → Addr} {CE CT cL Pt : Addr}
theorem law_P3 {f : Addr} {A : Around} {outer : List Env} {s : Shared} {H : Hp} {E : XK} (hr : Room 8 (A.deeper (envOfC (Str.ofString "law") (defScope sLaw) s.heap.objs.size f (.ref cL)))) (T : TxtA mg) (B : TxtB K mg fB fdB) (D' : TxtD K mg fTb fLn fdTb fdLn) (TC : TxtC mg) (TF : TxtF K mg fII fIB fHO fdII fdIB fdHO) (TI : TxtI K mg fIT fIR fAs fdIT fdIR fdAs) (TH : TxtIH K mg C fI fdI)
    (TL' : TxtL K mg CH fP fT fK fC fR fdP fdT fdK fdC fdR)
    (FH : FunD K "__init__" "House.__init__" (defArgs sInit) (defBody sInit) (defScope sInit) dvs [] fH fdH) (bH : Binds K fdH ["self", "tables", "keys", "careful", "reminders"] []) (bH2 : Binds K fdH ["self", "tables", "keys", "careful", "reminders"] ds2) (hd2 : Vals dvs ds2) (M : Mk K CH fH) (gH : mg "House" = some (.ref CH))
    (W : TxtV K mg CH fRa fPa fErr pP gP fdRa fdPa fdErr fdPp) (N : TxtN mg cs CE) (EI : ErrKit K cs CE C 8) (ET : ErrKit K cs CE CT 9) (XF : XFs K C CT) (TB : LamX.TabB base mg cL Pt)
    {e1 e2 : Addr} (hdv : dvs = [.ref e1, .ref e2]) (he1 : SqT K (fun _ => none) e1 []) (he2 : SqT K (fun _ => none) e2 []) :
    ∃ t, PSs (cxOf CX0 P w K mg base nLaw8 "law" (defScope sLaw) f (.ref cL) A outer s H E).nox ((defBody sLaw).drop 10) t ∧ ∀ D σ H2, CondM Pt D σ H2 → t D σ H2 := by
  have GRa : FnOk P w K mg base CX0 1 fRa fdRa ["_law_script", "_law_salt"] (spRandom K) := ok_random W.FRa T
  have GB : FnOk P w K mg base CX0 1 fB fdB ["_law_d", "_law_limit"] spBelow := ok_below B.F T
  have GL : FnOk P w K mg base CX0 1 fLn fdLn ["_law_tables"] (spLength K) := ok_length D'.FL T
  have GPa : FnOk P w K mg base CX0 3 fPa fdPa ["_law_d", "_law_most"] spParts := ok_parts W.FPa T B D'
  have GPe : FnOk P w K mg base CX0 2 gP fdPp ["self"] (spPer K CH) := ok_period8 W.FPe T TC TL'
  have GH : FnOk P w K mg base (L2.CX P w) 5 fH fdH ["self", "tables", "keys", "careful", "reminders"] (spInit K CH C) := ok_init FH T TC TF TI TH TL'
  have hr6 : Room 6 (A.deeper (envOfC (Str.ofString "law") (defScope sLaw) s.heap.objs.size f (.ref cL))) := hr.mono (by decide)
  have hr3 : Room 3 (A.deeper (envOfC (Str.ofString "law") (defScope sLaw) s.heap.objs.size f (.ref cL))) := hr.mono (by decide)
  have hr2 : Room 3 (A.deeper (envOfC (Str.ofString "law") (defScope sLaw) s.heap.objs.size f (.ref cL))) := hr.mono (by decide)
  have hr1 : Room 1 (A.deeper (envOfC (Str.ofString "law") (defScope sLaw) s.heap.objs.size f (.ref cL))) := hr.mono (by decide)
  have hu64 : (A.deeper (envOfC (Str.ofString "law") (defScope sLaw) s.heap.objs.size f (.ref cL))).units + 64 < cLine := by have := hr.un; omega
  have hmT : (Pt, lamQ) ∈ [(Pt, lamQ)] := List.mem_singleton.mpr rfl
  have hu : ∀ p ∈ [(Pt, lamQ)], p.1 = Pt → p.2 = lamQ := fun p hp _ => by rw [List.mem_singleton.mp hp]
  obtain ⟨tn, htn, hnx⟩ := law_P4 hr T B D' TC TF TI TH TL' FH bH bH2 hd2 M gH W N EI ET XF TB hdv he1 he2 (outer := outer) (H := H) (E := E)
  refine ⟨_, (pss_cons (ps_if (pt_cmpR (op_neD hu64) (pe_errof (T := [(Pt, lamQ)]) (t := tH2 K CH C dvs) N EI ET XF (by rfl) W.gErr W.FErr W.bErr TB rfl hmT hu hr (LamX.lamS_by (sc := defScope sLaw) (by decide +kernel)) rfl (fun _ _ _ _ _ => rfl) (fun A outer s H E f c' hr' => by exact pe_make M GH hr' rfl gH bH2 hd2 (passes_call (takes_of rfl rfl rfl rfl) (fun _ _ _ _ h => h)) (pa_cons (pe_op op_repT (pe_tup (pa_cons pe_str pa_nil)) pe_int) (pa_cons pe_int pa_nil)))) (pe_tup (pa_cons pe_str (pa_cons (pe_tup (pa_cons pe_str (pa_cons pe_int pa_nil))) pa_nil))) (nomark _)) (pss_one (ps_ret pe_bl)) pss_nil)
      htn), fun D σ H18 hc => ?_⟩
  obtain ⟨⟨d, aT, aC, st17, ts, kk, cs2, rs, v0, v5, v8_, v9_, v10_, v11_, v12_, v13_, v14_, v15_, v16_, v17_, v18_, v19_, rfl, hd18, hg17, t18, c18, hPP, T18, k⟩⟩ := hc
  -- seven timetables
  subst hdv
  refine chk_step (part := Str.ofString "tables") (i := 6) (by decide +kernel) T18 (fun H19 E Q0 x19 T19 hE => ?_) (fun H19 Q q => q) (fun H19 x19 T19 => ?_)
  · refine ⟨by show 1 ≤ sizeLine; decide, fun q hq => ⟨q, 7, _, rfl, rfl, SqT.of upd_same, by simp, by decide, by decide, by decide, fun p hp => ?_⟩⟩
    have s20 := (same_upd (o := .tup [V.str (Str.ofString "h")]) hq).trans (same_upd (o := .tup (List.replicate (7 : Int).toNat [V.str (Str.ofString "h")]).flatten) hp)
    refine house_fail (dT := .tuple [.str (Str.ofString "h"), .str (Str.ofString "h"), .str (Str.ofString "h"), .str (Str.ofString "h"), .str (Str.ofString "h"), .str (Str.ofString "h"), .str (Str.ofString "h")]) (dK := .int 0) (dC := .tuple []) (dR := .tuple []) (part := Str.ofString "tables") (i := 6)
      (.tup (SqT.of upd_same) (.cons (.str _) (.cons (.str _) (.cons (.str _) (.cons (.str _) (.cons (.str _) (.cons (.str _) (.cons (.str _) .nil)))))))) (.int _) (.tup (sqT_any he1) .nil) (.tup (sqT_any he2) .nil) ?_ (house_tabs (by decide +kernel)) fun H2 s2 => hE H2 (s20.trans s2)
    intro ds e x hx
    cases e
    simp only [List.mem_cons, List.not_mem_nil, or_false] at hx
    rcases hx with rfl | rfl | rfl | rfl | rfl | rfl | rfl <;> (show Str.length _ ≤ 100000; decide +kernel)
  have hd19 := ExtN_lst x19 hd18
  have t19 := ExtN_tup x19 t18
  have c19 := ExtN_tup x19 c18
  clear T18 x19 hd18 t18 c18
  exact hnx _ _ _ ⟨⟨d, aT, aC, st17, ts, kk, cs2, rs, _, _, _, _, _, _, _, _, _, _, _, _, _, _, rfl, hd19, hg17, t19, c19, hPP, T19, k⟩⟩
end
end Dk

set_option Elab.async false
set_option linter.all false
set_option maxRecDepth 100000
set_option maxHeartbeats 8000000
namespace Dk
open PySem PySem.Spec PyProof.Rows L2 TL
section
variable {P : Program} {w : World} {K : PySem.W.Frag} {mg : Str → Option Value} {base : Heap} {C fI : Addr} {fdI : FuncData} {fII fIB fHO : Addr} {fdII fdIB fdHO : FuncData} {fIT fIR fAs : Addr} {fdIT fdIR fdAs : FuncData}
  {CH fP fT fK fC fR : Addr} {fdP fdT fdK fdC fdR : FuncData} {fH : Addr} {fdH : FuncData} {dvs : List V} {ds2 : List Value}
  {fB fTb fLn : Addr} {fdB fdTb fdLn : FuncData} {fRa fPa fErr pP gP : Addr} {fdRa fdPa fdErr fdPp : FuncData} {cs : Nat → Addr} {CE CT cL Pt : Addr}
theorem law_P2 {f : Addr} {A : Around} {outer : List Env} {s : Shared} {H : Hp} {E : XK} (hr : Room 8 (A.deeper (envOfC (Str.ofString "law") (defScope sLaw) s.heap.objs.size f (.ref cL)))) (T : TxtA mg) (B : TxtB K mg fB fdB) (D' : TxtD K mg fTb fLn fdTb fdLn) (TC : TxtC mg) (TF : TxtF K mg fII fIB fHO fdII fdIB fdHO) (TI : TxtI K mg fIT fIR fAs fdIT fdIR fdAs) (TH : TxtIH K mg C fI fdI)
    (TL' : TxtL K mg CH fP fT fK fC fR fdP fdT fdK fdC fdR)
    (FH : FunD K "__init__" "House.__init__" (defArgs sInit) (defBody sInit) (defScope sInit) dvs [] fH fdH) (bH : Binds K fdH ["self", "tables", "keys", "careful", "reminders"] []) (bH2 : Binds K fdH ["self", "tables", "keys", "careful", "reminders"] ds2) (hd2 : Vals dvs ds2) (M : Mk K CH fH) (gH : mg "House" = some (.ref CH))
    (W : TxtV K mg CH fRa fPa fErr pP gP fdRa fdPa fdErr fdPp) (N : TxtN mg cs CE) (EI : ErrKit K cs CE C 8) (ET : ErrKit K cs CE CT 9) (XF : XFs K C CT) (TB : LamX.TabB base mg cL Pt)
    {e1 e2 : Addr} (hdv : dvs = [.ref e1, .ref e2]) (he1 : SqT K (fun _ => none) e1 []) (he2 : SqT K (fun _ => none) e2 []) :
    ∃ t, PSs (cxOf CX0 P w K mg base nLaw8 "law" (defScope sLaw) f (.ref cL) A outer s H E).nox ((defBody sLaw).drop 8) t ∧ ∀ D σ H2, CondM Pt D σ H2 → t D σ H2 := by
  have GRa : FnOk P w K mg base CX0 1 fRa fdRa ["_law_script", "_law_salt"] (spRandom K) := ok_random W.FRa T
  have GB : FnOk P w K mg base CX0 1 fB fdB ["_law_d", "_law_limit"] spBelow := ok_below B.F T
  have GL : FnOk P w K mg base CX0 1 fLn fdLn ["_law_tables"] (spLength K) := ok_length D'.FL T
  have GPa : FnOk P w K mg base CX0 3 fPa fdPa ["_law_d", "_law_most"] spParts := ok_parts W.FPa T B D'
  have GPe : FnOk P w K mg base CX0 2 gP fdPp ["self"] (spPer K CH) := ok_period8 W.FPe T TC TL'
  have GH : FnOk P w K mg base (L2.CX P w) 5 fH fdH ["self", "tables", "keys", "careful", "reminders"] (spInit K CH C) := ok_init FH T TC TF TI TH TL'
  have hr6 : Room 6 (A.deeper (envOfC (Str.ofString "law") (defScope sLaw) s.heap.objs.size f (.ref cL))) := hr.mono (by decide)
  have hr3 : Room 3 (A.deeper (envOfC (Str.ofString "law") (defScope sLaw) s.heap.objs.size f (.ref cL))) := hr.mono (by decide)
  have hr2 : Room 3 (A.deeper (envOfC (Str.ofString "law") (defScope sLaw) s.heap.objs.size f (.ref cL))) := hr.mono (by decide)
  have hr1 : Room 1 (A.deeper (envOfC (Str.ofString "law") (defScope sLaw) s.heap.objs.size f (.ref cL))) := hr.mono (by decide)
  have hu64 : (A.deeper (envOfC (Str.ofString "law") (defScope sLaw) s.heap.objs.size f (.ref cL))).units + 64 < cLine := by have := hr.un; omega
  have hmT : (Pt, lamQ) ∈ [(Pt, lamQ)] := List.mem_singleton.mpr rfl
  have hu : ∀ p ∈ [(Pt, lamQ)], p.1 = Pt → p.2 = lamQ := fun p hp _ => by rw [List.mem_singleton.mp hp]
  obtain ⟨tn, htn, hnx⟩ := law_P3 hr T B D' TC TF TI TH TL' FH bH bH2 hd2 M gH W N EI ET XF TB hdv he1 he2 (outer := outer) (H := H) (E := E)
  refine ⟨_, (pss_cons (ps_set (i := 12) scLaw8.nd rfl (.inr rfl) (pe_ix ix_list (pe_lst (pa_cons pe_non (pa_cons (pe_tup pa_nil) (pa_cons (pe_callTy call_list_of (by rfl) W.list (by decide +kernel) (pa_cons (pv 2) pa_nil)) (pa_cons pe_str (pa_cons pe_int pa_nil)))))) (pe_call GB hr1 rfl B.g B.F.kp B.b .nil pass0 (pa_cons (pv 1) (pa_cons pe_int pa_nil))) (fun _ _ => rfl)))
      (pss_cons (ps_if (pt_cmpR (op_neD hu64) (pe_errof (T := [(Pt, lamQ)]) (t := tH4 K CH C (tVar 12) (tC .non) (tC .non) (tC .non)) N EI ET XF (by rfl) W.gErr W.FErr W.bErr TB rfl hmT hu hr (LamX.lamS_by (sc := defScope sLaw) (by decide +kernel)) rfl (fun _ _ _ _ _ => rfl) (fun A outer s H E f c' hr' => by exact pe_make M GH hr' rfl gH bH .nil (passes_call (takes_of rfl rfl rfl rfl) (fun _ _ _ _ h => h)) (pa_cons (pv 12) (pa_cons pe_non (pa_cons pe_non (pa_cons pe_non pa_nil)))))) (pe_tup (pa_cons pe_str (pa_cons (pe_tup (pa_cons pe_str (pa_cons pe_int pa_nil))) pa_nil))) (nomark _)) (pss_one (ps_ret pe_bl)) pss_nil)
      htn)), fun D σ H13 hc => ?_⟩
  obtain ⟨⟨d, aT, aC, st7, ts, kk, cs2, rs, v0, v5, v8_, v9_, v10_, v11_, v12_, v13_, v14_, v15_, v16_, v17_, v18_, v19_, rfl, hdA, hg7, tA, cA, hPP, T13, k⟩⟩ := hc
  -- no timetables
  refine ⟨by show 0 ≤ sizeLine; decide, fun q14 hq14 => ?_⟩
  obtain ⟨s14, w14⟩ := tup_new (K := K) (d := d) (ds := []) .nil hdA hq14
  generalize upd H13 q14 (.tup []) = H14 at s14 w14 ⊢
  refine ⟨_, rfl, aT, _, rfl, .inr (SqT.of (s14 _ _ tA)), ?_⟩
  intro q15 hq15
  have s15 := s14.trans (same_upd (o := .lst (ts.map V.str)) hq15)
  have w15 : Dn K d (upd H14 q15 (.lst (ts.map V.str))) (.ref q15) (.list (ts.map PyData.str)) := .lst (SqL.of (hid_at upd_same (ne_of_none (s14 _ _ hdA) hq15).symm (fun ps z => by cases z))) (dpAll_strs ts)
  have w14' := w14.kp (KpN.same (same_upd (o := .lst (ts.map V.str)) hq15))
  generalize upd H14 q15 (.lst (ts.map V.str)) = H15 at s15 w15 w14'
  clear w14 hq15 s14
  refine ⟨by show 5 ≤ sizeLine; decide, fun l5 hl5 => ?_⟩
  have s16 := s15.trans (same_upd (o := .lst [.non, .ref q14, .ref q15, .str (Str.ofString "ho"), .int 5]) hl5)
  have w16 : DpAll K (hid d (upd H15 l5 (.lst [.non, .ref q14, .ref q15, .str (Str.ofString "ho"), .int 5]))) [.non, .ref q14, .ref q15, .str (Str.ofString "ho"), .int 5] [.none, .tuple [], .list (ts.map PyData.str), .str (Str.ofString "ho"), .int 5] :=
    .cons .non (.cons (w14'.kp (KpN.same (same_upd hl5))) (.cons (w15.kp (KpN.same (same_upd hl5))) (.cons (.str _) (.cons (.int _) .nil))))
  have g16 : (upd H15 l5 (.lst [.non, .ref q14, .ref q15, .str (Str.ofString "ho"), .int 5])) l5 = some (.lst [.non, .ref q14, .ref q15, .str (Str.ofString "ho"), .int 5]) := upd_same
  have n16 : l5 ≠ d := (ne_of_none (s15 _ _ hdA) hl5).symm
  generalize upd H15 l5 (.lst [.non, .ref q14, .ref q15, .str (Str.ofString "ho"), .int 5]) = H16 at s16 w16 g16
  clear hl5 w14' w15 s15
  have hd16 := s16 _ _ hdA
  refine ⟨_, rfl, d, 5, st7, rfl, hd16, hg7, by decide, by decide, fun H17 st17 r17 k17 hd17 hg17 r170 r171 => ?_⟩
  obtain ⟨j17, v17, ej17, ea17, hv17⟩ := at_some (xs := [.non, .ref q14, .ref q15, .str (Str.ofString "ho"), .int 5]) r170 r171
  refine ⟨l5, _, r17, v17, rfl, rfl, SqL.of (k17 _ _ n16 g16), ea17, ?_⟩
  have w17 := dpAllSame (hid_kp (KpN.of k17)) _ _ w16
  obtain ⟨x17, ex17, hx17⟩ := dpAll_get w17 hv17
  have bad17 := l5_bad hPP.tabs x17 (List.mem_of_getElem? ex17)
  have T17 := tabs_kp (tabs_same T13 s16) k17 hd16
  have tB := (KpN.of ((sKp s16).trans k17)).tup hdA _ _ tA
  have cB := (KpN.of ((sKp s16).trans k17)).tup hdA _ _ cA
  clear w16 g16 w17 ex17 hv17 ea17 T13 s16 k17 hd16 hdA tA cA
  refine chk_step (part := Str.ofString "tables") (i := 0) (by decide +kernel) T17 (fun H18 E Q0 x18 T18 hE => ⟨_, rfl, house_fail (dK := .none) (dC := .none) (dR := .none) (part := Str.ofString "tables") (i := 0) (Dn.kp hx17 (KpN.ext x18)).dp .non .non .non bad17.2 (house_tabs bad17.1) hE⟩) (fun H18 Q q => q) (fun H18 x18 T18 => ?_)
  have hd18 := ExtN_lst x18 hd17
  have t18 := ExtN_tup x18 tB
  have c18 := ExtN_tup x18 cB
  clear T17 hx17 bad17 x18 hd17 tB cB
  exact hnx _ _ _ ⟨⟨d, aT, aC, st17, ts, kk, cs2, rs, _, _, _, _, _, _, _, _, _, _, _, _, _, _, rfl, hd18, hg17, t18, c18, hPP, T18, k⟩⟩
end
end Dk

set_option Elab.async false
set_option linter.all false
set_option maxRecDepth 100000
set_option maxHeartbeats 8000000
namespace Dk
open PySem PySem.Spec PyProof.Rows L2 TL
section
variable {P : Program} {w : World} {K : PySem.W.Frag} {mg : Str → Option Value} {base : Heap} {C fI : Addr} {fdI : FuncData} {fII fIB fHO : Addr} {fdII fdIB fdHO : FuncData} {fIT fIR fAs : Addr} {fdIT fdIR fdAs : FuncData}
  {CH fP fT fK fC fR : Addr} {fdP fdT fdK fdC fdR : FuncData} {fH : Addr} {fdH : FuncData} {dvs : List V} {ds2 : List Value}
  {fB fTb fLn : Addr} {fdB fdTb fdLn : FuncData} {fRa fPa fErr pP gP : Addr} {fdRa fdPa fdErr fdPp : FuncData} {cs : Nat → Addr} {CE CT cL Pt : Addr}
theorem law_P1 {f : Addr} {A : Around} {outer : List Env} {s : Shared} {H : Hp} {E : XK} (hr : Room 8 (A.deeper (envOfC (Str.ofString "law") (defScope sLaw) s.heap.objs.size f (.ref cL)))) (T : TxtA mg) (B : TxtB K mg fB fdB) (D' : TxtD K mg fTb fLn fdTb fdLn) (TC : TxtC mg) (TF : TxtF K mg fII fIB fHO fdII fdIB fdHO) (TI : TxtI K mg fIT fIR fAs fdIT fdIR fdAs) (TH : TxtIH K mg C fI fdI)
    (TL' : TxtL K mg CH fP fT fK fC fR fdP fdT fdK fdC fdR)
    (FH : FunD K "__init__" "House.__init__" (defArgs sInit) (defBody sInit) (defScope sInit) dvs [] fH fdH) (bH : Binds K fdH ["self", "tables", "keys", "careful", "reminders"] []) (bH2 : Binds K fdH ["self", "tables", "keys", "careful", "reminders"] ds2) (hd2 : Vals dvs ds2) (M : Mk K CH fH) (gH : mg "House" = some (.ref CH))
    (W : TxtV K mg CH fRa fPa fErr pP gP fdRa fdPa fdErr fdPp) (N : TxtN mg cs CE) (EI : ErrKit K cs CE C 8) (ET : ErrKit K cs CE CT 9) (XF : XFs K C CT) (TB : LamX.TabB base mg cL Pt)
    {e1 e2 : Addr} (hdv : dvs = [.ref e1, .ref e2]) (he1 : SqT K (fun _ => none) e1 []) (he2 : SqT K (fun _ => none) e2 []) :
    ∃ t, PSs (cxOf CX0 P w K mg base nLaw8 "law" (defScope sLaw) f (.ref cL) A outer s H E).nox ((defBody sLaw).drop 3) t ∧ ∀ D σ H2, CondM Pt D σ H2 → t D σ H2 := by
  have GRa : FnOk P w K mg base CX0 1 fRa fdRa ["_law_script", "_law_salt"] (spRandom K) := ok_random W.FRa T
  have GB : FnOk P w K mg base CX0 1 fB fdB ["_law_d", "_law_limit"] spBelow := ok_below B.F T
  have GL : FnOk P w K mg base CX0 1 fLn fdLn ["_law_tables"] (spLength K) := ok_length D'.FL T
  have GPa : FnOk P w K mg base CX0 3 fPa fdPa ["_law_d", "_law_most"] spParts := ok_parts W.FPa T B D'
  have GPe : FnOk P w K mg base CX0 2 gP fdPp ["self"] (spPer K CH) := ok_period8 W.FPe T TC TL'
  have GH : FnOk P w K mg base (L2.CX P w) 5 fH fdH ["self", "tables", "keys", "careful", "reminders"] (spInit K CH C) := ok_init FH T TC TF TI TH TL'
  have hr6 : Room 6 (A.deeper (envOfC (Str.ofString "law") (defScope sLaw) s.heap.objs.size f (.ref cL))) := hr.mono (by decide)
  have hr3 : Room 3 (A.deeper (envOfC (Str.ofString "law") (defScope sLaw) s.heap.objs.size f (.ref cL))) := hr.mono (by decide)
  have hr2 : Room 3 (A.deeper (envOfC (Str.ofString "law") (defScope sLaw) s.heap.objs.size f (.ref cL))) := hr.mono (by decide)
  have hr1 : Room 1 (A.deeper (envOfC (Str.ofString "law") (defScope sLaw) s.heap.objs.size f (.ref cL))) := hr.mono (by decide)
  have hu64 : (A.deeper (envOfC (Str.ofString "law") (defScope sLaw) s.heap.objs.size f (.ref cL))).units + 64 < cLine := by have := hr.un; omega
  have hmT : (Pt, lamQ) ∈ [(Pt, lamQ)] := List.mem_singleton.mpr rfl
  have hu : ∀ p ∈ [(Pt, lamQ)], p.1 = Pt → p.2 = lamQ := fun p hp _ => by rw [List.mem_singleton.mp hp]
  obtain ⟨tn, htn, hnx⟩ := law_P2 hr T B D' TC TF TI TH TL' FH bH bH2 hd2 M gH W N EI ET XF TB hdv he1 he2 (outer := outer) (H := H) (E := E)
  refine ⟨_, (pss_cons (ps_set (i := 8) scLaw8.nd rfl (.inl rfl) (pe_lst (pa_cons pe_str (pa_cons pe_str (pa_cons pe_str (pa_cons pe_str (pa_cons pe_str (pa_cons pe_str (pa_cons pe_int (pa_cons pe_non (pa_cons (pe_tup (pa_cons pe_str pa_nil)) (pa_cons (pe_lst (pa_cons pe_str pa_nil)) (pa_cons pe_str (pa_cons (pe_op op_mulStr pe_str pe_int) (pa_cons pe_str pa_nil)))))))))))))))
      (pss_cons (ps_set (i := 9) scLaw8.nd rfl (.inl rfl) (pe_ix ix_list (pv 8) (pe_call GB hr1 rfl B.g B.F.kp B.b .nil pass0 (pa_cons (pv 1) (pa_cons pe_int pa_nil))) (fun _ _ => rfl)))
      (pss_cons (ps_set (i := 10) scLaw8.nd rfl (.inl rfl) (pe_call GB hr1 rfl B.g B.F.kp B.b .nil pass0 (pa_cons (pv 1) (pa_cons (pe_op op_add (pv 6) pe_int) pa_nil))))
      (pss_cons (ps_set (i := 11) scLaw8.nd rfl (.inr rfl) (pe_op op_catA (pe_op op_catA (pe_slice sl_tupA (pv 2) po_none (po_some (pv 10))) (pe_tup (pa_cons (pv 9) (pa_cons pe_non pa_nil)))) (pe_slice sl_tupA (pv 2) (po_some (pv 10)) po_none)))
      (pss_cons (ps_if (pt_cmpR (op_neD hu64) (pe_errof (T := [(Pt, lamQ)]) (t := tH4 K CH C (tVar 11) (tC .non) (tC .non) (tC .non)) N EI ET XF (by rfl) W.gErr W.FErr W.bErr TB rfl hmT hu hr (LamX.lamS_by (sc := defScope sLaw) (by decide +kernel)) rfl (fun _ _ _ _ _ => rfl) (fun A outer s H E f c' hr' => by exact pe_make M GH hr' rfl gH bH .nil (passes_call (takes_of rfl rfl rfl rfl) (fun _ _ _ _ h => h)) (pa_cons (pv 11) (pa_cons pe_non (pa_cons pe_non (pa_cons pe_non pa_nil)))))) (pe_tup (pa_cons pe_str (pa_cons (pe_tup (pa_cons pe_str (pa_cons (pv 10) pa_nil))) pa_nil))) (nomark _)) (pss_one (ps_ret pe_bl)) pss_nil)
      htn))))), fun D σ H3 hc => ?_⟩
  obtain ⟨⟨d, aT, aC, st2, ts, kk, cs2, rs, v0, v5, v8_, v9_, v10_, v11_, v12_, v13_, v14_, v15_, v16_, v17_, v18_, v19_, rfl, hd3, hg2, f2, f3, hPP, T3, k⟩⟩ := hc
  -- what is no timetable
  refine ⟨by show 1 ≤ sizeLine; decide, fun q1 hq1 => ⟨by show 1 ≤ sizeLine; decide, fun q2 hq2 => ?_⟩⟩
  have s4 := (same_upd (o := .tup [.str (Str.ofString "h")]) hq1).trans (same_upd (o := .lst [.str (Str.ofString "h")]) hq2)
  have g1 := same_upd (o := .lst [.str (Str.ofString "h")]) hq2 _ _ (upd_same (H := H3) (a := q1) (o := .tup [.str (Str.ofString "h")]))
  have g2 : (upd (upd H3 q1 (.tup [.str (Str.ofString "h")])) q2 (.lst [.str (Str.ofString "h")])) q2 = some (.lst [.str (Str.ofString "h")]) := upd_same
  generalize upd (upd H3 q1 (.tup [.str (Str.ofString "h")])) q2 (.lst [.str (Str.ofString "h")]) = H4 at s4 g1 g2
  have nq2 : q2 ≠ d := (ne_of_none (same_upd (o := .tup [.str (Str.ofString "h")]) hq1 _ _ hd3) hq2).symm
  clear hq1 hq2
  refine ⟨_, _, rfl, rfl, by unfold MulOk; decide +kernel, by show 13 ≤ sizeLine; decide, fun l hl => ?_⟩
  change H4 l = none at hl
  have nl : l ≠ d := (ne_of_none (s4 _ _ hd3) hl).symm
  have s5 := s4.trans (same_upd (o := .lst (L13 q1 q2)) hl)
  have g1' := same_upd (o := .lst (L13 q1 q2)) hl _ _ g1
  have g2' := same_upd (o := .lst (L13 q1 q2)) hl _ _ g2
  have gl : (upd H4 l (.lst (L13 q1 q2))) l = some (.lst (L13 q1 q2)) := upd_same
  show tSeq _ _ _ (List.set _ 8 (some (.ref l))) (upd H4 l (.lst (L13 q1 q2)))
  generalize upd H4 l (.lst (L13 q1 q2)) = H5 at s5 g1' g2' gl ⊢
  have T5 := tabs_same T3 s5
  have hd5 := s5 _ _ hd3
  have t5 := s5 _ _ f2
  have c5 := s5 _ _ f3
  clear T3 s4 s5 hd3 f2 f3 g1 g2 hl
  refine ⟨_, rfl, _, rfl, d, 13, st2, rfl, hd5, hg2, by decide, by decide, fun H6 st6 r6 k6 hd6 hg6 r60 r61 => ?_⟩
  obtain ⟨j6, v6, ej6, ea6, hv6⟩ := at_some (xs := L13 q1 q2) r60 r61
  refine ⟨l, L13 q1 q2, r6, v6, rfl, rfl, SqL.of (k6 _ _ nl gl), ea6, ?_⟩
  obtain ⟨x6, ex6, hx6⟩ := pick (K := K) (d := d) (H := H5) (fun H' kn => l13_dp (kn _ _ (fun e => by rw [e, hd5] at g1'; cases g1') g1' fun ps z => by cases z) (kn _ _ nq2 g2' fun ps z => by cases z)) hv6
  have bad6 := d13_bad x6 (List.mem_of_getElem? ex6)
  have hm : ((ts.map V.str).length : Int) ≤ 6 := by rw [List.length_map]; have := hPP.n6; omega
  refine ⟨_, rfl, _, rfl, _, _, rfl, rfl, d, _, st6, rfl, hd6, hg6, by omega, by omega, fun H7 st7 a7 k7 hd7 hg7 a70 a71 => ?_⟩
  have t7 := (KpN.of (k6.trans k7)).tup hd5 _ _ t5
  have hle : a7 ≤ ((ts.map V.str).length : Int) := by omega
  refine ⟨_, rfl, _, rfl, _, rfl, sl_any (SqT.of t7) fun H8 p8 s8 z8 => ⟨_, rfl, by show 2 ≤ sizeLine; decide, fun q hq => ?_⟩⟩
  have s9 := same_upd (o := .tup [v6, .non]) hq
  have gq : (upd H8 q (.tup [v6, .non])) q = some (.tup [v6, .non]) := upd_same
  generalize upd H8 q (.tup [v6, .non]) = H9 at s9 gq
  have z9 := sSqT s9 z8
  have s89 := s8.trans s9
  rw [cut_take a70 hle] at z9
  refine cat_any z9 (SqT.of gq) (by rw [List.length_take]; show min _ _ + 2 ≤ 1000; omega) fun H10 p10 s10 z10 => ?_
  have s810 := s89.trans s10
  refine ⟨_, rfl, _, rfl, _, rfl, ?_⟩
  simp only [tNoPart]
  refine sl_any (lo := some a7) (hi := none) (SqT.of (s810 _ _ t7)) ?_
  intro H11 p11 s11 z11
  refine cat_any (sSqT s11 z10) z11 ?_ fun H12 p12 s12 z12 => ?_
  · rw [cut_drop a70 hle, List.length_append, List.length_take, List.length_drop]; show min _ _ + 2 + _ ≤ 1000; omega
  rw [cut_drop a70 hle] at z12
  have s812 := (s810.trans s11).trans s12
  clear s8 s9 gq z8 z9 s89 s10 z10 s810 s11 z11 s12 hq
  have T7 := tabs_kp (tabs_kp T5 k6 hd5) k7 hd6
  have T12 := tabs_same T7 s812
  have k12 : KpN d H5 H12 := (KpN.of (k6.trans k7)).trans (KpN.same s812)
  obtain ⟨m7, rfl⟩ := Int.eq_ofNat_of_zero_le a70
  have hm7 : m7 ≤ ts.length := by rw [List.length_map] at hle; omega
  have hn6 := hPP.n6
  -- a timetable that is none
  refine chk_step (part := Str.ofString "tables") (i := (m7 : Int)) (by decide +kernel) T12 (fun H13 E Q0 x13 T13 hE => ⟨_, rfl, ?_⟩) (fun H13 Q q => ⟨_, rfl, q⟩) (fun H13 x13 T13 => ?_)
  · have z13 : SqT K H13 p12 ((ts.take m7).map V.str ++ [v6, .non] ++ (ts.drop m7).map V.str) := by
      rcases z12 with (z | ⟨o, z⟩) | z
      · refine .inl (.inl ?_); rw [List.map_take, List.map_drop]; exact ExtN_tup x13 z
      · refine .inl (.inr ⟨o, ?_⟩); rw [List.map_take, List.map_drop]; exact x13 _ _ z fun ps z => by cases z
      · refine .inr ?_; rw [List.map_take, List.map_drop]; exact z
    have dv := hx6 H13 (k12.trans (KpN.ext x13))
    refine house_fail (dT := .tuple ((ts.take m7).map PyData.str ++ x6 :: (.none :: (ts.drop m7).map PyData.str))) (dK := .none) (dC := .none) (dR := .none) (part := Str.ofString "tables") (i := m7)
      (.tup z13 ?_) .non .non .non ?_ (house_tabs ?_) hE
    · rw [List.append_assoc]; exact dpAll_app (dpAll_strs _) (.cons dv (.cons .non (dpAll_strs _)))
    · intro ds e x hx
      cases e
      rcases List.mem_append.mp hx with hx | hx
      · exact small_strs (fun t ht => hPP.tabs t (List.mem_of_mem_take ht)) x hx
      · rcases List.mem_cons.mp hx with rfl | hx
        · exact bad6.2
        · rcases List.mem_cons.mp hx with rfl | hx
          · trivial
          · exact small_strs (fun t ht => hPP.tabs t (List.mem_of_mem_drop ht)) x hx
    · have := chkTabs_bad (A := (ts.take m7).map PyData.str) (B := .none :: (ts.drop m7).map PyData.str) (x := x6) (by rw [List.length_map, List.length_take]; omega) (fun a ha => by
        obtain ⟨t, ht, rfl⟩ := List.mem_map.mp ha
        exact isTab_is (hPP.tabs t (List.mem_of_mem_take ht))) bad6.1
      rw [List.length_map, List.length_take, Nat.min_eq_left hm7] at this
      exact this
  have kA := (KpN.same (d := d) s812).trans (KpN.ext x13)
  have hdA := ExtN_lst x13 (s812 _ _ hd7)
  have tA := kA.tup hd7 _ _ t7
  have cA := ((KpN.of (k6.trans k7)).trans kA).tup hd5 _ _ c5
  clear s812 k12 z12 hx6 bad6 ex6 hv6 ea6 x13 kA T7 T12 k6 k7 t5 c5 t7 T5 gl g1' g2' hd6 hd7 hd5 hg6 hg2
  exact hnx _ _ _ ⟨⟨d, aT, aC, st7, ts, kk, cs2, rs, _, _, _, _, _, _, _, _, _, _, _, _, _, _, rfl, hdA, hg7, tA, cA, hPP, T13, k⟩⟩
end
end Dk

set_option Elab.async false
set_option linter.all false
set_option maxRecDepth 100000
set_option maxHeartbeats 8000000
namespace Dk
open PySem PySem.Spec PyProof.Rows L2 TL
section
variable {P : Program} {w : World} {K : PySem.W.Frag} {mg : Str → Option Value} {base : Heap} {C fI : Addr} {fdI : FuncData} {fII fIB fHO : Addr} {fdII fdIB fdHO : FuncData} {fIT fIR fAs : Addr} {fdIT fdIR fdAs : FuncData}
  {CH fP fT fK fC fR : Addr} {fdP fdT fdK fdC fdR : FuncData} {fH : Addr} {fdH : FuncData} {dvs : List V} {ds2 : List Value}
  {fB fTb fLn : Addr} {fdB fdTb fdLn : FuncData} {fRa fPa fErr pP gP : Addr} {fdRa fdPa fdErr fdPp : FuncData} {cs : Nat → Addr} {CE CT cL Pt : Addr}
theorem ok_law8 {f : Addr} {fd : FuncData} (F : FunAt K "law" "law" sLaw f cL fd) (T : TxtA mg) (B : TxtB K mg fB fdB) (D' : TxtD K mg fTb fLn fdTb fdLn) (TC : TxtC mg) (TF : TxtF K mg fII fIB fHO fdII fdIB fdHO) (TI : TxtI K mg fIT fIR fAs fdIT fdIR fdAs) (TH : TxtIH K mg C fI fdI)
    (TL' : TxtL K mg CH fP fT fK fC fR fdP fdT fdK fdC fdR)
    (FH : FunD K "__init__" "House.__init__" (defArgs sInit) (defBody sInit) (defScope sInit) dvs [] fH fdH) (bH : Binds K fdH ["self", "tables", "keys", "careful", "reminders"] []) (bH2 : Binds K fdH ["self", "tables", "keys", "careful", "reminders"] ds2) (hd2 : Vals dvs ds2) (M : Mk K CH fH) (gH : mg "House" = some (.ref CH))
    (W : TxtV K mg CH fRa fPa fErr pP gP fdRa fdPa fdErr fdPp) (N : TxtN mg cs CE) (EI : ErrKit K cs CE C 8) (ET : ErrKit K cs CE CT 9) (XF : XFs K C CT) (TB : LamX.TabB base mg cL Pt)
    {e1 e2 : Addr} (hdv : dvs = [.ref e1, .ref e2]) (he1 : SqT K (fun _ => none) e1 []) (he2 : SqT K (fun _ => none) e2 []) :
    FnOk P w K mg base CX0 9 f fd ["_law_script"] (spLaw K Pt) := by
  have GRa : FnOk P w K mg base CX0 1 fRa fdRa ["_law_script", "_law_salt"] (spRandom K) := ok_random W.FRa T
  have GB : FnOk P w K mg base CX0 1 fB fdB ["_law_d", "_law_limit"] spBelow := ok_below B.F T
  have GL : FnOk P w K mg base CX0 1 fLn fdLn ["_law_tables"] (spLength K) := ok_length D'.FL T
  have GPa : FnOk P w K mg base CX0 3 fPa fdPa ["_law_d", "_law_most"] spParts := ok_parts W.FPa T B D'
  have GPe : FnOk P w K mg base CX0 2 gP fdPp ["self"] (spPer K CH) := ok_period8 W.FPe T TC TL'
  have GH : FnOk P w K mg base (L2.CX P w) 5 fH fdH ["self", "tables", "keys", "careful", "reminders"] (spInit K CH C) := ok_init FH T TC TF TI TH TL'
  refine F.ok scLaw8 (fun vs H Q E h => ?_) (fun A outer s H vs Q E hr h => ?_)
  · obtain ⟨a, ns, rfl, _⟩ := h
    rfl
  · obtain ⟨a, ns, rfl, hS, hlen, hTab, k⟩ := h
    have hr3 : Room 3 (A.deeper (envOfC (Str.ofString "law") (defScope sLaw) s.heap.objs.size f (.ref cL))) := hr.mono (by decide)
    have hr1 : Room 1 (A.deeper (envOfC (Str.ofString "law") (defScope sLaw) s.heap.objs.size f (.ref cL))) := hr.mono (by decide)
    obtain ⟨tn, htn, hnx⟩ := law_P1 hr T B D' TC TF TI TH TL' FH bH bH2 hd2 M gH W N EI ET XF TB hdv he1 he2 (outer := outer) (H := H) (E := E)
    refine ⟨_, (pss_cons (ps_set (i := 1) scLaw8.nd rfl (.inl rfl) (pe_call GRa hr1 rfl W.gRa W.FRa.kp W.bRa .nil pass0 (pa_cons (pv 0) (pa_cons pe_int pa_nil))))
      (pss_cons (ps_asg (pe_call GPa hr3 rfl W.gPa W.FPa.kp W.bPa .nil pass0 (pa_cons (pv 1) (pa_cons pe_int pa_nil))) (pg_tup rfl (pgs_cons (pg_name (i := 2) scLaw8.nd rfl (.inr rfl)) (pgs_cons (pg_name (i := 3) scLaw8.nd rfl (.inr rfl)) (pgs_cons (pg_name (i := 4) scLaw8.nd rfl (.inr rfl)) (pgs_cons (pg_name (i := 5) scLaw8.nd rfl (.inl rfl)) pgs_nil))))))
      (pss_cons (ps_par (by rfl) scLaw8.nd (i := 6) (j := 7) rfl rfl (by decide) rfl rfl (pa_cons (pe_callB call_len_seq (by rfl) T.len PySem.boot_len (pa_cons (pv 2) pa_nil)) (pa_cons (pe_call GL hr1 rfl D'.gL D'.FL.kp D'.bL .nil pass0 (pa_cons (pv 2) pa_nil)) pa_nil)) (by rfl))
      htn))), ?_⟩
    refine ⟨_, rfl, a, ns, 8, rfl, hS, hlen, by decide, by decide, fun H1 d st s1 _ hd hg => ?_⟩
    have T1 := tabs_same hTab s1
    refine ⟨_, rfl, d, 4, st, rfl, hd, hg, by decide, by decide, fun H2 st2 pa ts kk cs2 rs k2 hd2 hg2 hPA hPP => ?_⟩
    have T2 := tabs_kp T1 k2 hd
    obtain ⟨aT, aC, aR, xs, e1, e2, e3, e4, e5⟩ := hPA
    refine ⟨pa, _, rfl, SqT.of e1, rfl, _, _, rfl, _, _, rfl, _, _, rfl, _, _, rfl, rfl, ?_⟩
    refine ⟨_, rfl, aT, _, rfl, .inr (SqT.of e2), _, rfl, aT, ts, rfl, SqT.of e2, hPP.tabs, hPP.n6, fun H3 s3 => ?_⟩
    refine ⟨_, _, rfl, ?_⟩
    have T3 := tabs_same T2 s3
    have hd3 := s3 _ _ hd2
    have f2 := s3 _ _ e2
    have f3 := s3 _ _ e3
    exact hnx _ _ _ ⟨⟨d, aT, aC, st2, ts, kk, cs2, rs, _, _, _, _, _, _, _, _, _, _, _, _, _, _, rfl, hd3, hg2, f2, f3, hPP, T3, fun H' => k H'⟩⟩
end
end Dk

set_option Elab.async false
set_option linter.all false
set_option maxRecDepth 100000
set_option maxHeartbeats 4000000
namespace Dk
open PySem PySem.Spec PyProof.Rows L2 TL
/-! ### what the top has written -/
structure FnAt (K : PySem.W.Frag) (x : Str) (st : Stmt) (f : Addr) (fd : FuncData) : Prop where
  g : PySem.W.nsIn K mainGlobals x = some (some (.ref f))
  F : Fun K x x st f fd
theorem fnAt_mk {K : PySem.W.Frag} {x : Str} {st : Stmt} {f : Addr} {oc : Value} {od an : Option Addr} {osl : Array (Option Value)} {kV doc pm cdv ct : Value} (a : PySem.W.nsIn K mainGlobals x = some (some (.ref f)))
    (l : K.lookup f = some ⟨oc, od, .func (PySem.W.fnOf x x (defArgs st) (defBody st) (defScope st) .none kV doc pm an cdv ct), osl⟩)
    (c : PySem.W.codeIn K cdv x = true) (k : PySem.W.keepIn K (.ref f) = true) : FnAt K x st f (PySem.W.fnOf x x (defArgs st) (defBody st) (defScope st) .none kV doc pm an cdv ct) := ⟨a, fun_mk l c k⟩
/-- an error of the program's own -/
structure ErrAt (K : PySem.W.Frag) (x q : Str) (st : Stmt) (C f : Addr) (fd : FuncData) : Prop where
  g : PySem.W.nsIn K mainGlobals x = some (some (.ref C))
  O : OexC K C
  i : PySem.W.findIn K (.ref C) "__init__" = some (some (.ref f))
  t : PySem.W.typeIn K (.ref f) = some (.type "function")
  F : Fun K "__init__" q st f fd
theorem errAt_mk {K : PySem.W.Frag} {x q : Str} {st : Stmt} {C C0 f : Addr} {nm qn : Str} {N : Addr} {bs : List Value} {sn : List Str} {sub : List Value} {ab : Bool} {col : Option Bool} {dd : Option Addr} {m0 m1 m2 m3 m5 : Option Value}
    {oc : Value} {od an : Option Addr} {osl : Array (Option Value)} {kV doc pm cdv ct : Value}
    (a : PySem.W.nsIn K mainGlobals x = some (some (.ref C)))
    (xL : K.lookup C = some (excClassObj nm qn C N bs [.ref C0, .type "ValueError", .type "Exception", .type "BaseException", .type "object"] true sn sub ab col dd m0 m1 m2 m3 m5 "ValueError.__new__"))
    (sa : PySem.W.findIn K (.ref C) "__setattr__" = some (some (.builtin "object.__setattr__"))) (eC : PySem.W.subIn K (.ref C) (.type "BaseException") = some true) (tC : PySem.W.typeIn K (.ref C) = some (.type "type")) (kC : PySem.W.keepIn K (.ref C) = true)
    (i : PySem.W.findIn K (.ref C) "__init__" = some (some (.ref f))) (t : PySem.W.typeIn K (.ref f) = some (.type "function"))
    (l : K.lookup f = some ⟨oc, od, .func (PySem.W.fnOf "__init__" q (defArgs st) (defBody st) (defScope st) .none kV doc pm an cdv ct), osl⟩)
    (c : PySem.W.codeIn K cdv q = true) (k : PySem.W.keepIn K (.ref f) = true) : ErrAt K x q st C f (PySem.W.fnOf "__init__" q (defArgs st) (defBody st) (defScope st) .none kV doc pm an cdv ct) :=
  ⟨a, ⟨⟨nm, qn, N, bs, _, sn, sub, ab, col, dd, m0, m1, m2, m3, m5, xL, (by decide +kernel : PySem.HandSPX.refsVE [.type "ValueError", .type "Exception", .type "BaseException", .type "object"] = true)⟩, sa, eC, tC, kC⟩, i, t, fun_mk l c k⟩
/-- a tuple of texts or numbers among the globals -/
def TupAt (K : PySem.W.Frag) (x : Str) (xs : List V) : Prop := ∃ a, PySem.W.nsIn K mainGlobals x = some (some (.ref a)) ∧ SqT K (fun _ => none) a xs
theorem tupAt_mk {K : PySem.W.Frag} {x : Str} {xs : List V} {a : Addr} {od : Option Addr} {osl : Array (Option Value)} {its : Array Value} {n : Nat} (g : PySem.W.nsIn K mainGlobals x = some (some (.ref a)))
    (l : K.lookup a = some ⟨.type "tuple", od, .seq its n, osl⟩) (z : its.size ≤ sizeLine) (v : Vals xs its.toList) : TupAt K x xs := ⟨a, g, .inr ⟨_, its, n, l, rfl, rfl, z, v⟩⟩
def IntAt (K : PySem.W.Frag) (x : Str) (i : Int) : Prop := ∃ t, PySem.W.nsIn K mainGlobals x = some (some (.int i t))
theorem intAt_mk {K : PySem.W.Frag} {x : Str} {i : Int} {t : Nat} (g : PySem.W.nsIn K mainGlobals x = some (some (.int i t))) : IntAt K x i := ⟨t, g⟩
def StrAt (K : PySem.W.Frag) (x : Str) (i : Str) : Prop := ∃ t, PySem.W.nsIn K mainGlobals x = some (some (.str i t))
theorem strAt_mk {K : PySem.W.Frag} {x : Str} {i : Str} {t : Nat} (g : PySem.W.nsIn K mainGlobals x = some (some (.str i t))) : StrAt K x i := ⟨t, g⟩
/-- the class of houses -/
structure HouAt (K : PySem.W.Frag) (CH : Addr) (fH gP pP : Addr) (fdH fdP : FuncData) (e1 e2 : Addr) : Prop where
  g : PySem.W.nsIn K mainGlobals "House" = some (some (.ref CH))
  cl : Cls K CH
  nT : NoAttr K CH "tables"
  nK : NoAttr K CH "key_count"
  nC : NoAttr K CH "careful"
  nR : NoAttr K CH "reminders"
  M : Mk K CH fH
  FH : FunD K "__init__" "House.__init__" (defArgs sInit) (defBody sInit) (defScope sInit) [.ref e1, .ref e2] [] fH fdH
  z1 : SqT K (fun _ => none) e1 []
  z2 : SqT K (fun _ => none) e2 []
  po : PropOf K CH "period" pP gP
  FP : Fun K "period" "House.period" sPeriodP gP fdP
theorem houAt_mk {K : PySem.W.Frag} {CH : Addr} {fH gP pP T e1 e2 : Addr} {ocH dcH pmH cdH ctH kVH ocT ocP kVP dcP pmP cdP ctP : Value} {odH anH odT odP anP od1 od2 : Option Addr} {slH slT slP sl1 sl2 : Array (Option Value)} {nT n1 n2 : Nat} {rp : List Value}
    (g : PySem.W.nsIn K mainGlobals "House" = some (some (.ref CH)))
    (pg : PySem.W.plainGet K CH Str.empty = true) (hd : PySem.W.hasDictIn K CH = true) (po : PySem.W.plainOver K CH = true) (sa : PySem.W.findIn K (.ref CH) "__setattr__" = some (some (.builtin "object.__setattr__")))
    (n1' : PySem.W.findIn K (.ref CH) "tables" = some none) (n2' : PySem.W.findIn K (.ref CH) "key_count" = some none) (n3 : PySem.W.findIn K (.ref CH) "careful" = some none) (n4 : PySem.W.findIn K (.ref CH) "reminders" = some none)
    (mk : PySem.W.makesIn K CH = true) (i : PySem.W.findIn K (.ref CH) "__init__" = some (some (.ref fH))) (fn : PySem.W.isFn K (.ref fH) = true) (kc : PySem.W.keepIn K (.ref CH) = true)
    (lH : K.lookup fH = some ⟨ocH, odH, .func (PySem.W.fnOf "__init__" "House.__init__" (defArgs sInit) (defBody sInit) (defScope sInit) (.ref T) kVH dcH pmH anH cdH ctH), slH⟩) (cH : PySem.W.codeIn K cdH "House.__init__" = true) (kH : PySem.W.keepIn K (.ref fH) = true)
    (lT : K.lookup T = some ⟨ocT, odT, .seq #[.ref e1, .ref e2] nT, slT⟩) (l1 : K.lookup e1 = some ⟨.type "tuple", od1, .seq #[] n1, sl1⟩) (l2 : K.lookup e2 = some ⟨.type "tuple", od2, .seq #[] n2, sl2⟩)
    (pA : PySem.W.findIn K (.ref CH) "period" = some (some (.ref pP))) (pG : PySem.W.specialIn K (.ref pP) "__get__" = some (some (.builtin "property.__get__"))) (pK : PySem.W.takesIn K (.ref pP) = some true) (pR : PySem.W.recIn K pP "property" = some (.ref gP :: rp))
    (lP : K.lookup gP = some ⟨ocP, odP, .func (PySem.W.fnOf "period" "House.period" (defArgs sPeriodP) (defBody sPeriodP) (defScope sPeriodP) .none kVP dcP pmP anP cdP ctP), slP⟩) (cP : PySem.W.codeIn K cdP "House.period" = true) (kP : PySem.W.keepIn K (.ref gP) = true) :
    HouAt K CH fH gP pP (PySem.W.fnOf "__init__" "House.__init__" (defArgs sInit) (defBody sInit) (defScope sInit) (.ref T) kVH dcH pmH anH cdH ctH) (PySem.W.fnOf "period" "House.period" (defArgs sPeriodP) (defBody sPeriodP) (defScope sPeriodP) .none kVP dcP pmP anP cdP ctP) e1 e2 :=
  ⟨g, ⟨pg, hd, po, sa⟩, n1', n2', n3, n4, ⟨mk, i, fn, kc⟩, ⟨⟨ocH, odH, _, _, _, _, _, _, _, _, rfl, lH, cH, .inr ⟨by simp, T, _, [.ref e1, .ref e2], nT, rfl, lT, rfl, .cons rfl (.cons rfl .nil)⟩, .inl rfl⟩, kH⟩,
    .inr ⟨_, #[], n1, l1, rfl, rfl, by decide, .nil⟩, .inr ⟨_, #[], n2, l2, rfl, rfl, by decide, .nil⟩, ⟨pA, pG, pK, ⟨_, pR⟩⟩, fun_mk lP cP kP⟩
/-- a class of errors: its name, and that it is a class -/
structure ClsAt (K : PySem.W.Frag) (x : Str) (c : Addr) : Prop where
  g : PySem.W.nsIn K mainGlobals x = some (some (.ref c))
  t : PySem.W.typeIn K (.ref c) = some (.type "type")
  i : PySem.W.isClsIn K c = true
theorem kit_no {K : PySem.W.Frag} {x : Str} {D c : Addr} (h : ClsAt K x c) (n : D ≠ c) (s : PySem.W.subIn K (.ref D) (.ref c) = some false) : PySem.W.kitOne K (.ref D) (.ref c) = some false := by
  unfold PySem.W.kitOne
  rw [if_neg (by intro q; exact n (Value.ref.inj (beq_iff_eq.mp q)))]
  show (if ((PySem.W.clsIn K c).isSome && PySem.W.typeIn K (.ref c) == some (.type "type")) = true then PySem.W.subIn K (.ref D) (.ref c) else none) = some false
  rw [show (PySem.W.clsIn K c).isSome = true from h.i, h.t]
  exact s
theorem kit_self {K : PySem.W.Frag} {c : Addr} : PySem.W.kitOne K (.ref c) (.ref c) = some true := by
  unfold PySem.W.kitOne
  rw [if_pos (beq_self_eq_true _)]
theorem kit_ve {K : PySem.W.Frag} {D : Addr} (s : PySem.W.subIn K (.ref D) (.type "ValueError") = some true) : PySem.W.kitOne K (.ref D) (.type "ValueError") = some true := by
  unfold PySem.W.kitOne
  rw [if_neg (by intro q; cases beq_iff_eq.mp q)]
  show (if PySem.W.kitMeta "ValueError" = true then PySem.W.subIn K (.ref D) (.type "ValueError") else none) = some true
  rw [if_pos (by decide +kernel)]
  exact s
structure SubAt (K : PySem.W.Frag) (CE D : Addr) : Prop where
  v : PySem.W.subIn K (.ref D) (.type "ValueError") = some true
  e : PySem.W.subIn K (.ref D) (.ref CE) = some true
  C : ExcC K D
theorem subAt_mk {K : PySem.W.Frag} {CE D : Addr} (v : PySem.W.subIn K (.ref D) (.type "ValueError") = some true) (e : PySem.W.subIn K (.ref D) (.ref CE) = some true)
    (hg : PySem.W.findIn K (.ref D) "__getattribute__" = some (some (.builtin "BaseException.__getattribute__"))) (hk : PySem.W.findIn K (.ref D) "__getattr__" = some none) (hs : PySem.W.subIn K (.ref D) (.type "BaseException") = some true) (hd : PySem.W.hasDictIn K D = true)
    (ha : PySem.W.findIn K (.ref D) "__class__" = some (some (.builtin "object.__class__"))) (hn : PySem.W.specialIn K (.builtin "object.__class__") "__get__" = some (some (.builtin "getset_descriptor.__get__"))) (ht : PySem.W.takesIn K (.builtin "object.__class__") = some true) (hm : PySem.W.mroIn K D (.type "object") = some true) : SubAt K CE D := ⟨v, e, ⟨hg, hk, hs, hd, ha, hn, ht, hm⟩⟩
theorem all_mk8 {l : PySem.W.OpenLaw} {w : World} {K : PySem.W.Frag} {h : Heap} {mg : Str → Option Value} {fa : Addr} (X : K.In h) (G : h.Ns mainGlobals mg) (hfa : mg "law" = some (.ref fa)) 
    {f_ii f_ib f_pe f_ct f_ck f_cc f_cr f_it f_ir f_as f_ho f_ra f_be f_ta f_le f_pa f_er c0 c1 c2 c3 c4 c5 c6 c7 c10 c11 C_i f_i C_t CH CE fH gP pP e1 e2 fl cL Pt : Addr} {d_ii d_ib d_pe d_ct d_ck d_cc d_cr d_it d_ir d_as d_ho d_ra d_be d_ta d_le d_pa d_er d_i d_h d_p : FuncData}
    {ocl : Value} {odl anl : Option Addr} {osl : Array (Option Value)} {kVl docl pml ctl : Value}
    (h_ii : FnAt K "is_integer" sIsInt f_ii d_ii) (h_ib : FnAt K "is_below" sIsBelow f_ib d_ib) (h_pe : FnAt K "common_period" sPeriod f_pe d_pe) (h_ct : FnAt K "check_tables" sChkTables f_ct d_ct) (h_ck : FnAt K "check_keys" sChkKeys f_ck d_ck) (h_cc : FnAt K "check_careful" sChkCareful f_cc d_cc) (h_cr : FnAt K "check_reminders" sChkRem f_cr d_cr) (h_it : FnAt K "is_table" sIsTable f_it d_it) (h_ir : FnAt K "is_reminder" sIsRem f_ir d_ir) (h_as : FnAt K "is_ascending_at" sAsc f_as d_as) (h_ho : FnAt K "has_only" sHasOnly f_ho d_ho) (h_ra : FnAt K "_law_random" sRandom f_ra d_ra) (h_be : FnAt K "_law_below" sBelow f_be d_be) (h_ta : FnAt K "_law_table" sTable f_ta d_ta) (h_le : FnAt K "_law_length" sLength f_le d_le) (h_pa : FnAt K "_law_parts" sParts f_pa d_pa) (h_er : FnAt K "_law_error_of" sErr f_er d_er)
    (gl : PySem.W.nsIn K mainGlobals "law" = some (some (.ref fl))) (ll : K.lookup fl = some ⟨ocl, odl, .func (PySem.W.fnOf "law" "law" (defArgs sLaw) (defBody sLaw) (defScope sLaw) .none kVl docl pml anl (.ref cL) ctl), osl⟩) (lc : PySem.W.codeIn K (.ref cL) "law" = true)
    (tabE : h.get? Pt = some { cls := .none, data := .fields #[] }) (hC : PySem.W.codeHdIn K cL Pt = true) (nP' : K.lookup Pt = none)
    (e_i : ErrAt K "InvalidHouse" "InvalidHouse.__init__" sIHInit C_i f_i d_i) (np : PySem.W.findIn K (.ref C_i) "part" = some none) (ni : PySem.W.findIn K (.ref C_i) "index" = some none) (nc : PySem.W.findIn K (.ref C_i) "place" = some none) (nl : PySem.W.findIn K (.ref C_t) "line" = some none)
    (hE : PySem.W.nsIn K mainGlobals "HouseError" = some (some (.ref CE))) (x1 : PySem.W.subIn K (.ref CE) (.type "BaseException") = some true) (x2 : PySem.W.hasDictIn K CE = true) (x3 : PySem.W.typeIn K (.ref CE) = some (.type "type"))
    (k0 : ClsAt K "InvalidTick" c0) (k1 : ClsAt K "UnknownPerson" c1) (k2 : ClsAt K "InvalidLimit" c2) (k3 : ClsAt K "DifferentHouses" c3) (k4 : ClsAt K "InvalidWaiting" c4) (k5 : ClsAt K "Contradiction" c5) (k6 : ClsAt K "InvalidName" c6) (k7 : ClsAt K "UnknownName" c7) (k8 : ClsAt K "InvalidHouse" C_i) (k9 : ClsAt K "TextFault" C_t) (k10 : ClsAt K "InvalidCode" c10) (k11 : ClsAt K "InvalidOperation" c11)
    (si : SubAt K CE C_i) (st : SubAt K CE C_t)
    (a0 : PySem.W.subIn K (.ref C_i) (.ref c0) = some false) (a1 : PySem.W.subIn K (.ref C_i) (.ref c1) = some false) (a2 : PySem.W.subIn K (.ref C_i) (.ref c2) = some false) (a3 : PySem.W.subIn K (.ref C_i) (.ref c3) = some false) (a4 : PySem.W.subIn K (.ref C_i) (.ref c4) = some false) (a5 : PySem.W.subIn K (.ref C_i) (.ref c5) = some false) (a6 : PySem.W.subIn K (.ref C_i) (.ref c6) = some false) (a7 : PySem.W.subIn K (.ref C_i) (.ref c7) = some false) (a9 : PySem.W.subIn K (.ref C_i) (.ref C_t) = some false) (a10 : PySem.W.subIn K (.ref C_i) (.ref c10) = some false) (a11 : PySem.W.subIn K (.ref C_i) (.ref c11) = some false)
    (b0 : PySem.W.subIn K (.ref C_t) (.ref c0) = some false) (b1 : PySem.W.subIn K (.ref C_t) (.ref c1) = some false) (b2 : PySem.W.subIn K (.ref C_t) (.ref c2) = some false) (b3 : PySem.W.subIn K (.ref C_t) (.ref c3) = some false) (b4 : PySem.W.subIn K (.ref C_t) (.ref c4) = some false) (b5 : PySem.W.subIn K (.ref C_t) (.ref c5) = some false) (b6 : PySem.W.subIn K (.ref C_t) (.ref c6) = some false) (b7 : PySem.W.subIn K (.ref C_t) (.ref c7) = some false) (b8 : PySem.W.subIn K (.ref C_t) (.ref C_i) = some false) (b10 : PySem.W.subIn K (.ref C_t) (.ref c10) = some false) (b11 : PySem.W.subIn K (.ref C_t) (.ref c11) = some false)
    (m0 : C_i ≠ c0) (m1 : C_i ≠ c1) (m2 : C_i ≠ c2) (m3 : C_i ≠ c3) (m4 : C_i ≠ c4) (m5 : C_i ≠ c5) (m6 : C_i ≠ c6) (m7 : C_i ≠ c7) (m9 : C_i ≠ C_t) (m10 : C_i ≠ c10) (m11 : C_i ≠ c11)
    (o0 : C_t ≠ c0) (o1 : C_t ≠ c1) (o2 : C_t ≠ c2) (o3 : C_t ≠ c3) (o4 : C_t ≠ c4) (o5 : C_t ≠ c5) (o6 : C_t ≠ c6) (o7 : C_t ≠ c7) (o8 : C_t ≠ C_i) (o10 : C_t ≠ c10) (o11 : C_t ≠ c11)
    (hh : HouAt K CH fH gP pP d_h d_p e1 e2)
    (c1 : TupAt K "TABLE_LENGTHS" (tabLens.map V.int)) (q3 : IntAt K "MOST_PERSONS" 6) (q4 : IntAt K "MOST_KEYS" 9) (q5 : IntAt K "MOST_REMINDERS" 10) (q6 : StrAt K "LETTERS" hoS)
    (zl : PySem.W.nsIn K mainGlobals "lcm" = some (some (.builtin "math.lcm")))
    (z_abs : PySem.W.nsIn K mainGlobals "abs" = some none) (z_len : PySem.W.nsIn K mainGlobals "len" = some none) (z_range : PySem.W.nsIn K mainGlobals "range" = some none) (z_tuple : PySem.W.nsIn K mainGlobals "tuple" = some none) (z_sorted : PySem.W.nsIn K mainGlobals "sorted" = some none) (z_enumerate : PySem.W.nsIn K mainGlobals "enumerate" = some none) (z_isinstance : PySem.W.nsIn K mainGlobals "isinstance" = some none) (z_int : PySem.W.nsIn K mainGlobals "int" = some none) (z_bool : PySem.W.nsIn K mainGlobals "bool" = some none) (z_str : PySem.W.nsIn K mainGlobals "str" = some none) (z_all : PySem.W.nsIn K mainGlobals "all" = some none) (z_list : PySem.W.nsIn K mainGlobals "list" = some none) (z_ValueError : PySem.W.nsIn K mainGlobals "ValueError" = some none) :
    LamX.LawAtS l w K CX0 9 63 "_law_script" mg fa h := by
  have e := hfa.symm.trans (PySem.W.mg_of X G gl)
  cases e
  have g_ii := PySem.W.mg_of X G h_ii.g
  have b_ii := h_ii.F.binds (ps := ["value"]) fun _ _ _ _ _ _ us hl => match us, hl with | [_], _ => rfl
  have g_ib := PySem.W.mg_of X G h_ib.g
  have b_ib := h_ib.F.binds (ps := ["value", "limit"]) fun _ _ _ _ _ _ us hl => match us, hl with | [_, _], _ => rfl
  have g_pe := PySem.W.mg_of X G h_pe.g
  have b_pe := h_pe.F.binds (ps := ["tables"]) fun _ _ _ _ _ _ us hl => match us, hl with | [_], _ => rfl
  have g_ct := PySem.W.mg_of X G h_ct.g
  have b_ct := h_ct.F.binds (ps := ["tables"]) fun _ _ _ _ _ _ us hl => match us, hl with | [_], _ => rfl
  have g_ck := PySem.W.mg_of X G h_ck.g
  have b_ck := h_ck.F.binds (ps := ["keys"]) fun _ _ _ _ _ _ us hl => match us, hl with | [_], _ => rfl
  have g_cc := PySem.W.mg_of X G h_cc.g
  have b_cc := h_cc.F.binds (ps := ["careful", "persons"]) fun _ _ _ _ _ _ us hl => match us, hl with | [_, _], _ => rfl
  have g_cr := PySem.W.mg_of X G h_cr.g
  have b_cr := h_cr.F.binds (ps := ["reminders", "period", "persons"]) fun _ _ _ _ _ _ us hl => match us, hl with | [_, _, _], _ => rfl
  have g_it := PySem.W.mg_of X G h_it.g
  have b_it := h_it.F.binds (ps := ["table"]) fun _ _ _ _ _ _ us hl => match us, hl with | [_], _ => rfl
  have g_ir := PySem.W.mg_of X G h_ir.g
  have b_ir := h_ir.F.binds (ps := ["reminder", "period", "persons"]) fun _ _ _ _ _ _ us hl => match us, hl with | [_, _, _], _ => rfl
  have g_as := PySem.W.mg_of X G h_as.g
  have b_as := h_as.F.binds (ps := ["items", "index"]) fun _ _ _ _ _ _ us hl => match us, hl with | [_, _], _ => rfl
  have g_ho := PySem.W.mg_of X G h_ho.g
  have b_ho := h_ho.F.binds (ps := ["word", "characters"]) fun _ _ _ _ _ _ us hl => match us, hl with | [_, _], _ => rfl
  have g_ra := PySem.W.mg_of X G h_ra.g
  have b_ra := h_ra.F.binds (ps := ["_law_script", "_law_salt"]) fun _ _ _ _ _ _ us hl => match us, hl with | [_, _], _ => rfl
  have g_be := PySem.W.mg_of X G h_be.g
  have b_be := h_be.F.binds (ps := ["_law_d", "_law_limit"]) fun _ _ _ _ _ _ us hl => match us, hl with | [_, _], _ => rfl
  have g_ta := PySem.W.mg_of X G h_ta.g
  have b_ta := h_ta.F.binds (ps := ["_law_d"]) fun _ _ _ _ _ _ us hl => match us, hl with | [_], _ => rfl
  have g_le := PySem.W.mg_of X G h_le.g
  have b_le := h_le.F.binds (ps := ["_law_tables"]) fun _ _ _ _ _ _ us hl => match us, hl with | [_], _ => rfl
  have g_pa := PySem.W.mg_of X G h_pa.g
  have b_pa := h_pa.F.binds (ps := ["_law_d", "_law_most"]) fun _ _ _ _ _ _ us hl => match us, hl with | [_, _], _ => rfl
  have g_er := PySem.W.mg_of X G h_er.g
  have b_er := h_er.F.binds (ps := ["_law_call"]) fun _ _ _ _ _ _ us hl => match us, hl with | [_], _ => rfl
  have y_abs := PySem.W.mg_none_of X G z_abs
  have y_len := PySem.W.mg_none_of X G z_len
  have y_range := PySem.W.mg_none_of X G z_range
  have y_tuple := PySem.W.mg_none_of X G z_tuple
  have y_sorted := PySem.W.mg_none_of X G z_sorted
  have y_enumerate := PySem.W.mg_none_of X G z_enumerate
  have y_isinstance := PySem.W.mg_none_of X G z_isinstance
  have y_int := PySem.W.mg_none_of X G z_int
  have y_bool := PySem.W.mg_none_of X G z_bool
  have y_str := PySem.W.mg_none_of X G z_str
  have y_all := PySem.W.mg_none_of X G z_all
  have y_list := PySem.W.mg_none_of X G z_list
  have y_ValueError := PySem.W.mg_none_of X G z_ValueError
  have b_i := e_i.F.binds (ps := ["self", "part", "index"]) fun _ _ _ _ _ _ us hl => match us, hl with | [_, _, _], _ => rfl
  have b_p := hh.FP.binds (ps := ["self"]) fun _ _ _ _ _ _ us hl => match us, hl with | [_], _ => rfl
  have b_h : Binds K d_h ["self", "tables", "keys", "careful", "reminders"] [] := by
    have hq := hh.FH.binds1 (ps := ["self", "tables", "keys", "careful", "reminders"]) 5 2 (by simp) rfl
      (fun T kV doc pm an cdv ct us its hl hi => by
        match us, hl, its, hi with
        | [_, _, _, _, _], _, [_, _], _ => exact ⟨_, rfl, rfl⟩)
    obtain ⟨ds, hv, hb⟩ := hq
    cases hv
    exact hb
  obtain ⟨ds2, hd2, b_h2⟩ := hh.FH.binds1 (ps := ["self", "tables", "keys", "careful", "reminders"]) 3 0 (by simp) rfl
      (fun T kV doc pm an cdv ct us its hl hi => by
        match us, hl, its, hi with
        | [_, _, _], _, [_, _], _ => exact ⟨_, rfl, rfl⟩)
  obtain ⟨a1', g1, q1⟩ := c1
  obtain ⟨t3, g3⟩ := q3
  obtain ⟨t4, g4⟩ := q4
  obtain ⟨t5, g5⟩ := q5
  obtain ⟨t6, g6⟩ := q6
  have TA : TxtA mg := { abs := y_abs, len := y_len, range := y_range }
  have TB : TxtB K mg f_be d_be := { g := g_be, F := h_be.F, b := b_be }
  have TD : TxtD K mg f_ta f_le d_ta d_le := { gT := g_ta, FT := h_ta.F, bT := b_ta, gL := g_le, FL := h_le.F, bL := b_le, tuple := y_tuple, sorted := y_sorted }
  have TC : TxtC mg := { lcm := PySem.W.mg_of X G zl }
  have TF : TxtF K mg f_ii f_ib f_ho d_ii d_ib d_ho := { isinstance := y_isinstance, int := y_int, bool := y_bool, str := y_str, tuple := y_tuple, all := y_all, gII := g_ii, FII := h_ii.F, bII := b_ii, gIB := g_ib, FIB := h_ib.F, bIB := b_ib, gHO := g_ho, FHO := h_ho.F, bHO := b_ho, letters := ⟨t6, PySem.W.mg_of X G g6⟩, lengths := ⟨a1', PySem.W.mg_of X G g1, q1⟩ }
  have TI : TxtI K mg f_it f_ir f_as d_it d_ir d_as := { enumerate := y_enumerate, most := ⟨t3, PySem.W.mg_of X G g3⟩, keys := ⟨t4, PySem.W.mg_of X G g4⟩, rems := ⟨t5, PySem.W.mg_of X G g5⟩, gIT := g_it, FIT := h_it.F, bIT := b_it, gIR := g_ir, FIR := h_ir.F, bIR := b_ir, gAs := g_as, FAs := h_as.F, bAs := b_as }
  have TH : TxtIH K mg C_i f_i d_i := { gC := PySem.W.mg_of X G e_i.g, O := e_i.O, iC := e_i.i, tI := e_i.t, F := e_i.F, b := b_i, nP := np, nI := ni }
  have TL' : TxtL K mg CH f_pe f_ct f_ck f_cc f_cr d_pe d_ct d_ck d_cc d_cr := { cl := hh.cl, nT := hh.nT, nK := hh.nK, nC := hh.nC, nR := hh.nR, gP := g_pe, FP := h_pe.F, bP := b_pe, gT := g_ct, FT := h_ct.F, bT := b_ct, gK := g_ck, FK := h_ck.F, bK := b_ck, gCa := g_cc, FC := h_cc.F, bC := b_cc, gR := g_cr, FR := h_cr.F, bR := b_cr }
  have TV : TxtV K mg CH f_ra f_pa f_er pP gP d_ra d_pa d_er d_p := { gRa := g_ra, FRa := h_ra.F, bRa := b_ra, gPa := g_pa, FPa := h_pa.F, bPa := b_pa, gErr := g_er, FErr := h_er.F, bErr := b_er, po := hh.po, FPe := hh.FP, bPe := b_p, list := y_list }
  have NN : TxtN mg (fun i => [c0, c1, c2, c3, c4, c5, c6, c7, C_i, C_t, c10, c11].getD i 0) CE := { gE := PySem.W.mg_of X G hE, n0 := PySem.W.mg_of X G k0.g, n1 := PySem.W.mg_of X G k1.g, n2 := PySem.W.mg_of X G k2.g, n3 := PySem.W.mg_of X G k3.g, n4 := PySem.W.mg_of X G k4.g, n5 := PySem.W.mg_of X G k5.g, n6 := PySem.W.mg_of X G k6.g, n7 := PySem.W.mg_of X G k7.g, n8 := PySem.W.mg_of X G k8.g, n9 := PySem.W.mg_of X G k9.g, n10 := PySem.W.mg_of X G k10.g, n11 := PySem.W.mg_of X G k11.g, vE := y_ValueError, isi := y_isinstance }
  have KI : ErrKit K (fun i => [c0, c1, c2, c3, c4, c5, c6, c7, C_i, C_t, c10, c11].getD i 0) CE C_i 8 := by
    refine ⟨fun i hi => ?_, kit_ve si.v, PySem.W.exm_ref x1 x2 x3 si.e, si.C⟩
    match i, hi with
    | 0, _ => exact kit_no k0 m0 a0
    | 1, _ => exact kit_no k1 m1 a1
    | 2, _ => exact kit_no k2 m2 a2
    | 3, _ => exact kit_no k3 m3 a3
    | 4, _ => exact kit_no k4 m4 a4
    | 5, _ => exact kit_no k5 m5 a5
    | 6, _ => exact kit_no k6 m6 a6
    | 7, _ => exact kit_no k7 m7 a7
    | 8, _ => exact kit_self
    | 9, _ => exact kit_no k9 m9 a9
    | 10, _ => exact kit_no k10 m10 a10
    | 11, _ => exact kit_no k11 m11 a11
  have KT : ErrKit K (fun i => [c0, c1, c2, c3, c4, c5, c6, c7, C_i, C_t, c10, c11].getD i 0) CE C_t 9 := by
    refine ⟨fun i hi => ?_, kit_ve st.v, PySem.W.exm_ref x1 x2 x3 st.e, st.C⟩
    match i, hi with
    | 0, _ => exact kit_no k0 o0 b0
    | 1, _ => exact kit_no k1 o1 b1
    | 2, _ => exact kit_no k2 o2 b2
    | 3, _ => exact kit_no k3 o3 b3
    | 4, _ => exact kit_no k4 o4 b4
    | 5, _ => exact kit_no k5 o5 b5
    | 6, _ => exact kit_no k6 o6 b6
    | 7, _ => exact kit_no k7 o7 b7
    | 8, _ => exact kit_no k8 o8 b8
    | 9, _ => exact kit_self
    | 10, _ => exact kit_no k10 o10 b10
    | 11, _ => exact kit_no k11 o11 b11
  have XF : XFs K C_i C_t := ⟨⟨si.C.hg, si.C.hk, si.C.hs, si.C.hd⟩, ⟨st.C.hg, st.C.hk, st.C.hs, st.C.hd⟩, np, ni, nl, nc⟩
  refine ⟨PySem.W.fnOf "law" "law" (defArgs sLaw) (defBody sLaw) (defScope sLaw) .none kVl docl pml anl (.ref cL) ctl, [(cL, Pt)], spLaw K Pt, fun p hp => ?_, fun p hp => ?_, fun p hp => ?_, fun s u => .of_eq rfl, fun H a ns hl _ hT hS => ?_, fun base hb hg hTB => ?_⟩
  · rw [List.mem_singleton.mp hp]; exact tabE
  · rw [List.mem_singleton.mp hp]; exact nP'
  · rw [List.mem_singleton.mp hp]; exact PySem.W.codeHd_of_K X hC
  · exact ⟨a, ns, rfl, hS, hl, fun p hp => by rw [List.mem_singleton.mp hp]; exact LamX.TabS.nil (hT _ (List.mem_singleton.mpr rfl)), fun _ => rfl⟩
  · exact ok_law8 ⟨⟨_, _, _, _, _, _, _, _, rfl, ll, lc⟩⟩ TA TB TD TC TF TI TH TL' hh.FH b_h b_h2 hd2 hh.M (PySem.W.mg_of X G hh.g) TV NN KI KT XF (hTB _ (List.mem_singleton.mpr rfl)) rfl hh.z1 hh.z2
end Dk
open PySem PySem.W PyProof.Rows
set_option Elab.async false
set_option maxRecDepth 100000 in
set_option maxHeartbeats 0 in
open_top hd for PySem.Challenge.rw_doorkeys_k08_invalid_houses
set_option Elab.async false
set_option linter.all false
open PySem PySem.W PyProof.Rows
set_option maxRecDepth 100000 in
set_option maxHeartbeats 0 in
theorem PySem.Challenge.cw_doorkeys_k08_invalid_houses_holds : PySem.Challenge.rw_doorkeys_k08_invalid_houses.Holds :=
  hd (by
  k_fill
  refine LamX.walk_ofTs (l := PySem.Challenge.rw_doorkeys_k08_invalid_houses) (n := 63) (k := 9) (x := "_law_script") (CX := fun _ => L2.CX0) rfl (by decide) rfl ⟨rfl, by decide, by decide⟩ (fun w h Y => PySem.W.km_in_of Y) ?F (fun _ _ _ _ _ z => z)
  case F =>
    intro w mg fa h Y KX G hmg
    refine' Dk.all_mk8 KX G hmg ?h_ii ?h_ib ?h_pe ?h_ct ?h_ck ?h_cc ?h_cr ?h_it ?h_ir ?h_as ?h_ho ?h_ra ?h_be ?h_ta ?h_le ?h_pa ?h_er ?gl ?ll ?lc ?tabE ?hC ?nPx ?e_i ?np ?ni ?nc ?nl ?hE ?x1 ?x2 ?x3 ?k0 ?k1 ?k2 ?k3 ?k4 ?k5 ?k6 ?k7 ?k8 ?k9 ?k10 ?k11 ?si ?st ?a0 ?a1 ?a2 ?a3 ?a4 ?a5 ?a6 ?a7 ?a9 ?a10 ?a11 ?b0 ?b1 ?b2 ?b3 ?b4 ?b5 ?b6 ?b7 ?b8 ?b10 ?b11 ?m0 ?m1 ?m2 ?m3 ?m4 ?m5 ?m6 ?m7 ?m9 ?m10 ?m11 ?o0 ?o1 ?o2 ?o3 ?o4 ?o5 ?o6 ?o7 ?o8 ?o10 ?o11 ?hh ?c1 ?q3 ?q4 ?q5 ?q6 ?zl ?z_abs ?z_len ?z_range ?z_tuple ?z_sorted ?z_enumerate ?z_isinstance ?z_int ?z_bool ?z_str ?z_all ?z_list ?z_ValueError
    (case h_ii => refine' Dk.fnAt_mk ?a ?l ?c ?k; (case a => k_is); (case l => k_is); (case c => k_is); (case k => k_is))
    (case h_ib => refine' Dk.fnAt_mk ?a ?l ?c ?k; (case a => k_is); (case l => k_is); (case c => k_is); (case k => k_is))
    (case h_pe => refine' Dk.fnAt_mk ?a ?l ?c ?k; (case a => k_is); (case l => k_is); (case c => k_is); (case k => k_is))
    (case h_ct => refine' Dk.fnAt_mk ?a ?l ?c ?k; (case a => k_is); (case l => k_is); (case c => k_is); (case k => k_is))
    (case h_ck => refine' Dk.fnAt_mk ?a ?l ?c ?k; (case a => k_is); (case l => k_is); (case c => k_is); (case k => k_is))
    (case h_cc => refine' Dk.fnAt_mk ?a ?l ?c ?k; (case a => k_is); (case l => k_is); (case c => k_is); (case k => k_is))
    (case h_cr => refine' Dk.fnAt_mk ?a ?l ?c ?k; (case a => k_is); (case l => k_is); (case c => k_is); (case k => k_is))
    (case h_it => refine' Dk.fnAt_mk ?a ?l ?c ?k; (case a => k_is); (case l => k_is); (case c => k_is); (case k => k_is))
    (case h_ir => refine' Dk.fnAt_mk ?a ?l ?c ?k; (case a => k_is); (case l => k_is); (case c => k_is); (case k => k_is))
    (case h_as => refine' Dk.fnAt_mk ?a ?l ?c ?k; (case a => k_is); (case l => k_is); (case c => k_is); (case k => k_is))
    (case h_ho => refine' Dk.fnAt_mk ?a ?l ?c ?k; (case a => k_is); (case l => k_is); (case c => k_is); (case k => k_is))
    (case h_ra => refine' Dk.fnAt_mk ?a ?l ?c ?k; (case a => k_is); (case l => k_is); (case c => k_is); (case k => k_is))
    (case h_be => refine' Dk.fnAt_mk ?a ?l ?c ?k; (case a => k_is); (case l => k_is); (case c => k_is); (case k => k_is))
    (case h_ta => refine' Dk.fnAt_mk ?a ?l ?c ?k; (case a => k_is); (case l => k_is); (case c => k_is); (case k => k_is))
    (case h_le => refine' Dk.fnAt_mk ?a ?l ?c ?k; (case a => k_is); (case l => k_is); (case c => k_is); (case k => k_is))
    (case h_pa => refine' Dk.fnAt_mk ?a ?l ?c ?k; (case a => k_is); (case l => k_is); (case c => k_is); (case k => k_is))
    (case h_er => refine' Dk.fnAt_mk ?a ?l ?c ?k; (case a => k_is); (case l => k_is); (case c => k_is); (case k => k_is))
    (case gl => k_is)
    (case ll => k_is)
    (case lc => k_is)
    (case tabE => exact PySem.W.km_tabs_of Y _ (List.mem_singleton.mpr rfl))
    (case hC => first | k_is | exact rfl)
    (case nPx => first | k_is | exact rfl)
    (case e_i => refine' Dk.errAt_mk ?a ?xL ?sa ?eC ?tC ?kC ?i ?t ?l ?c ?k; (case a => k_is); (case xL => k_is); (case sa => k_is); (case eC => k_is); (case tC => k_is); (case kC => k_is); (case i => k_is); (case t => k_is); (case l => k_is); (case c => k_is); (case k => k_is))
    (case np => k_is)
    (case ni => k_is)
    (case nc => k_is)
    (case hE => k_is)
    (case x1 => k_is)
    (case x2 => k_is)
    (case x3 => k_is)
    (case k0 => refine' Dk.ClsAt.mk ?a ?b ?c; (case a => k_is); (case b => k_is); (case c => k_is))
    (case k1 => refine' Dk.ClsAt.mk ?a ?b ?c; (case a => k_is); (case b => k_is); (case c => k_is))
    (case k2 => refine' Dk.ClsAt.mk ?a ?b ?c; (case a => k_is); (case b => k_is); (case c => k_is))
    (case k3 => refine' Dk.ClsAt.mk ?a ?b ?c; (case a => k_is); (case b => k_is); (case c => k_is))
    (case k4 => refine' Dk.ClsAt.mk ?a ?b ?c; (case a => k_is); (case b => k_is); (case c => k_is))
    (case k5 => refine' Dk.ClsAt.mk ?a ?b ?c; (case a => k_is); (case b => k_is); (case c => k_is))
    (case k6 => refine' Dk.ClsAt.mk ?a ?b ?c; (case a => k_is); (case b => k_is); (case c => k_is))
    (case k7 => refine' Dk.ClsAt.mk ?a ?b ?c; (case a => k_is); (case b => k_is); (case c => k_is))
    (case k8 => refine' Dk.ClsAt.mk ?a ?b ?c; (case a => k_is); (case b => k_is); (case c => k_is))
    (case k9 => refine' Dk.ClsAt.mk ?a ?b ?c; (case a => k_is); (case b => k_is); (case c => k_is))
    (case k10 => refine' Dk.ClsAt.mk ?a ?b ?c; (case a => k_is); (case b => k_is); (case c => k_is))
    (case k11 => refine' Dk.ClsAt.mk ?a ?b ?c; (case a => k_is); (case b => k_is); (case c => k_is))
    (case nl => k_is)
    (case si => refine' Dk.subAt_mk ?qv ?qe ?qhg ?qhk ?qhs ?qhd ?qha ?qhn ?qht ?qhm; (case qv => k_is); (case qe => k_is); (case qhg => k_is); (case qhk => k_is); (case qhs => k_is); (case qhd => k_is); (case qha => k_is); (case qhn => k_is); (case qht => k_is); (case qhm => k_is))
    (case st => refine' Dk.subAt_mk ?qv ?qe ?qhg ?qhk ?qhs ?qhd ?qha ?qhn ?qht ?qhm; (case qv => k_is); (case qe => k_is); (case qhg => k_is); (case qhk => k_is); (case qhs => k_is); (case qhd => k_is); (case qha => k_is); (case qhn => k_is); (case qht => k_is); (case qhm => k_is))
    (case a0 => k_is)
    (case a1 => k_is)
    (case a2 => k_is)
    (case a3 => k_is)
    (case a4 => k_is)
    (case a5 => k_is)
    (case a6 => k_is)
    (case a7 => k_is)
    (case a9 => k_is)
    (case a10 => k_is)
    (case a11 => k_is)
    (case b0 => k_is)
    (case b1 => k_is)
    (case b2 => k_is)
    (case b3 => k_is)
    (case b4 => k_is)
    (case b5 => k_is)
    (case b6 => k_is)
    (case b7 => k_is)
    (case b8 => k_is)
    (case b10 => k_is)
    (case b11 => k_is)
    (case m0 => decide)
    (case m1 => decide)
    (case m2 => decide)
    (case m3 => decide)
    (case m4 => decide)
    (case m5 => decide)
    (case m6 => decide)
    (case m7 => decide)
    (case m9 => decide)
    (case m10 => decide)
    (case m11 => decide)
    (case o0 => decide)
    (case o1 => decide)
    (case o2 => decide)
    (case o3 => decide)
    (case o4 => decide)
    (case o5 => decide)
    (case o6 => decide)
    (case o7 => decide)
    (case o8 => decide)
    (case o10 => decide)
    (case o11 => decide)
    (case hh => refine' Dk.houAt_mk ?qg ?qpg ?qhd ?qpo ?qsa ?qn1x ?qn2x ?qn3 ?qn4 ?qmk ?qi ?qfn ?qkc ?qlH ?qcH ?qkH ?qlT ?ql1 ?ql2 ?qpA ?qpG ?qpK ?qpR ?qlP ?qcP ?qkP; (case qg => k_is); (case qpg => k_is); (case qhd => k_is); (case qpo => k_is); (case qsa => k_is); (case qn1x => k_is); (case qn2x => k_is); (case qn3 => k_is); (case qn4 => k_is); (case qmk => k_is); (case qi => k_is); (case qfn => k_is); (case qkc => k_is); (case qlH => k_is); (case qcH => k_is); (case qkH => k_is); (case qlT => k_is); (case ql1 => k_is); (case ql2 => k_is); (case qpA => k_is); (case qpG => k_is); (case qpK => k_is); (case qpR => k_is); (case qlP => k_is); (case qcP => k_is); (case qkP => k_is))
    (case c1 => refine' Dk.tupAt_mk ?a ?b ?z ?v; (case a => k_is); (case b => k_is); (case z => decide); (case v => repeat (first | exact .nil | refine .cons rfl ?_ | refine .cons ⟨_, rfl⟩ ?_)))
    (case q3 => refine' Dk.intAt_mk ?a; (case a => k_is))
    (case q4 => refine' Dk.intAt_mk ?a; (case a => k_is))
    (case q5 => refine' Dk.intAt_mk ?a; (case a => k_is))
    (case q6 => refine' Dk.strAt_mk ?a; (case a => k_is))
    (case zl => k_is)
    (case z_abs => k_is)
    (case z_len => k_is)
    (case z_range => k_is)
    (case z_tuple => k_is)
    (case z_sorted => k_is)
    (case z_enumerate => k_is)
    (case z_isinstance => k_is)
    (case z_int => k_is)
    (case z_bool => k_is)
    (case z_str => k_is)
    (case z_all => k_is)
    (case z_list => k_is)
    (case z_ValueError => k_is)
    )
