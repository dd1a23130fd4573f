import PyProof.Rows.All
import Wide.All
import OpenK.AllK
import Wide.FinOn
import HandS.ForMost
import HandS.Wide
import HandS.Codes
import PySem.Challenge.RW_worstwait_k08_made_curves_at_their_bound
import PyProof.ReprRoads
import HandS.ExcOwn
import HandS.WordsExc
import HandS.Lambda
import HandS.IsInst
import HandS.ExcField
import HandS.ExcInit
import KE.KExcIs
import KE.GoesEnum
import HandS.EndTab
import KE.KStateDown
import HandS.Defaults
import HandS.Head0
import HandS.Head1
import HandS.Head2
import HandS.HeadEnd
import HandS.HeadHook1
import HandS.HeadHook2
import HandS.HeadHook4
import HandS.OwnEq
import HandS.SlotsOwn
import HandS.Head3
import HandS.TupAny
import HandS.Walk
import HandS.Zip
import HandS.SetFor
import HandS.More
import HandS.Flow
import HandS.SortInts
import HandS.Gcd
import HandS.Iter
import HandS.Conv
import HandS.Style
import PyProof.FitsInt
import HandS.RaiseMore
import KE.KMathGC
import HandS.Dict
import HandS.CallLocal
import HandS.MakeKwOnly
section
set_option Elab.async false
set_option linter.all false
set_option maxRecDepth 100000
set_option maxHeartbeats 4000000
namespace WW
open PySem L2
def top (i : Nat) : Stmt := PySem.Challenge.pw_worstwait_k08_made_curves_at_their_bound.main.body.getD i (.Pass ⟨0, 0, 0, 0⟩)
abbrev sBegun : Stmt := top 59
abbrev sMixed : Stmt := top 60
abbrev sTake : Stmt := top 61
abbrev sPick : Stmt := top 62
/-! ### the draw: a dict of four, with two lists of ints -/
abbrev drawKvs (l c : Addr) (r t : Int) : List (Key × V) := [(Sum.inr "large", .ref l), (Sum.inr "rest", .int r), (Sum.inr "cells", .ref c), (Sum.inr "turn", .int t)]
structure DrawAt (H : Hp) (d l c : Addr) : Prop where
  ob : ∃ r t, H d = some (.dK (drawKvs l c r t))
  la : ∃ large : List Int, H l = some (.lst (large.map V.int)) ∧ large.length ≤ 63
  ce : ∃ cells : List Int, H c = some (.lst (cells.map V.int)) ∧ cells.length ≤ 63
  lc : l ≠ c
/-- all but the draw's dict and its first list stands -/
def KeepD (H H' : Hp) (d l : Addr) : Prop := ∀ b o, H b = some o → b ≠ d → b ≠ l → H' b = some o
theorem KeepD.refl (H : Hp) (d l : Addr) : KeepD H H d l := fun _ _ h _ _ => h
theorem KeepD.trans {H H1 H2 : Hp} {d l : Addr} (a : KeepD H H1 d l) (b : KeepD H1 H2 d l) : KeepD H H2 d l := fun c o h h1 h2 => b c o (a c o h h1 h2) h1 h2
theorem Same.keepD {H H1 : Hp} (d l : Addr) (a : Same H H1) : KeepD H H1 d l := fun c o h _ _ => a c o h
theorem DrawAt.dl {H : Hp} {d l c : Addr} (D : DrawAt H d l c) : d ≠ l := by
  obtain ⟨⟨r, t, h⟩, ⟨la, h2, _⟩, _, _⟩ := D
  exact ne_of h h2 (by intro z; cases z)
theorem DrawAt.dc {H : Hp} {d l c : Addr} (D : DrawAt H d l c) : d ≠ c := by
  obtain ⟨⟨r, t, h⟩, _, ⟨la, h2, _⟩, _⟩ := D
  exact ne_of h h2 (by intro z; cases z)
theorem DrawAt.same {H H' : Hp} {d l c : Addr} (D : DrawAt H d l c) (s : Same H H') : DrawAt H' d l c := by
  obtain ⟨⟨r, t, h⟩, ⟨la, h2, h3⟩, ⟨ce, h4, h5⟩, h6⟩ := D
  exact ⟨⟨r, t, s _ _ h⟩, ⟨la, s _ _ h2, h3⟩, ⟨ce, s _ _ h4, h5⟩, h6⟩
theorem DrawAt.keepF {H H' : Hp} {d l c a : Addr} (D : DrawAt H d l c) (k : KeepD H H' d l) (D' : DrawAt H' d l c) (h : H' a = none) : H a = none := by
  cases q : H a with
  | none => rfl
  | some o =>
    by_cases e1 : a = d
    · subst e1
      obtain ⟨⟨r, t, z⟩, _⟩ := D'
      rw [z] at h
      cases h
    · by_cases e2 : a = l
      · subst e2
        obtain ⟨_, ⟨la, z, _⟩, _⟩ := D'
        rw [z] at h
        cases h
      · rw [k a o q e1 e2] at h
        cases h
/-- the names of the prelude -/
structure PreG (mg : Str → Option Value) : Prop where
  abs : mg "abs" = none
  int : mg "int" = none
  len : mg "len" = none
def spBegun (K : PySem.W.Frag) : Sp := fun vs H Q _ => ∃ (a : Addr) (ns : List Int), vs = [.ref a] ∧ SqL K H a (ns.map V.int) ∧ ns.length ≤ 63 ∧
  ∀ (d l c : Addr) (H' : Hp), H d = none → H l = none → H c = none → DrawAt H' d l c → Same H H' → Q (.ref d) H'
local macro_rules | `(tactic| walk_at "rd") => `(tactic| simp only [tTest, tOp, tUn, tCB, tCons, tNil, tVar, tC, rI, rI0, rU, CPow, CMul, CDivN, tIf, tIfS, tNext, tCall, List.append_nil, rEq, tPar, tDGet, tSeq, sDPut, tLst, tYes, false_or, or_false, reduceCtorEq, and_false, false_and, exists_false, if_true, Bool.false_eq_true, if_false, ite_self, tAsg, gName, tDisp, tPairs, tRet, L2.start, wipe, List.map_cons, List.map_nil, List.length_cons, List.length_nil, List.replicate, List.cons_append, List.nil_append, List.set_cons_zero, List.set_cons_succ,
  List.getElem?_cons_zero, List.getElem?_cons_succ, V.int.injEq, V.bl.injEq, V.str.injEq, V.ref.injEq, Option.some.injEq, exists_eq_left', exists_eq_left, exists_and_left, exists_const, decide_eq_true_eq, true_and, and_true, exists_eq', exists_eq, Nat.reduceSub, Nat.reduceAdd, Int.reduceToNat, Int.reducePow, Int.reduceLE, Int.reduceNeg, Nat.reduceLT, Nat.reducePow, Int.natAbs_cast, Int.reduceLT, Nat.reduceLeDiff, List.cons.injEq])
section
variable {P : Program} {w : World} {K : PySem.W.Frag} {mg : Str → Option Value} {base : Heap}
theorem scBegun : FnScope ["script", "large", "grain"] ["script"] (defScope sBegun) := ⟨rfl, rfl, rfl, by decide +kernel, rfl, by decide +kernel, by decide +kernel⟩
theorem get_map_int {ns : List Int} {i : Nat} {x : V} (h : (ns.map V.int)[i]? = some x) : ∃ z, x = V.int z := by
  rw [List.getElem?_map] at h
  cases e : ns[i]? with
  | none => rw [e] at h; cases h
  | some z => rw [e] at h; exact ⟨z, (Option.some.inj h).symm⟩
theorem snocI (xs : List Int) (z : Int) : ∃ ys : List Int, xs.map V.int ++ [V.int z] = ys.map V.int ∧ ys.length = xs.length + 1 := ⟨xs ++ [z], by rw [List.map_append]; rfl, by rw [List.length_append]; rfl⟩
theorem ok_begun {f : Addr} {fd : FuncData} (F : Fun K "_law_begun" "_law_begun" sBegun f fd) (T : PreG mg) : FnOk P w K mg base CX0 1 f fd ["script"] (spBegun K) := by
  refine F.ok scBegun (fun vs H Q E h => ?_) (fun cdv A outer s H vs Q E hr h => ?_)
  · obtain ⟨a, ns, rfl, _⟩ := h
    rfl
  · obtain ⟨a, ns, rfl, hS, hn, k⟩ := h
    have hu := hu_of hr
    refine ⟨_, pss_cons (ps_setLc (i := 1) (own := [("grain", 2)]) (g := gName 2) rfl scBegun.nd rfl rfl (sw_true rfl rfl rfl (by decide +kernel)) (pi_list (pv 0)) (blkOk_by (N := ["script", "large", "grain"]) (sc := defScope sBegun) (by decide +kernel))
        (fun _ _ _ _ _ => pg_name (i := 2) scBegun.nd rfl (Or.inl rfl))
        (fun _ _ _ _ _ => pts_one (pt_cmpR op_ge (pe_callB call_abs (by rfl) T.abs (by decide +kernel) (pa_cons (pv 2) pa_nil)) (pe_op op_pow pe_int pe_int) (nomark _)))
        (fun _ _ _ _ _ => pe_op op_sub (pe_callB call_abs (by rfl) T.abs (by decide +kernel) (pa_cons (pv 2) pa_nil)) (pe_op op_pow pe_int pe_int)))
      (pss_one (ps_ret (pe_disp (pps_cons pe_str (pv 1) (pps_cons pe_str pe_int (pps_cons pe_str
        (pe_lc (own := [("grain", 2)]) (g := gName 2) (tt := tYes) rfl scBegun.nd (pi_list (pv 0)) (blkOk_by (N := ["script", "large", "grain"]) (sc := defScope sBegun) (by decide +kernel)) (fun _ _ _ _ _ => pg_name (i := 2) scBegun.nd rfl (Or.inl rfl)) (fun _ _ _ _ _ => pts_nil)
          (fun _ _ _ _ _ => pe_callB call_abs (by rfl) T.abs (by decide +kernel) (pa_cons (pv 2) pa_nil)))
        (pps_cons pe_str pe_int pps_nil)))) (by rfl) (by rfl) (fun z => by cases z) (by decide)))), ?_⟩
    refine ⟨_, rfl, a, rfl, ⟨_, hS⟩, fun D hD => lc_list (K := K) (a := a) (xs := ns.map V.int) (fun i H2 => ∃ xs : List Int, H2 D = some (.lst (xs.map V.int)) ∧ xs.length ≤ i ∧ Same H H2) ⟨[], upd_same, Nat.le_refl _, fun b o e => by rw [upd_ne (ne_of_none e hD)]; exact e⟩ (fun i H2 _ ⟨_, _, _, s2⟩ => s2.seq hS) ?_ ?_⟩
    · rintro i x H2 hx ⟨xs, hxs, hxl, s2⟩
      obtain ⟨z, rfl⟩ := get_map_int hx
      have hi : i < ns.length := by
        have q := (List.getElem?_eq_some_iff.mp hx).1
        rwa [List.length_map] at q
      refine ⟨rfl, ?_⟩
      walk_at "rd"
      refine ⟨by decide, ite2 (fun _ => ⟨by decide, ?_⟩) (fun _ => ?_)⟩
      · obtain ⟨ys, e1, e2⟩ := snocI xs ((if z < 0 then -z else z) - 1000000000000000000)
        exact ⟨xs.map V.int, hxs, (by rw [List.length_map]; exact small1000 (by omega)), ys, by rw [e1]; exact upd_same, by omega, fun b o e => by rw [upd_ne (ne_of_none e hD)]; exact s2 b o e⟩
      · exact ⟨xs, hxs, by omega, s2⟩
    · rintro H2 ⟨large, hl, hll, s2⟩
      walk_at "rd"
      intro p hp
      have hDp : D ≠ p := fun e => by rw [e, hp] at hl; cases hl
      have s3 : Same H (upd H2 p (.dK [])) := fun b o e => by rw [upd_ne (ne_of_none (s2 _ _ e) hp)]; exact s2 _ _ e
      refine ⟨_, rfl, a, rfl, ⟨_, s3.seq hS⟩, fun c hc => lc_list (K := K) (a := a) (xs := ns.map V.int) (fun i H3 => ∃ xs : List Int, H3 c = some (.lst (xs.map V.int)) ∧ xs.length ≤ i ∧ Same (upd H2 p (.dK [])) H3) ⟨[], upd_same, Nat.le_refl _, fun b o e => by rw [upd_ne (ne_of_none e hc)]; exact e⟩ (fun i H3 _ ⟨_, _, _, s4⟩ => (Same.trans s3 s4).seq hS) ?_ ?_⟩
      · rintro i x H3 hx ⟨xs, hxs, hxl, s4⟩
        obtain ⟨z, rfl⟩ := get_map_int hx
        have hi : i < ns.length := by
          have q := (List.getElem?_eq_some_iff.mp hx).1
          rwa [List.length_map] at q
        refine ⟨rfl, ?_⟩
        walk_at "rd"
        obtain ⟨ys, e1, e2⟩ := snocI xs (if z < 0 then -z else z)
        exact ⟨xs.map V.int, hxs, (by rw [List.length_map]; exact small1000 (by omega)), ys, by rw [e1]; exact upd_same, by omega, fun b o e => by rw [upd_ne (ne_of_none e hc)]; exact s4 b o e⟩
      · rintro H3 ⟨cells, hcl, hcll, s4⟩
        rw [List.length_map] at hll hcll
        refine ⟨s4 _ _ upd_same, drawKvs D c 0 0, rfl, (by show 4 ≤ 15; decide), ?_⟩
        have hpc : p ≠ c := ne_of_none (upd_same (H := H2) (a := p) (o := .dK [])) hc
        have hcD : D ≠ c := fun e => by rw [← e, upd_ne hDp, hl] at hc; cases hc
        have hD3 : H3 D = some (.lst (large.map V.int)) := s4 _ _ (by rw [upd_ne hDp]; exact hl)
        refine k p D c _ (s2.free hp) hD (s3.free hc) ⟨⟨0, 0, ?_⟩, ⟨large, ?_, by omega⟩, ⟨cells, ?_, by omega⟩, hcD⟩ ?_
        · exact upd_same
        · rw [upd_ne hDp]; exact hD3
        · rw [upd_ne hpc.symm]; exact hcl
        · exact fun b o e => by rw [upd_ne (ne_of_none (s2 _ _ e) hp)]; exact s4 _ _ (s3 _ _ e)
section
variable {H : Hp} {d l c : Addr} {r t x : Int}
theorem dg_large (h : H d = some (.dK (drawKvs l c r t))) : DGet H d (.str "large") (some (.ref l)) := by
  have e : valV (drawKvs l c r t) (Sum.inr "large" : Key) = some (.ref l) := by rfl
  rw [← e]
  exact DGet.k (k := Sum.inr "large") h
theorem dg_rest (h : H d = some (.dK (drawKvs l c r t))) : DGet H d (.str "rest") (some (.int r)) := by
  have e : valV (drawKvs l c r t) (Sum.inr "rest" : Key) = some (.int r) := by rfl
  rw [← e]
  exact DGet.k (k := Sum.inr "rest") h
theorem dg_cells (h : H d = some (.dK (drawKvs l c r t))) : DGet H d (.str "cells") (some (.ref c)) := by
  have e : valV (drawKvs l c r t) (Sum.inr "cells" : Key) = some (.ref c) := by rfl
  rw [← e]
  exact DGet.k (k := Sum.inr "cells") h
theorem dg_turn (h : H d = some (.dK (drawKvs l c r t))) : DGet H d (.str "turn") (some (.int t)) := by
  have e : valV (drawKvs l c r t) (Sum.inr "turn" : Key) = some (.int t) := by rfl
  rw [← e]
  exact DGet.k (k := Sum.inr "turn") h
theorem dp_turn (h : H d = some (.dK (drawKvs l c r t))) : DPut H d (.str "turn") (.int x) (upd H d (.dK (drawKvs l c r x))) :=
  DPut.k (k := Sum.inr "turn") h (by show 4 < sizeLine; decide)
theorem dp_rest (h : H d = some (.dK (drawKvs l c r t))) : DPut H d (.str "rest") (.int x) (upd H d (.dK (drawKvs l c x t))) :=
  DPut.k (k := Sum.inr "rest") h (by show 4 < sizeLine; decide)
end
def spMixed (K : PySem.W.Frag) : Sp := fun vs H Q _ => ∃ (d l c : Addr), vs = [.ref d] ∧ DrawAt H d l c ∧ ∀ (z : Int) (H' : Hp), DrawAt H' d l c → (∀ b o, H b = some o → b ≠ d → H' b = some o) → Q (.int z) H'
theorem scMixed : FnScope ["draw", "turn", "found", "great", "blend", "grain"] ["draw"] (defScope sMixed) := ⟨rfl, rfl, rfl, by decide +kernel, rfl, by decide +kernel, by decide +kernel⟩
theorem ok_mixed {f : Addr} {fd : FuncData} (F : Fun K "_law_mixed" "_law_mixed" sMixed f fd) (T : PreG mg) : FnOk P w K mg base CX0 1 f fd ["draw"] (spMixed K) := by
  refine F.ok scMixed (fun vs H Q E h => ?_) (fun cdv A outer s H vs Q E hr h => ?_)
  · obtain ⟨d, l, c, rfl, _⟩ := h
    rfl
  · obtain ⟨d, l, c, rfl, D, k⟩ := h
    have hu := hu_of hr
    refine ⟨_, pss_cons (ps_dput hu (pv 0) pe_str (pe_op op_add (pe_dget hu (pv 0) pe_str (fun _ _ => rfl)) pe_int) rfl)
      (pss_cons (ps_par (i := 1) (j := 2) (by rfl) scMixed.nd rfl rfl (by decide) rfl rfl (pa_cons (pe_callTy call_int1 (by rfl) T.int (by decide +kernel) (pa_cons (pe_dget hu (pv 0) pe_str (fun _ _ => rfl)) pa_nil)) (pa_cons pe_int pa_nil)) (by rfl))
      (pss_cons (ps_for PassesOwn.never rfl (pi_list (pe_lst (pa_cons pe_int (pa_cons pe_int (pa_cons pe_int pa_nil))))) (pg_name (i := 3) scMixed.nd rfl (Or.inl rfl))
        (pss_cons (ps_set (i := 4) scMixed.nd rfl (Or.inl rfl) (pe_op op_modN (pe_op op_add (pe_op op_mul (pv 1) pe_int) (pe_op op_fdivN (pv 3) pe_int)) (pv 3)))
        (pss_cons (ps_for PassesOwn.never rfl (pi_list (pe_dget hu (pv 0) pe_str (fun _ _ => rfl))) (pg_name (i := 5) scMixed.nd rfl (Or.inl rfl))
          (pss_one (ps_set (i := 4) scMixed.nd rfl (Or.inl rfl) (pe_op op_modN (pe_op op_add (pe_op op_mul (pv 4) pe_int) (pe_callTy call_int1 (by rfl) T.int (by decide +kernel) (pa_cons (pv 5) pa_nil))) (pv 3)))))
        (pss_one (ps_set (i := 2) scMixed.nd rfl (Or.inl rfl) (pe_op op_add (pe_op op_mul (pv 2) pe_int) (pe_op op_modN (pe_op op_pow (pv 4) pe_int) (pv 3))))))))
      (pss_one (ps_ret (pv 2))))), ?_⟩
    obtain ⟨⟨r, t, hd⟩, ⟨la, hl, hll⟩, ⟨ce, hc, hcl⟩, hlc⟩ := id D
    walk_at "rd"
    have hd1 : ∀ x, upd H d (.dK (drawKvs l c r x)) d = some (.dK (drawKvs l c r x)) := fun x => upd_same
    refine ⟨_, dg_turn hd, _, rfl, _, dp_turn hd, _, dg_turn (hd1 _), .inl ⟨_, rfl, _, _, ⟨rfl, rfl⟩, ?_⟩⟩
    refine ⟨(by show 3 ≤ sizeLine; decide), fun p hp => ⟨p, rfl, ⟨_, SqL.of upd_same⟩, ?_⟩⟩
    have hpd : p ≠ d := fun e => by rw [e, hd1] at hp; cases hp
    refine for_list (K := K) (a := p) (xs := [V.int 2147483629, V.int 2147483587, V.int 2147483579]) (fun i σ H2 => ∃ (z tt : Int) (v3 v4 v5 : Option V), σ = [some (.ref d), some (.int tt), some (.int z), v3, v4, v5] ∧ Same (upd (upd H d (.dK (drawKvs l c r (t + 1)))) p (.lst [V.int 2147483629, V.int 2147483587, V.int 2147483579])) H2) ⟨_, _, _, _, _, rfl, Same.refl _⟩ (fun i σ H2 _ ⟨_, _, _, _, _, _, s2⟩ => SqL.of (s2 _ _ upd_same)) ?_ ?_
    · rintro i x σ H2 hx ⟨z, tt, v3, v4, v5, rfl, s2⟩
      obtain ⟨g, rfl, g0, g1⟩ : ∃ g : Int, x = V.int g ∧ 0 < g ∧ g < 2147483648 := by
        match i, hx with
        | 0, hx => exact ⟨_, (Option.some.inj hx).symm, by decide, by decide⟩
        | 1, hx => exact ⟨_, (Option.some.inj hx).symm, by decide, by decide⟩
        | 2, hx => exact ⟨_, (Option.some.inj hx).symm, by decide, by decide⟩
      have gn : g ≠ 0 := by omega
      have fm : ∀ y : Int, 0 ≤ y.fmod g ∧ y.fmod g < g := fun y => by
        rw [Int.fmod_eq_emod_of_nonneg _ (by omega)]
        exact ⟨Int.emod_nonneg _ gn, Int.emod_lt_of_pos _ g0⟩
      walk_at "rd"
      refine ⟨.inr trivial, ⟨by decide, by decide⟩, gn, ?_⟩
      have hd2 : H2 d = some (.dK (drawKvs l c r (t + 1))) := s2 _ _ (by rw [upd_ne hpd.symm]; exact hd1 _)
      have hc2 : H2 c = some (.lst (ce.map V.int)) := s2 _ _ (by rw [upd_ne (ne_of_none (by rw [upd_ne D.dc.symm]; exact hc) hp), upd_ne D.dc.symm]; exact hc)
      refine ⟨_, rfl, d, _, rfl, dg_cells hd2, c, rfl, ⟨_, SqL.of hc2⟩, for_list (K := K) (a := c) (xs := ce.map V.int) (fun i σ H3 => ∃ (b : Int) (v5 : Option V), σ = [some (.ref d), some (.int tt), some (.int z), some (.int g), some (.int b), v5] ∧ 0 ≤ b ∧ b < g ∧ H3 = H2) ⟨_, _, rfl, (fm _).1, (fm _).2, rfl⟩ (fun i σ H3 _ ⟨_, _, _, _, _, e⟩ => by rw [e]; exact SqL.of hc2) ?_ ?_⟩
      · rintro i x σ H3 hx ⟨b, v5, rfl, b0, b1, rfl⟩
        obtain ⟨y, rfl⟩ := get_map_int hx
        walk_at "rd"
        exact ⟨.inr trivial, gn, _, _, ⟨rfl, rfl⟩, (fm _).1, (fm _).2⟩
      · rintro σ H3 ⟨b, v5, rfl, b0, b1, rfl⟩
        walk_at "rd"
        exact ⟨.inr trivial, by show b.natAbs < 18446744073709551616; omega, gn, _, _, _, _, _, ⟨rfl, rfl, rfl, rfl, rfl⟩, s2⟩
    · rintro σ H2 ⟨z, tt, v3, v4, v5, rfl, s2⟩
      walk_at "rd"
      have hd2 : H2 d = some (.dK (drawKvs l c r (t + 1))) := s2 _ _ (by rw [upd_ne hpd.symm]; exact hd1 _)
      have up : ∀ b o, H b = some o → b ≠ d → H2 b = some o := fun b o e hb => s2 _ _ (by
        have q : upd H d (.dK (drawKvs l c r (t + 1))) b = some o := by rw [upd_ne hb]; exact e
        rw [upd_ne (ne_of_none q hp)]; exact q)
      exact k z H2 ⟨⟨r, t + 1, hd2⟩, ⟨la, up _ _ hl D.dl.symm, hll⟩, ⟨ce, up _ _ hc D.dc.symm, hcl⟩, hlc⟩ up
/-! ### data of ints -/
theorem dpAll_int {H : Hp} : ∀ ns : List Int, DpAll K H (ns.map V.int) (ns.map PyData.int)
  | [] => .nil
  | _ :: r => .cons (.int _) (dpAll_int r)
theorem can_ints : ∀ ns : List Int, PyData.canLayAll0 (ns.map PyData.int) = true
  | [] => by simp [PyData.canLayAll0]
  | _ :: r => by simp [PyData.canLayAll0, PyData.canLay0, can_ints r]
theorem depth_ints : ∀ ns : List Int, PyData.depthAll (ns.map PyData.int) = 0
  | [] => by simp [PyData.depthAll]
  | _ :: r => by simp [PyData.depthAll, PyData.depth, depth_ints r]
theorem shaped_ints (ns : List Int) : SeqAt.shaped (.list (ns.map PyData.int)) = true := by
  simp [SeqAt.shaped, PyData.canLay0, PyData.depth, can_ints, depth_ints]
theorem shaped_tints (ns : List Int) : SeqAt.shaped (.tuple (ns.map PyData.int)) = true := by
  simp [SeqAt.shaped, PyData.canLay0, PyData.depth, can_ints, depth_ints]
theorem eqvAll_ints : ∀ ns ms : List Int, PyData.eqvAll (ns.map PyData.int) (ms.map PyData.int) = decide (ns = ms)
  | [], [] => by simp [PyData.eqvAll]
  | [], _ :: _ => by simp [PyData.eqvAll]
  | _ :: _, [] => by simp [PyData.eqvAll]
  | a :: r, b :: q => by
    simp only [List.map_cons, PyData.eqvAll, PyData.eqv, eqvAll_ints r q, List.cons.injEq, Bool.decide_and]
    rfl
theorem eqv_ints (ns ms : List Int) : PyData.eqv (.list (ns.map PyData.int)) (.list (ms.map PyData.int)) = decide (ns = ms) := by
  rw [← eqvAll_ints]; simp [PyData.eqv]
def spTake (K : PySem.W.Frag) : Sp := fun vs H Q _ => ∃ (d l c : Addr) (m : Int), vs = [.ref d, .int m] ∧ DrawAt H d l c ∧ 0 < m ∧ m < 2 ^ 200 ∧
  ∀ (r : Int) (H' : Hp), 0 ≤ r → r < m → DrawAt H' d l c → KeepD H H' d l → Q (.int r) H'
theorem scTake : FnScope ["draw", "amount", "found"] ["draw", "amount"] (defScope sTake) := ⟨rfl, rfl, rfl, by decide +kernel, rfl, by decide +kernel, by decide +kernel⟩
theorem ok_take {f fM : Addr} {fd fdM : FuncData} (F : Fun K "_law_take" "_law_take" sTake f fd) (T : PreG mg) (GM : FnOk P w K mg base CX0 1 fM fdM ["draw"] (spMixed K)) (kM : PySem.W.keepIn K (.ref fM) = true) (bM : Binds K fdM ["draw"] []) (mM : mg "_law_mixed" = some (.ref fM)) : FnOk P w K mg base CX0 2 f fd ["draw", "amount"] (spTake K) := by
  refine F.ok scTake (fun vs H Q E h => ?_) (fun cdv A outer s H vs Q E hr h => ?_)
  · obtain ⟨d, l, c, m, rfl, _⟩ := h
    rfl
  · obtain ⟨d, l, c, m, rfl, D, m0, m1, k⟩ := h
    have hu := hu_of hr
    refine ⟨_, C8.pss_cut (ps_if (pt_cmpR op_eq (pe_dget hu (pv 0) pe_str (fun _ _ => rfl)) pe_int (nomark _))
        (pss_one (ps_dput hu (pv 0) pe_str (pe_ifExp (pt_cmpR (op_neD hr.units) (pe_dget hu (pv 0) pe_str (fun _ _ => rfl)) (pe_lst pa_nil) (nomark _))
          (pe_bm PySem.F.plainAttrs_list PySem.F.slot_list_pop PySem.F.type_list_pop mt_popAt (pe_dget hu (pv 0) pe_str (fun _ _ => rfl)) (pa_cons pe_int pa_nil))
          (pe_call GM hr rfl mM kM bM .nil pass0 (pa_cons (pv 0) pa_nil))) rfl)) pss_nil)
      (pss_cons (ps_set (i := 2) scTake.nd rfl (Or.inl rfl) (pe_op op_modN (pe_callTy call_int1 (by rfl) T.int (by decide +kernel) (pa_cons (pe_dget hu (pv 0) pe_str (fun _ _ => rfl)) pa_nil)) (pv 1)))
      (pss_cons (ps_dput hu (pv 0) pe_str (pe_op op_fdivW (pe_callTy call_int1 (by rfl) T.int (by decide +kernel) (pa_cons (pe_dget hu (pv 0) pe_str (fun _ _ => rfl)) pa_nil)) (pv 1)) rfl)
      (pss_one (ps_ret (pv 2))))), ?_⟩
    -- behind the if: the draw again, all else as it was
    refine ⟨fun σ' H' => σ' = [some (.ref d), some (.int m), none] ∧ DrawAt H' d l c ∧ KeepD H H' d l, ?_, ?_⟩
    · have key : ∀ H', DrawAt H' d l c → KeepD H H' d l → ([some (V.ref d), some (V.int m), none] : List (Option V)) = [some (.ref d), some (.int m), none] ∧ DrawAt H' d l c ∧ KeepD H H' d l := fun H' a b => ⟨rfl, a, b⟩
      obtain ⟨⟨r, t, hd⟩, ⟨la, hl, hll⟩, ⟨ce, hc, hcl⟩, hlc⟩ := id D
      walk_at "rd"
      refine ⟨_, dg_rest hd, rfl, ?_⟩
      refine ite2 (fun _ => ?_) (fun _ => (key H D (KeepD.refl _ _ _)).2)
      refine ⟨_, dg_large hd, by decide, fun q hq => ⟨.list (la.map .int), .list [], .lst (SqL.of (by rw [upd_ne (ne_of_none hl hq)]; exact hl)) (dpAll_int la), .lst (SqL.of upd_same) .nil, shaped_ints la, by decide, ?_⟩⟩
      rw [show PyData.eqv (.list (la.map .int)) (.list []) = decide (la = []) from eqv_ints la []]
      have hd1 : (upd H q (.lst [])) d = some (.dK (drawKvs l c r t)) := by rw [upd_ne (ne_of_none hd hq)]; exact hd
      have hl1 : (upd H q (.lst [])) l = some (.lst (la.map V.int)) := by rw [upd_ne (ne_of_none hl hq)]; exact hl
      have s1 : Same H (upd H q (.lst [])) := fun b o e => by rw [upd_ne (ne_of_none e hq)]; exact e
      cases la with
      | nil =>
        refine ⟨false, rfl, ?_⟩
        rw [if_neg Bool.false_ne_true]
        refine ⟨d, l, c, rfl, D.same s1, fun z H2 D2 k2 => ?_⟩
        obtain ⟨⟨r2, t2, hd2⟩, ⟨la2, hl2, hll2⟩, ⟨ce2, hc2, hcl2⟩, _⟩ := id D2
        refine ⟨_, dp_rest hd2, (key _ ⟨⟨_, _, upd_same⟩, ⟨la2, by rw [upd_ne D.dl.symm]; exact hl2, hll2⟩, ⟨ce2, by rw [upd_ne D.dc.symm]; exact hc2, hcl2⟩, hlc⟩ fun b o e h1 h2 => ?_).2⟩
        rw [upd_ne h1]
        exact k2 _ _ (s1 _ _ e) h1
      | cons y ys =>
        refine ⟨true, rfl, ?_⟩
        rw [if_pos rfl]
        refine ⟨_, rfl, _, _, rfl, dg_large hd1, .inl ⟨rfl, _, SqL.of hl1⟩, l, _, 0, 0, _, rfl, rfl, hl1, by decide, by decide, ?_, rfl, ?_⟩
        · rw [List.length_map, List.length_cons]
          unfold seqIndex?
          simp
        have hd2 : upd (upd H q (.lst [])) l (.lst (((y :: ys).map V.int).eraseIdx 0)) d = some (.dK (drawKvs l c r t)) := by rw [upd_ne D.dl]; exact hd1
        have hc1 : (upd H q (.lst [])) c = some (.lst (ce.map V.int)) := s1 _ _ hc
        refine ⟨_, dp_rest hd2, (key _ ⟨⟨_, _, upd_same⟩, ⟨ys, ?_, ?_⟩, ⟨ce, ?_, hcl⟩, hlc⟩ fun b o e h1 h2 => ?_).2⟩
        · rw [upd_ne D.dl.symm]; exact upd_same
        · rw [List.length_cons] at hll; omega
        · rw [upd_ne D.dc.symm, upd_ne hlc.symm]; exact hc1
        · rw [upd_ne h1, upd_ne h2]; exact s1 _ _ e
    · rintro σ' H' ⟨rfl, D', k'⟩
      obtain ⟨⟨r, t, hd⟩, ⟨la, hl, hll⟩, ⟨ce, hc, hcl⟩, hlc⟩ := id D'
      walk_at "rd"
      have fm : 0 ≤ r.fmod m ∧ r.fmod m < m := by
        rw [Int.fmod_eq_emod_of_nonneg _ (by omega)]
        exact ⟨Int.emod_nonneg _ (by omega), Int.emod_lt_of_pos _ m0⟩
      refine ⟨_, dg_rest hd, .inl ⟨_, rfl, by omega, _, dg_rest hd, .inl ⟨_, rfl, wide_div (b := 200) m0 (by omega) (by decide) (by decide), _, dp_rest hd, ?_⟩⟩⟩
      exact k _ _ fm.1 fm.2 ⟨⟨_, _, upd_same⟩, ⟨la, by rw [upd_ne D'.dl.symm]; exact hl, hll⟩, ⟨ce, by rw [upd_ne D'.dc.symm]; exact hc, hcl⟩, hlc⟩ (k'.trans fun b o e h1 h2 => by rw [upd_ne h1]; exact e)
def spPick (K : PySem.W.Frag) : Sp := fun vs H Q _ => ∃ (d l c p : Addr) (xs : List V), vs = [.ref d, .ref p] ∧ DrawAt H d l c ∧ H p = some (.lst xs) ∧ p ≠ l ∧ 0 < xs.length ∧ xs.length ≤ 2 ^ 100 ∧
  ∀ (i : Nat) (x : V) (H' : Hp), xs[i]? = some x → DrawAt H' d l c → KeepD H H' d l → Q x H'
theorem scPick : FnScope ["draw", "some"] ["draw", "some"] (defScope sPick) := ⟨rfl, rfl, rfl, by decide +kernel, rfl, by decide +kernel, by decide +kernel⟩
theorem ok_pick {f fM : Addr} {fd fdM : FuncData} (F : Fun K "_law_pick" "_law_pick" sPick f fd) (T : PreG mg) (GM : FnOk P w K mg base CX0 2 fM fdM ["draw", "amount"] (spTake K)) (kM : PySem.W.keepIn K (.ref fM) = true) (bM : Binds K fdM ["draw", "amount"] []) (mM : mg "_law_take" = some (.ref fM)) : FnOk P w K mg base CX0 3 f fd ["draw", "some"] (spPick K) := by
  refine F.ok scPick (fun vs H Q E h => ?_) (fun cdv A outer s H vs Q E hr h => ?_)
  · obtain ⟨d, l, c, p, xs, rfl, _⟩ := h
    rfl
  · obtain ⟨d, l, c, p, xs, rfl, D, hp, hpl, h0, hz, k⟩ := h
    have hu := hu_of hr
    refine ⟨_, pss_one (ps_ret (pe_ix ix_list (pv 1) (pe_call GM hr rfl mM kM bM .nil pass0 (pa_cons (pv 0) (pa_cons (pe_callB call_len_seq (by rfl) T.len PySem.boot_len (pa_cons (pv 1) pa_nil)) pa_nil))) (fun _ _ => rfl))), ?_⟩
    obtain ⟨⟨r, t, hd⟩, ⟨la, hl, hll⟩, ⟨ce, hc, hcl⟩, hlc⟩ := id D
    have hpd : p ≠ d := ne_of hp hd (by intro z; cases z)
    refine ⟨_, rfl, _, rfl, _, rfl, p, xs, rfl, .inl (SqL.of hp), ?_⟩
    refine ⟨d, l, c, _, rfl, D, by omega, by omega, fun r2 H2 r0 r1 D2 k2 => ?_⟩
    obtain ⟨j, rfl⟩ : ∃ j : Nat, r2 = (j : Int) := ⟨r2.toNat, by omega⟩
    have hj : xs[j]? = some (xs[j]'(by omega)) := List.getElem?_eq_getElem _
    exact ⟨p, xs, _, _, rfl, rfl, SqL.of (k2 _ _ hp hpd hpl), atI_nat hj, k j _ H2 hj D2 k2⟩
end
end WW
end

section
set_option Elab.async false
set_option linter.all false
set_option maxRecDepth 100000
set_option maxHeartbeats 4000000
/-! Defs that are called where no text of a thing is being made (guards = some []): so repr(thing) may be asked in them. -/
namespace WG
open PySem PySem.Spec PyProof.Rows L2
/-- as FnOk, for calls under no guard -/
structure FnG (P : Program) (w : World) (K : PySem.W.Frag) (mg : Str → Option Value) (base : Heap)
    (CX : CXT) (k : Nat) (f : Addr) (fd : FuncData) (ps : List Str) (sp : Sp) : Prop where
  len : ∀ vs H Q E, sp vs H Q E → vs.length = ps.length
  run : ∀ (A : Around) (outer : List Env) (s : Shared) (H : Hp) (args : Args) (us : List Value) (vs : List V)
    (Q : VK) (E : XK), Room k A → A.guards = some [] → Env0 P w K mg base A outer s H →
    BindsTo s fd args (ps.zip us) → Vals vs us → sp vs H Q E →
    codeAny (model P w) A (.call (.ref f) args) (CR CX outer P w H s Q E) s
section
variable {P : Program} {w : World} {K : PySem.W.Frag} {mg : Str → Option Value} {base : Heap} {CX : CXT}
variable {k : Nat} {f : Addr} {fd : FuncData} {ps : List Str} {sp : Sp}
theorem FnG.of (F : FnOk P w K mg base CX k f fd ps sp) : FnG P w K mg base CX k f fd ps sp :=
  ⟨F.len, fun A outer s H args us vs Q E hr _ e0 hb hv hs => F.run A outer s H args us vs Q E hr e0 hb hv hs⟩
theorem FnG.mono {j : Nat} (F : FnG P w K mg base CX j f fd ps sp) (h : j ≤ k) : FnG P w K mg base CX k f fd ps sp :=
  ⟨F.len, fun A outer s H args us vs Q E hr => F.run A outer s H args us vs Q E (hr.mono h)⟩
/-- a def by its body, which may ask for texts -/
theorem okG {x qual : Str} {st : Stmt} {N : List Str} (F : Fun K x qual st f fd) (S : FnScope N ps (defScope st))
    (len : ∀ vs H Q E, sp vs H Q E → vs.length = ps.length)
    (body : ∀ (cdv : Value) (A : Around) (outer : List Env) (s : Shared) (H : Hp) (vs : List V) (Q : VK) (E : XK),
      Room k (A.deeper (envOfC qual (defScope st) s.heap.objs.size f cdv)) →
      (A.deeper (envOfC qual (defScope st) s.heap.objs.size f cdv)).guards = some [] → sp vs H Q E →
      ∃ t, PSs (cxOf CX P w K mg base N qual (defScope st) f cdv A outer s H E).nox (defBody st) t ∧
        t { nx := fun _ H' => Q .non H', rt := Q } (start N vs) H) :
    FnG P w K mg base CX (k + 1) f fd ps sp := by
  obtain ⟨oc, od, kV, doc, pm, an, cdv, ct, osl, rfl, lk, hcd⟩ := F.ex
  refine ⟨len, fun A outer s H args us vs Q E hr hga e0 hb r hsp => ?_⟩
  have hl := len _ _ _ _ hsp
  have KX : K.In s.heap := e0.mod.kin.keeps
    fun b o e => (e0.bs b o e).1
  have lim : s.heap.NoLimit := e0.mod.nolimit.keeps
    fun b o e => (e0.bs b o e).1
  have hkind : ∀ y ∈ ps.zip us, (defScope st).names.lookup y.1 = some .local ∨
      ((defScope st).names.lookup y.1 = some .cell ∧
        ((cellsFrom (s.heap.objs.size + 1) (defScope st).names []).lookup y.1).isSome = true) := by
    rintro ⟨n, v⟩ hy
    rcases S.par n (List.of_mem_zip hy).1 with q | q
    · exact .inl q
    · exact .inr ⟨q, PySem.W.cellsFrom_some _ _ _ (.inl q)⟩
  refine codeAny_call_function hr.depth (KX _ _ lk) rfl S.co S.gen rfl
    (PySem.W.codeRec_of KX hcd) (hb _ _ _ _ ?_)
  refine wpAny_newFunctionEnv_cells S.kind hkind
    fun env he s1 x => ?_
  subst he
  refine ⟨lim.keeps x.toInCall.keep,
    codeAny_func ?_⟩
  obtain ⟨t, ht, hq⟩ := body cdv A outer s H vs Q E (hr.deeper _) hga hsp
  have I := inv_start (CX := CX) (E := E) S hr.hd e0 hl r x
  refine wpAny_mono (ht.nox.run [] s1 (start N vs) H _ I hq)
    (fun fl s' hs => ?_) fun e s' hs => hs
  have fin : ∀ {σ' : L2.St} {H' : Hp} {v : V} {u : Value},
      Inv (cxOf CX P w K mg base N qual (defScope st) f cdv A outer s H E) [] σ' H' s' →
      RelV v u → Q v H' → CE outer P w H s Q u s' :=
    fun J rv q => ⟨_, _, J.os, J.bare, J.base, J.hok, rv, q⟩
  cases fl with
  | ret u =>
    obtain ⟨v, σ', H', J, rv, q⟩ := hs
    exact fin J rv q
  | next =>
    obtain ⟨σ', H', J, q⟩ := hs
    exact fin (v := V.non) (u := Value.none) J rfl q
  | brk =>
    obtain ⟨_, _, _, q⟩ := hs
    exact False.elim q
  | cont =>
    obtain ⟨_, _, _, q⟩ := hs
    exact False.elim q
end
section
variable {X : Cx} {CX : CXT} {k : Nat} {f : Addr} {fd : FuncData} {ps : List Str} {sp : Sp} {E : XK} {x : Str}
variable {ds : List Value} {dvs : List V} {p pos : Pos} {e : Expr} {es : List Expr} {t : TA}
/-- f(e, ..), under no guard -/
theorem pe_callG (F : FnG X.prog X.w X.K X.mg X.base CX k f fd ps sp) (hgu : X.A.guards = some []) (hr : Room k X.A) (hg : Gl X x)
    (hm : X.mg x = some (.ref f)) (hk : PySem.W.keepIn X.K (.ref f) = true) (hb : Binds X.K fd ps ds) (hd : Vals dvs ds)
    (hx : Passes CX X E) (ha : PA X (e :: es) t) (hdb : (x == ("__debug__" : Str)) = false := by decide)
    (he : starEach (e :: es) X.env = (false, eval e X.env) :: starEach es X.env := by rfl)
    (hpl : (backTo pos (starEach es X.env)).any (·.1) = false := by rfl) :
    PE X (.Call (.Name x p) (e :: es) [] pos) (tCall sp dvs E t) := by
  refine ⟨fun pins s σ H Q I h => ?_⟩
  refine wpAny_Call_Name_kw (ld_glob I hg hm ?_ hdb)
  refine PySem.W.callWith_K (h₀ := X.base) I.ok.mod.kin hk
    (thn (ha.run pos pins s σ H _ I h) fun us s1 ⟨vs, H1, I1, r, q⟩ => ⟨I1.kIn, ?_⟩) he hpl
  have r2 : Vals (vs ++ dvs) (us ++ ds) := r.append hd
  have hl : (us ++ ds).length = ps.length := by
    rw [← r2.length]
    exact F.len _ _ _ _ q
  refine wpAny_call (codeAny_mono (F.run X.A X.stack s1 H1 ⟨us, []⟩ (us ++ ds) (vs ++ dvs) Q E hr hgu I1.env0
    (hb s1 us I1.kIn hl) r2 q) fun r s' hq => ?_)
  cases r with
  | error er => exact hx pins σ H1 s1 er s' I1 hq
  | ok fl =>
    cases fl with
    | ret u => exact I1.after hq
    | next => exact False.elim hq
    | brk => exact False.elim hq
    | cont => exact False.elim hq
/-! ### texts of things -/
/-- what stands at v reads as d -/
def Rdb (X : Cx) (H : Hp) (v : V) (d : PyData) : Prop :=
  ∀ (pins : List (Addr × Obj)) (σ : L2.St) (s : Shared), Inv X pins σ H s → ∀ u, RelV v u →
    ∃ as, Reads s.heap u d as ∧ (d.hasDict = true → sysModules ∉ as)
theorem rdb_dp {H : Hp} {v : V} {d : PyData} (h : Dp X.K H v d) (hn : d.hasDict = false) : Rdb X H v d :=
  fun pins σ s I u r => by
    obtain ⟨as, q⟩ := Dp.reads I d v u h r
    exact ⟨as, q, fun z => by rw [hn] at z; cases z⟩
/-- repr of a list or a tuple -/
def rRepr (X : Cx) : List V → Hp → VK → Prop := fun xs H Q => ∃ (a : Addr) (d : PyData), xs = [.ref a] ∧ Rdb X H (.ref a) d ∧
  d.showable = true ∧ d.depth ≤ 60 ∧ d.shown.length ≤ sizeLine ∧ Q (.str d.shown) H
theorem call_repr (hgu : X.A.guards = some []) (hu : X.A.units + 64 < cLine) : CallR X (.builtin "repr") (rRepr X) := by
  intro pins s σ H xs us Q I r h
  obtain ⟨a, d, rfl, hd, hs, hdp, hz, q⟩ := h
  obtain ⟨u, rfl, ru⟩ := vals1 r
  obtain ⟨as, rd, hm⟩ := hd pins σ s I u ru
  cases (show u = Value.ref a from ru)
  exact repr_of_reads' rd hs hm hgu (by omega) (fun _ _ z => z)
    (fun h' u' tk hk => ⟨.str d.shown, H, I.kept (t' := tk) hk, ⟨u', rfl⟩, q⟩) hz
end
end WG
end

section
set_option Elab.async false
set_option linter.all false
set_option maxRecDepth 100000
set_option maxHeartbeats 4000000
/-! The law's own call, under no guard. -/
namespace WG
open PySem PySem.Spec PyProof.Rows L2
section
variable {P : Program} {w : World} {K : PySem.W.Frag} {mg mb : Str → Option Value} {k : Nat} {fa a : Addr} {fd : FuncData}
variable {x : Str} {sp : Sp} {s₁ : Shared} {vs : List Value} {ns : List Int}
/-- what the call is wanted to leave -/
abbrev LawEnd (s₁ : Shared) (r : Result) (s' : Shared) : Prop :=
  r = .ok (.ret (.bool true)) ∧ OldK s₁.heap s'.heap ∧ s'.os = s₁.os ∧ AllBare s'.gens
theorem law_core (KX : K.In s₁.heap) (hns : s₁.heap.Ns mainGlobals mg) (hb : s₁.heap.Ns builtinsNs mb)
    (hbb : ∀ x : Str, x ≠ "__name__" → mb x = bootBuiltins x) (hlim : s₁.heap.NoLimit) (hg : s₁.gens = #[])
    (ha : s₁.heap.get? a = some { cls := .type "list", data := .seq vs.toArray }) (hr : Room k callerA)
    (F : ∀ base : Heap, K.In base → base.Ns mainGlobals mg → FnG P w K mg base CX0 k fa fd [x] sp)
    (hbind : ∀ (s : Shared) (u : Value), BindsTo s fd ⟨[u], []⟩ [(x, u)]) (H : Hp) (hO : Only H)
    (hsp : sp [.ref a] H (fun v _ => v = .bl true) fun _ _ _ => False) (hok : HOk P w H s₁.heap)
    (hA : ∀ b, H b ≠ none → b = a) (hK : H a ≠ none → K.lookup a = none) :
    codeAny (model P w) callerA (.call (.ref fa) ⟨[.ref a], []⟩) (LawEnd s₁) s₁ := by
  have nd : ∀ {b : Addr} {o : Obj} {es : Array DictEntry} {ep : Nat},
      s₁.heap.get? b = some o → o.data = .dict es ep → H b = none := by
    intro b o es ep e d
    cases q : H b with
    | none => rfl
    | some u =>
      have e' : b = a := hA b (by rw [q]; simp)
      subst e'
      rw [ha] at e
      cases e
      have d' : Data.seq vs.toArray _ = Data.dict es ep := d
      cases d'
  have nsK : ∀ {b : Addr} {m : Str → Option Value}, s₁.heap.Ns b m → (hidT s₁.heap H).Ns b m := by
    rintro b m ⟨o, es, ep, e, d, r⟩
    exact ⟨o, es, ep, hidT_get e (nd e d), d, r⟩
  have hKb : K.In (hidT s₁.heap H) := by
    intro b o e
    refine hidT_get (KX b o e) ?_
    cases q : H b with
    | none => rfl
    | some u =>
      have e' : b = a := hA b (by rw [q]; simp)
      subst e'
      rw [hK (by rw [q]; simp)] at e
      cases e
  have hM : Mod K mg (hidT s₁.heap H) := by
    obtain ⟨mc, h1, h2⟩ := hlim
    exact ⟨hKb, nsK hns, ⟨mb, nsK hb, hbb⟩, ⟨mc, nsK h1, h2⟩⟩
  have e0 : Env0 P w K mg (hidT s₁.heap H) callerA [] s₁ H :=
    { frames := rfl, mod := hM, bs := fun b o e => of_hidT e, bsz := Nat.le_of_eq (hidT_size _ _), funs := trivial,
      frf := fun b hb => absurd (show b ∈ ([] : List Addr) from hb) (by simp), hok := hok, bare := .of_eq hg }
  have run := (F _ hKb (nsK hns)).run callerA [] s₁ H ⟨[.ref a], []⟩ [.ref a] [.ref a] _ _ hr rfl e0
    (hbind s₁ (.ref a)) (.cons rfl .nil) hsp
  refine codeAny_mono run fun r s' h => ?_
  cases r with
  | error e => exact False.elim h
  | ok fl =>
    cases fl with
    | next => exact False.elim h
    | brk => exact False.elim h
    | cont => exact False.elim h
    | ret u =>
      obtain ⟨v, H', os, bare, un, hok', r', q⟩ := h
      have q' : v = .bl true := q
      subst q'
      obtain rfl : u = Value.bool true := r'
      refine ⟨rfl, OldK.of_keep ?_, os, bare⟩
      intro b o e
      cases q : H b with
      | none =>
        exact un.keep b o e q (fun z => absurd (show b ∈ ([] : List Addr) from z) (by simp)) (by simp)
      | some u =>
        rcases hO b with z | ⟨ob, xs, z⟩
        · rw [q] at z
          cases z
        · obtain ⟨e1, _⟩ := hok b _ z
          obtain ⟨e2, _⟩ := hok' b _ (un.frzs b ob _ z)
          rw [e] at e1
          cases e1
          exact e2
theorem law_end (KX : K.In s₁.heap) (hns : s₁.heap.Ns mainGlobals mg) (hb : s₁.heap.Ns builtinsNs mb)
    (hbb : ∀ x : Str, x ≠ "__name__" → mb x = bootBuiltins x) (hlim : s₁.heap.NoLimit) (hg : s₁.gens = #[])
    (ha : s₁.heap.get? a = some { cls := .type "list", data := .seq vs.toArray }) (hi : IntsAre vs ns)
    (hl : ns.length ≤ sizeLine) (hr : Room k callerA)
    (F : ∀ base : Heap, K.In base → base.Ns mainGlobals mg → FnG P w K mg base CX0 k fa fd [x] sp)
    (hbind : ∀ (s : Shared) (u : Value), BindsTo s fd ⟨[u], []⟩ [(x, u)])
    (hsp : ∀ H : Hp, Only H → SqL K H a (ns.map V.int) → sp [.ref a] H (fun v _ => v = .bl true) fun _ _ _ => False) :
    codeAny (model P w) callerA (.call (.ref fa) ⟨[.ref a], []⟩) (LawEnd s₁) s₁ := by
  have rv := vals_ints hi
  have lv := hi.length
  cases hk : K.lookup a with
  | some o =>
    have e := KX a o hk
    rw [ha] at e
    cases e
    have hS : SqL K (fun _ => none) a (ns.map V.int) :=
      .inr ⟨_, vs.toArray, _, hk, rfl, rfl, rfl, by rw [List.size_toArray, lv]; exact hl, by simpa using rv⟩
    refine law_core KX hns hb hbb hlim hg ha hr F hbind (fun _ => none) (fun _ => .inl rfl) (hsp _ (fun _ => .inl rfl) hS) ?_ ?_ ?_
    · intro b u z
      have z' : (none : Option HO) = some u := z
      cases z'
    · exact fun b z => absurd rfl z
    · exact fun z => absurd rfl z
  | none =>
    let ob : Obj := { cls := .type "list", data := .seq vs.toArray }
    let H : Hp := fun b => if b = a then some (.frz ob (.lst (ns.map V.int))) else none
    have h1 : H a = some (.frz ob (.lst (ns.map V.int))) := if_pos rfl
    have h2 : ∀ b, b ≠ a → H b = none := fun b hb => if_neg hb
    have hO : Only H := by
      intro b
      by_cases hb : b = a
      · exact .inr ⟨_, _, by rw [hb]; exact h1⟩
      · exact .inl (h2 b hb)
    refine law_core KX hns hb hbb hlim hg ha hr F hbind H hO (hsp H hO (.inl (.inr ⟨ob, h1⟩))) ?_ ?_ fun _ => hk
    · intro b u z
      by_cases hb : b = a
      · subst hb
        rw [h1] at z
        cases z
        exact ⟨ha, by rw [List.length_map]; exact hl, vs, _, rv, ha⟩
      · rw [h2 b hb] at z
        cases z
    · intro b z
      by_cases hb : b = a
      · exact hb
      · exact absurd (h2 b hb) z
end
/-- the goal that k_head leaves, from the law's promise -/
theorem walkG {l : PySem.W.OpenLaw} {n k : Nat} {q : Program} {loose : List Str} {XP : (Str → Option Value) → Heap → Prop} {YP : World → Heap → Prop}
    {d : DefRec} {K : Params → PySem.W.Frag} {sp : PySem.W.Frag → Sp} {x : Str}
    (hn : l.most = some n) (hn2 : n ≤ sizeLine) (hdf : d.params.defaults = []) (hr : Room k callerA)
    (hY : ∀ (w : World) (h : Heap), YP w h → (K w.params).In h)
    (F : ∀ (w : World) (mg : Str → Option Value) (fa : Addr) (h : Heap), (K w.params).In h → h.Ns mainGlobals mg → mg d.name = some (.ref fa) →
      ∃ fd : FuncData, (∀ (s : Shared) (u : Value), BindsTo s fd ⟨[u], []⟩ [(x, u)]) ∧
        ∀ base : Heap, (K w.params).In base → base.Ns mainGlobals mg → FnG l.prog w (K w.params) mg base CX0 k fa fd [x] (sp (K w.params)))
    (hsp : ∀ (K : PySem.W.Frag) (H : Hp) (a : Addr) (ns : List Int), ns.length ≤ n → SqL K H a (ns.map V.int) →
      sp K [.ref a] H (fun v _ => v = .bl true) fun _ _ _ => False) :
    PySem.W.WalkO q loose XP YP l.row.toRowW d [] (fun f vs => PySem.call f vs) := by
  refine Att.attach_call hn hdf fun w s₀ s₁ mg mb fa o pm cd doc a vs ns G Y ho hd hcd hmg hobj hints hlen hg => ?_
  have KX := hY w _ Y
  obtain ⟨fd, hb, hF⟩ := F w mg fa _ KX G.T.g hmg
  exact law_end KX G.T.g G.T.b G.T.builtins G.T.nolimit hg hobj hints
    (Nat.le_trans hlen hn2) hr hF hb fun H _ hS => hsp _ H a ns hlen hS
end WG
end

section
set_option Elab.async false
set_option linter.all false
set_option maxRecDepth 100000
set_option maxHeartbeats 4000000
/-! Errors that are caught, kept under a name and looked at behind the except suite. -/
namespace WT
open PySem PySem.Spec PyProof.Rows L2
/-- an error that was caught: its class, its own dict -/
def Caught (cls : Value) (d : Option Addr) (a : Addr) : HO := .ext fun h => ∃ (oe : Obj) (vs : Array Value), h.get? a = some oe ∧ Zc cls d oe ∧ oe.data = .fields vs
theorem caught_ok {P : Program} {w : World} {H : Hp} {h : Heap} {a : Addr} {cls : Value} {d : Option Addr} {oe : Obj} {vs : Array Value} (e : h.get? a = some oe) (z : Zc cls d oe) (k : oe.data = .fields vs) :
    ObjOk P w H h a (Caught cls d a) :=
  ⟨⟨oe, vs, e, z, k⟩, ⟨oe, e⟩, fun h1 h2 ⟨o, us, e1, z1, k1⟩ st => ⟨o, us, st _ e1, z1, k1⟩⟩
theorem upd_keep {H : Hp} {a b : Addr} {o u : HO} (na : H a = none) (e : H b = some u) : upd H a o b = some u := by
  rw [upd_ne (ne_of_none e na)]
  exact e
section
variable {X : Cx} {pins : List (Addr × Obj)} {σ : L2.St} {H : Hp} {s : Shared}
/-- an error's object, new since the entry, is tracked from now on -/
theorem track {a : Addr} {cls : Value} {d : Option Addr} {oe : Obj} {vs : Array Value} (I : Inv X pins σ H s) (n0 : X.s_0.heap.get? a = none)
    (e : s.heap.get? a = some oe) (z : Zc cls d oe) (k : oe.data = .fields vs) (na : H a = none) (nL : a ≠ X.env.locals) (np : ∀ p ∈ X.pn ++ pins, p.1 ≠ a) :
    Inv X pins σ (upd H a (Caught cls d a)) s where
  ok := I.ok
  os := I.os
  bare := I.bare
  base := {
    keep := I.base.keep
    slot := I.base.slot
    free := fun b o q n m => by
      have hb : b ≠ a := fun h => by rw [h, n0] at q; cases q
      rw [upd_ne hb]
      exact I.base.free b o q n m
    there := I.base.there
    tups := fun b xs q => upd_keep na (I.base.tups b xs q)
    frzs := fun b o u q => upd_keep na (I.base.frzs b o u q)
    tbls := fun b ps q => by
      obtain ⟨more, m⟩ := I.base.tbls b ps q
      exact ⟨more, upd_keep na m⟩ }
  loc := I.loc
  cell := I.cell
  free := by
    rw [upd_ne (Ne.symm nL)]
    exact I.free
  freeC := fun x c q => by
    have hc : c ≠ a := fun h => by
      obtain ⟨v, o, ho, hd⟩ := I.cell x c q
      rw [h, e] at ho
      cases ho
      rw [k] at hd
      cases hd
    rw [upd_ne hc]
    exact I.freeC x c q
  pin := fun p hp => by
    obtain ⟨p1, p2, p3, p4, p5⟩ := I.pin p hp
    exact ⟨p1, by rw [upd_ne (np p hp)]; exact p2, p3, p4, p5⟩
  hok := fun b o q => by
    by_cases hb : b = a
    · subst hb
      rw [upd_same] at q
      cases q
      exact caught_ok e z k
    · rw [upd_ne hb] at q
      exact (I.hok b o q).stay (fun c v _ r => r) (fun c r => upd_keep na r) fun c xs r => upd_keep na r
  len := I.len
/-- into an except suite, nothing pinned -/
theorem toSuite (I : Inv X pins σ H s) (a : Addr) : Inv (X.suite a (X.pn ++ pins)) [] σ H s :=
  ⟨I.ok.suite a _, I.os, I.bare, I.base, I.loc, I.cell, I.free, I.freeC, fun p hp => I.pin p (by rwa [List.append_nil] at hp), I.hok, I.len⟩
theorem ofSuite {a : Addr} {pn' : List (Addr × Obj)} (I : Inv (X.suite a (X.pn ++ pins)) pn' σ H s) (ok : X.Ok) : Inv X pins σ H s :=
  ⟨ok, I.os, I.bare, I.base, I.loc, I.cell, I.free, I.freeC, fun p hp => I.pin p (List.mem_append_left _ hp), I.hok, I.len⟩
end
/-- what is wished of an error of the body: the clause takes it, and its suite runs with the error tracked -/
def goneE (i : Nat) (D : Ends) : Ends :=
  { nx := fun σ H => D.nx (σ.set i none) H, rt := D.rt, bk := fun σ H => D.bk (σ.set i none) H, ct := fun σ H => D.ct (σ.set i none) H }
def wErr (K : PySem.W.Frag) (c : Value) (n i : Nat) (ts : TS) (D : Ends) : WX := fun cls d σ H =>
  PySem.W.exmOne K cls c = some true ∧ (σ.length = n → ∀ a, H a = none → ts (goneE i D) (σ.set i (some (.ref a))) (upd H a (Caught cls d a)))
section
variable {X : Cx} {x n : Str} {c : Value} {i : Nat} {body suite : List Stmt} {b0 : Stmt} {np q1 q2 : Pos} {tb : WX → TS} {ts : TS}
/-- try: body, except x as n: suite; every error of the body is of x -/
theorem ps_try_err (hs : X.stack = X.env :: X.outer) (hf : X.env.frame = some X.env.locals) (hx : X.ex = []) (hN : X.N.Nodup) (hi : X.N[i]? = some n)
    (hln : X.env.kindOf n = some .local) (hc : Names X x c)
    (hb : ∀ (W : WX) (pn : List (Addr × Obj)) (xe : Value → Shared → Prop), Takes (X.tr pn xe) W → PSs (X.tr pn xe) body (tb W))
    (hsu : ∀ (a : Addr) (pn : List (Addr × Obj)), PSs (X.suite a pn) (b0 :: suite) ts) :
    PS X (.Try body [.ExceptHandler (some (.Name x np)) (some n) (b0 :: suite) q2] [] [] q1) (fun D σ H => tb (wErr X.K c X.N.length i ts D) D σ H) := by
  refine ⟨fun pins s σ H D I h => ?_⟩
  have ok := I.ok
  have hfr : X.A.frames = some (X.env :: X.outer) := ok.frames.trans (congrArg some hs)
  refine wpAny_Try_except ?_
  refine wpAny_mono ((hb (wErr X.K c X.N.length i ts D) (X.pn ++ pins)
    (fun e t1 => wpAny (model X.prog X.w) X.A (noteFrame e X.env)
      (fun _ t2 => wpAny (model X.prog X.w) X.A (setFlight e none)
        (fun _ t3 => wpAny (model X.prog X.w) X.A (handleBy e X.env [.ExceptHandler (some (.Name x np)) (some n) (b0 :: suite) q2]) (SP X pins D) X.xe t3)
        X.xe t2) X.xe t1) (fun u t xx => ?_)).run [] s σ H D (I.toTry _) h) (fun f t hsp => ?_) (fun _ _ z => z)
  · obtain ⟨a, B, sI, pins', σ', H', cls, d, rfl, J0, nb, up, sky, na, os, ag, hb1, hyes⟩ := xx
    have J : Inv X pins σ' H' sI := J0.ofTry ok
    have sky1 : Sky B (X.env :: X.outer) a (Zc cls d) X.env.locals t.heap := hs ▸ sky
    show wpAny (model X.prog X.w) X.A (noteFrame (.ref a) X.env) _ _ _
    refine Sky.land Zc.steady hfr hf sky1 fun g3 fl3 up3 => ?_
    have J3 : Inv X pins σ' H' { t with heap := g3 } := J.landed nb fl3.1 (up.trans up3) os ag
    obtain ⟨oe3, vs3, he3, hz3, hd3⟩ := fl3.there
    have far : a ∉ frs (X.env :: X.outer) := fun hm => by
      obtain ⟨_, o1, e1, nf⟩ := fl3.2.2.1.mem hm
      rw [he3] at e1
      cases e1
      exact nf _ hd3
    have nL : a ≠ X.env.locals := fun z => far (List.mem_filterMap.mpr ⟨X.env, List.mem_cons_self, by rw [hf, z]⟩)
    have nI : sI.heap.get? a = none := by
      cases q : sI.heap.get? a with
      | none => rfl
      | some o =>
        have z := nb a o q (hs ▸ far)
        rw [fl3.2.1] at z
        cases z
    have n0 : X.s_0.heap.get? a = none := by
      cases q : X.s_0.heap.get? a with
      | none => rfl
      | some o =>
        obtain ⟨o1, z⟩ := J.base.there a o q (by rw [hx]; simp)
        rw [nI] at z
        cases z
    have npin : ∀ p ∈ X.pn ++ pins, p.1 ≠ a := fun p hp z => by
      have w := (J.pin p hp).1
      rw [z, nI] at w
      cases w
    have S3 := toSuite J3 a
    refine wpAny_handleBy_cons (codeAny_handlers_test ?_) (by intro q; cases q)
    have LT : PySem.W.Looks (model X.prog X.w) g3 (typeOf (.ref a)) cls := fun A Q E s1 k q => wpAny_typeOf_ref (k _ _ he3) (by rw [hz3.1]; exact q)
    have LM := PySem.W.exm_one (M := model X.prog X.w) (J3.kIn) LT hb1
    have test : ∀ {Q : Value → Shared → Prop} {E : Value → Shared → Prop}, Q c { t with heap := g3 } →
        wpAny (model X.prog X.w) (X.A.mark (some (.ref a))) (eval (.Name x np) X.env) Q E { t with heap := g3 } := by
      intro Q E q
      obtain ⟨hg, hdbg, hm | ⟨hm, hv, hnn⟩⟩ := hc
      · exact ld_glob (X := X.suite a (X.pn ++ pins)) S3 hg hm q hdbg
      · exact ld_blt (X := X.suite a (X.pn ++ pins)) S3 hg hm hv q hnn hdbg
    refine test (LM.here ?_)
    refine codeAny_handlers_suite_as ?_
    refine HandSPX.lands_againZ fl3 fun g4 fl4 up4 => ?_
    have J4 : Inv X pins σ' H' { t with heap := g4 } := J.landed nb fl4.1 ((up.trans up3).trans up4) os ag
    obtain ⟨oe4, vs4, he4, hz4, hd4⟩ := fl4.there
    have S4 := toSuite (track J4 n0 he4 hz4 hd4 na nL npin) a
    refine store_ok (X := X.suite a (X.pn ++ pins)) (v := .ref a) S4 hN hi (.inl hln) rfl (fun s5 S5 => ?_) (.inr hln)
    refine wpAny_mono ((hsu a (X.pn ++ pins)).run [] s5 _ _ _ S5 (hyes J.len a na)) (fun f s6 hsp => ?_) (fun _ _ z => False.elim z)
    have fin : ∀ {σ6 : L2.St} {H6 : Hp} {Q : Shared → Prop}, Inv (X.suite a (X.pn ++ pins)) [] σ6 H6 s6 → (∀ s7, Inv X pins (σ6.set i none) H6 s7 → Q s7) →
        wpAny (model X.prog X.w) X.A (do bindName X.env n .none; unbindBehindTheSuite X.env n q2) (fun _ s7 => Q s7) X.xe s6 :=
      fun S6 hq => gone_ok (ofSuite S6 ok) hN hi hln hq
    cases f with
    | next =>
      obtain ⟨σ6, H6, S6, r6⟩ := hsp
      exact fin S6 fun s7 J7 => ⟨_, _, J7, r6⟩
    | brk =>
      obtain ⟨σ6, H6, S6, r6⟩ := hsp
      exact fin S6 fun s7 J7 => ⟨_, _, J7, r6⟩
    | cont =>
      obtain ⟨σ6, H6, S6, r6⟩ := hsp
      exact fin S6 fun s7 J7 => ⟨_, _, J7, r6⟩
    | ret u =>
      obtain ⟨v6, σ6, H6, S6, rv6, r6⟩ := hsp
      exact fin S6 fun s7 J7 => ⟨_, _, _, J7, rv6, r6⟩
  · cases f with
    | next =>
      obtain ⟨σ1, H1, J1, r1⟩ := hsp
      exact wpAny_execs_nil ⟨σ1, H1, J1.ofTry ok, r1⟩
    | brk =>
      obtain ⟨σ1, H1, J1, r1⟩ := hsp
      exact ⟨σ1, H1, J1.ofTry ok, r1⟩
    | cont =>
      obtain ⟨σ1, H1, J1, r1⟩ := hsp
      exact ⟨σ1, H1, J1.ofTry ok, r1⟩
    | ret u =>
      obtain ⟨v1, σ1, H1, J1, rv1, r1⟩ := hsp
      exact ⟨v1, σ1, H1, J1.ofTry ok, rv1, r1⟩
end
/-! ### what is caught, looked at -/
/-- what an own error class says, so that instances can be asked -/
structure AskE (K : PySem.W.Frag) (C : Addr) : Prop where
  cl : (PySem.W.clsIn K C).isSome = true
  ga : PySem.W.findIn K (.ref C) "__getattribute__" = some (some (.builtin "BaseException.__getattribute__"))
  gt : PySem.W.findIn K (.ref C) "__getattr__" = some none
  sb : PySem.W.subIn K (.ref C) (.type "BaseException") = some true
  ca : PySem.W.findIn K (.ref C) "__class__" = some (some (.builtin "object.__class__"))
  cg : PySem.W.specialIn K (.builtin "object.__class__") "__get__" = some (some (.builtin "getset_descriptor.__get__"))
  ct : PySem.W.takesIn K (.builtin "object.__class__") = some true
  cm : PySem.W.mroIn K C (.type "object") = some true
inductive ErrC (H : Hp) (a C : Addr) : Option (Str × V) → Prop where
  | bare (h : H a = some (Caught (.ref C) none a)) : ErrC H a C none
  | with_ {d : Addr} {f : Str} {y : V} (h : H a = some (Caught (.ref C) (some d) a)) (hd : H d = some (.xd [(f, y)])) : ErrC H a C (some (f, y))
section
variable {X : Cx} {pins : List (Addr × Obj)} {σ : L2.St} {H : Hp} {s : Shared}
theorem errC_inst {a C : Addr} {o : Option (Str × V)} (I : Inv X pins σ H s) (e : ErrC H a C o) :
    ∃ ox od, PySem.W.InstAt s.heap a ox C od ∧ (∀ f y, o = some (f, y) → ∃ ob u, od = some ob ∧ RelV y u ∧ PySem.W.lookIn f ob = some (some u)) := by
  cases e with
  | bare h =>
    obtain ⟨⟨oe, vs, g1, z, g2⟩, _, _⟩ := I.hok a _ h
    refine ⟨oe, none, ⟨g1, z.1, ?_, ?_⟩, fun f y q => nomatch q⟩
    · unfold PySem.W.notCls
      rw [g2]
    · rw [z.2]
      trivial
  | @with_ d f y h hd =>
    obtain ⟨⟨oe, vs, g1, z, g2⟩, _, _⟩ := I.hok a _ h
    obtain ⟨mA, hn, rl⟩ := I.hok d _ hd
    obtain ⟨od, ho, hl⟩ := lookIn_ns hn
    refine ⟨oe, some od, ⟨g1, z.1, ?_, ?_⟩, fun f' y' q => ?_⟩
    · unfold PySem.W.notCls
      rw [g2]
    · rw [z.2]
      exact ho
    · cases q
      have r0 := rl f
      have e0 : List.lookup f [(f, y)] = some y := by simp [List.lookup]
      rw [e0] at r0
      obtain ⟨u, hu, ru⟩ := RelO.some_of (v := y) (o := mA f) r0
      exact ⟨od, u, rfl, ru, by rw [hl, hu]⟩
def rIsC (K : PySem.W.Frag) : List V → Hp → VK → Prop := fun xs H Q => ∃ (a C : Addr) (o : Option (Str × V)) (c : V) (cv : Value) (b : Bool),
  xs = [.ref a, c] ∧ ErrC H a C o ∧ ClsV c cv ∧ AskE K C ∧ PySem.W.kitOne K (.ref C) cv = some b ∧ Q (.bl b) H
/-- isinstance of a caught error, or of anything else that is told of -/
def rIsA (K : PySem.W.Frag) : List V → Hp → VK → Prop := fun xs H Q => rIsC K xs H Q ∨ rIsi K xs H Q
theorem call_isA : CallR X (.builtin "isinstance") (rIsA X.K) := by
  intro pins s σ H xs us Q I r h
  rcases h with ⟨a, C, o, c, cv, b, rfl, e, k, T, ek, q⟩ | h
  · obtain ⟨u1, u2, rfl, r1, r2⟩ := vals2 r
    have e2 := k.eq r2
    subst e2
    cases (show u1 = Value.ref a from r1)
    obtain ⟨ox, od, J, _⟩ := errC_inst I e
    exact PySem.W.kia_one (PySem.W.kitx_exc T.cl T.ga T.gt T.sb T.ca T.cg T.ct T.cm) I.kIn J ek (fun z => nomatch z) fun tk => ⟨.bl b, H, I.kept (t' := tk) fun _ _ z => z, rfl, q⟩
  · exact call_isi pins s σ H xs us Q I r h
/-- e.f of a caught error -/
def tCtF (K : PySem.W.Frag) (f : Str) (te : TE) : TE := fun σ H Q => te σ H fun x H1 => ∃ (a C : Addr) (y : V), x = .ref a ∧ ErrC H1 a C (some (f, y)) ∧ AskE K C ∧ PySem.W.hasDictIn K C = true ∧ PySem.W.findIn K (.ref C) f = some none ∧ Q y H1
theorem pe_ctF {e : Expr} {te : TE} {pos : Pos} {f : Str} (he : PE X e te) (hb : attributeBase e f X.env (eval e X.env) = eval e X.env := by rfl) : PE X (.Attribute e f pos) (tCtF X.K f te) := by
  refine ⟨fun pins s σ H Q I h => attr_of hb (thn (he.run pins s σ H _ I h) fun u s1 hh => ?_)⟩
  obtain ⟨x, H1, I1, rx, a, C, y, ex, ea, T, hdct, hno, q⟩ := hh
  subst ex
  obtain rfl : u = Value.ref a := rx
  obtain ⟨ox, od, J, hl⟩ := errC_inst I1 ea
  obtain ⟨ob, u, rfl, ru, l⟩ := hl _ _ rfl
  exact HandSPX.exc_get I1.kIn J T.ga T.gt T.sb (PySem.W.findObj_own hdct hno rfl l) (handed_of ru) ⟨y, H1, I1.tok _, ru, q⟩
end
/-! ### _law_caught(lambda: ..) -/
/-- what the def makes of the lambda's reading: None, or the error that was caught -/
def TTc (K : PySem.W.Frag) (W : Addr) : (XK → Hp → VK → Prop) → Hp → VK → Prop := fun tl H Q =>
  tl (fun cls d H' => PySem.W.exmOne K cls (.ref W) = some true ∧ ∀ a, H' a = none → Q (.ref a) (upd H' a (Caught cls d a))) H (fun _ H' => ∃ v, (some (some V.non) : Option (Option V)) = some (some v) ∧ Q v H')
abbrev nCaught : List Str := ["work", "caught", "error"]
theorem caught_gives {X : Cx} {q : Str} {sg : Scope} {g W : Addr} {cdg : Value} {j1 : Nat} {p1 p2 p3 p4 p5 p6 p7 p8 p9 p10 p11 p12 p13 p14 : Pos}
    (hge : sg.names.lookup ("WaitError" : Str) = some .globalImplicit) (hme : X.mg "WaitError" = some (.ref W)) (hl0 : sg.names.lookup ("work" : Str) = some .local) (hl1 : sg.names.lookup ("caught" : Str) = some .local) (hl2 : sg.names.lookup ("error" : Str) = some .local) :
    LamX.GivesTo X nCaught "_law_caught" sg g cdg [.Assign [.Name "caught" p1] (.Constant .none j1 p2) p3,
      .Try [.Expr (.Call (.Name "work" p4) [] [] p5) p6] [.ExceptHandler (some (.Name "WaitError" p7)) (some "error") [.Assign [.Name "caught" p8] (.Name "error" p9) p10] p11] [] [] p12,
      .Return (some (.Name "caught" p13)) p14] "work" q (TTc X.K W) := by
  intro f c' s H Q tl act hc h
  have nd : nCaught.Nodup := by decide +kernel
  refine ⟨_, pss_cons (ps_set (i := 1) nd rfl (Or.inl hl1) pe_non)
    (pss_cons (ps_try_err (X := (cxOf C8.CX0 X.prog X.w X.K X.mg X.base nCaught "_law_caught" sg g cdg X.A X.stack s H C8.E0).nox) (c := .ref W) (i := 2)
        (tb := fun W' D σ H => ∃ Ech : XK, (∀ cls d σ' H', Ech cls d H' → W' cls d σ' H') ∧ σ[0]? = some (some (.ref f)) ∧ H c' = some (LamX.CodeO c' q) ∧ tl Ech H (fun _ H' => D.nx σ H'))
        rfl rfl rfl nd rfl hl2 ⟨hge, by decide, .inl hme⟩ (fun W' pn xe tk => ?_) (fun a pn => pss_one (ps_set (i := 1) nd rfl (Or.inl hl1) (pe_var (i := 2) rfl (Or.inl hl2)))))
    (pss_one (ps_ret (pe_var (i := 1) rfl (Or.inl hl1))))), ?_⟩
  · refine ⟨fun pins s' σ H' D I h' => ?_⟩
    obtain ⟨Ech, hW, h1, h2, h3⟩ := h'
    exact (pss_one (ps_expr (pos := p6) (act W' pn xe Ech p4 p5 tk hW))).run pins s' σ H' D I ⟨h1, h2, h3⟩
  · refine ⟨_, fun cls d σ' H' h' => ?_, rfl, hc, h⟩
    obtain ⟨e1, e2⟩ := h'
    refine ⟨e1, fun hl a ha => ?_⟩
    match σ', hl with
    | [x0, x1, x2], _ => exact ⟨.ref a, rfl, .ref a, rfl, e2 a ha⟩
end WT
end

section
set_option Elab.async false
set_option linter.all false
set_option maxRecDepth 100000
set_option maxHeartbeats 4000000
/-! Own errors with one attribute: their making, raised. -/
namespace WT
open PySem PySem.Spec PyProof.Rows L2
/-- the promise of «def __init__(self, f): self.f = f» -/
def spErrI (K : PySem.W.Frag) (f : Str) : Sp := fun vs H Q _ => ∃ (a C : Addr) (y : V), vs = [.ref a, y] ∧ H a = some (exo a C none) ∧ OexC K C ∧ PySem.W.findIn K (.ref C) f = some none ∧
  ∀ d, H d = none → d ≠ a → Q .non (upd (upd H d (exd d [(f, y)])) a (exo a C (some d)))
/-- an own error class x with an attribute f, as the top has made it -/
structure ErrT (P : Program) (w : World) (K : PySem.W.Frag) (mg : Str → Option Value) (base : Heap) (x f : Str) (C fI : Addr) (fd : FuncData) : Prop where
  ox : OexC K C
  iC : PySem.W.findIn K (.ref C) "__init__" = some (some (.ref fI))
  tI : PySem.W.typeIn K (.ref fI) = some (.type "function")
  hf : PySem.W.findIn K (.ref C) f = some none
  hd : PySem.W.hasDictIn K C = true
  ask : AskE K C
  gC : mg x = some (.ref C)
  fn : FnOk P w K mg base CX0 1 fI fd [("self" : Str), f] (spErrI K f)
  bd : Binds K fd [("self" : Str), f] []
/-- how the raising leaves the heap -/
def Raised (H : Hp) (f : Str) (y : V) (d : Addr) (H' : Hp) : Prop := H d = none ∧ H' d = some (.xd [(f, y)]) ∧ Same H H'
theorem mkO_post {P : Program} {w : World} {K : PySem.W.Frag} {mg : Str → Option Value} {base : Heap} {x f : Str} {C fI : Addr} {fd : FuncData} {H : Hp} {y : V} {Q : XK} (T : ErrT P w K mg base x f C fI fd)
    (k : ∀ d H', Raised H f y d H' → Q (.ref C) (some d) H') :
    [y].length ≤ 1000 ∧ ∀ a, H a = none → spErrI K f (.ref a :: ([y] ++ [])) (upd H a (exo a C none))
      (fun v H2 => v = .non ∧ ∃ (d : Addr) (fs : List (Str × V)), H2 a = some (exo a C (some d)) ∧ H2 d = some (exd d fs) ∧ H d = none ∧ Q (.ref C) (some d) (upd (del H2 a) d (.xd fs))) (fun _ _ _ => False) := by
  refine ⟨(by show 1 ≤ 1000; decide), fun a ha => ⟨a, C, y, rfl, upd_same, T.ox, T.hf, fun d hd hne => ?_⟩⟩
  have hd0 : H d = none := by rwa [upd_ne hne] at hd
  refine ⟨rfl, d, [(f, y)], upd_same, by rw [upd_ne hne, upd_same], hd0, k d _ ⟨hd0, upd_same, fun b o e => ?_⟩⟩
  have b1 : b ≠ d := ne_of_none e hd0
  have b2 : b ≠ a := ne_of_none e ha
  rw [upd_ne b1, del_ne b2, upd_ne b2, upd_ne b1, upd_ne b2]
  exact e
/-- an own error class x without an attribute -/
structure PlainT (K : PySem.W.Frag) (mg : Str → Option Value) (x : Str) (C : Addr) : Prop where
  ex : PySem.W.excIn K C [.type "ValueError", .type "Exception", .type "BaseException", .type "object"] "ValueError.__new__" = true
  gC : mg x = some (.ref C)
  kC : PySem.W.keepIn K (.ref C) = true
  sb : PySem.W.subIn K (.ref C) (.type "BaseException") = some true
  ty : PySem.W.typeIn K (.ref C) = some (.type "type")
  ask : AskE K C
/-- the wish of nothing -/
abbrev E00 : XK := fun _ _ _ => False
theorem passF {X : Cx} : Passes (L2.CX X.prog X.w) X E00 := by
  intro pins σ H s e s' I c
  obtain ⟨a, B, H', cls, d, _, _, _, _, _, _, _, z⟩ := c
  exact z.elim
/-- from where an error leaves the def -/
theorem passX {X : Cx} {W : WX} {E : XK} (tk : Takes X W) (h : ∀ cls d σ H, E cls d H → W cls d σ H) : Passes (L2.CX X.prog X.w) X E := passes_call tk h
theorem Raised.same {H H1 H2 : Hp} {f : Str} {y : V} {d : Addr} (s : Same H H1) (r : Raised H1 f y d H2) : Raised H f y d H2 :=
  ⟨s.free r.1, r.2.1, Same.trans s r.2.2⟩
end WT
end

section
set_option Elab.async false
set_option linter.all false
set_option maxRecDepth 100000
set_option maxHeartbeats 8000000
/-! the head's facts, read over the few objects that a law comes to; the end of a law whose defs make lambdas -/
namespace WH
open PySem PySem.Spec PyProof.Rows L2 WG
section
variable {P : Program} {w : World} {K : PySem.W.Frag} {mg mb : Str → Option Value} {k : Nat} {fa a : Addr} {fd : FuncData}
variable {x : Str} {sp : Sp} {s₁ : Shared} {vs : List Value} {ns : List Int} {cs : List (Addr × Addr)}
abbrev tab0 : Obj := { cls := .none, data := .fields #[] }
/-- the script and the empty tables, and nothing else, may be tracked -/
structure Start (K : PySem.W.Frag) (h : Heap) (a : Addr) (cs : List (Addr × Addr)) (H : Hp) : Prop where
  tb : ∀ p ∈ cs, H p.2 = some (.tbl #[])
  all : ∀ b, H b = none ∨ b ∈ cs.map (·.2) ∨ ∃ o xs, H b = some (.frz o (.lst xs))
  only : ∀ b, H b ≠ none → b = a ∨ b ∈ cs.map (·.2)
  aK : H a ≠ none → K.lookup a = none
theorem coreT (KX : K.In s₁.heap) (hns : s₁.heap.Ns mainGlobals mg) (hb : s₁.heap.Ns builtinsNs mb)
    (hbb : ∀ x : Str, x ≠ "__name__" → mb x = bootBuiltins x) (hlim : s₁.heap.NoLimit) (hg : s₁.gens = #[])
    (hT : ∀ p ∈ cs, s₁.heap.get? p.2 = some tab0) (nT : ∀ p ∈ cs, K.lookup p.2 = none) (hC : ∀ p ∈ cs, PySem.W.CodeHd s₁.heap p.1 p.2)
    (hbm : ∃ (bm : Addr) (ob : Obj), mg "__builtins__" = some (.ref bm) ∧ bm ≠ builtinsNs ∧ s₁.heap.get? bm = some ob ∧ ob.cls = .type "module" ∧ ob.dict = some builtinsNs ∧ ob.data = .plain)
    (ha : s₁.heap.get? a = some { cls := .type "list", data := .seq vs.toArray }) (hr : Room k callerA)
    (F : ∀ base : Heap, K.In base → base.Ns mainGlobals mg → (∀ p ∈ cs, LamX.TabB base mg p.1 p.2) → FnG P w K mg base CX0 k fa fd [x] sp)
    (hbind : ∀ (s : Shared) (u : Value), BindsTo s fd ⟨[u], []⟩ [(x, u)]) (H : Hp) (S : Start K s₁.heap a cs H)
    (hsp : sp [.ref a] H (fun v _ => v = .bl true) fun _ _ _ => False) (hok : HOk P w H s₁.heap) :
    codeAny (model P w) callerA (.call (.ref fa) ⟨[.ref a], []⟩) (LawEnd s₁) s₁ := by
  have tabAt : ∀ b : Addr, b ∈ cs.map (·.2) → s₁.heap.get? b = some tab0 := by
    intro b hb
    obtain ⟨p, hp, rfl⟩ := List.mem_map.mp hb
    exact hT p hp
  have off : ∀ {b : Addr} {o : Obj}, s₁.heap.get? b = some o → (∀ us n, o.data ≠ .seq us n) → o.data ≠ .fields #[] → H b = none := by
    intro b o e n1 n2
    cases q : H b with
    | none => rfl
    | some u =>
      rcases S.only b (by rw [q]; simp) with z | z
      · rw [z, ha] at e
        cases e
        exact absurd rfl (n1 _ _)
      · rw [tabAt b z] at e
        cases e
        exact absurd rfl n2
  have offD : ∀ {b : Addr} {o : Obj} {es : Array DictEntry} {ep : Nat}, s₁.heap.get? b = some o → o.data = .dict es ep → H b = none := by
    intro b o es ep e d
    refine off e (fun us n z => ?_) fun z => ?_ <;> (rw [d] at z; cases z)
  have nsK : ∀ {b : Addr} {m : Str → Option Value}, s₁.heap.Ns b m → (hidT s₁.heap H).Ns b m := by
    rintro b m ⟨o, es, ep, e, d, r⟩
    exact ⟨o, es, ep, hidT_get e (offD e d), d, r⟩
  have hKb : K.In (hidT s₁.heap H) := by
    intro b o e
    refine hidT_get (KX b o e) ?_
    cases q : H b with
    | none => rfl
    | some u =>
      rcases S.only b (by rw [q]; simp) with z | z
      · rw [z] at e q
        rw [S.aK (by rw [q]; simp)] at e
        cases e
      · obtain ⟨p, hp, rfl⟩ := List.mem_map.mp z
        rw [nT p hp] at e
        cases e
  have hM : Mod K mg (hidT s₁.heap H) := by
    obtain ⟨mc, h1, h2⟩ := hlim
    exact ⟨hKb, nsK hns, ⟨mb, nsK hb, hbb⟩, ⟨mc, nsK h1, h2⟩⟩
  have gM : ∀ b : Addr, (∃ o : Obj, s₁.heap.get? b = some o ∧ ∀ es ep, o.data ≠ .dict es ep) → mainGlobals ≠ b := by
    rintro b ⟨o, e, nd⟩ z
    obtain ⟨o', es, ep, e', hd, _⟩ := hns
    rw [z, e] at e'
    cases e'
    exact nd _ _ hd
  have TB : ∀ p ∈ cs, LamX.TabB (hidT s₁.heap H) mg p.1 p.2 := by
    intro p hp
    have hTp := hT p hp
    have part : (hidT s₁.heap H).BuiltinsAt mg p.2 := by
      obtain ⟨bm, ob, b1, b2, b3, b4, b5, b6⟩ := hbm
      refine ⟨bm, ob, b1, b2, fun z => gM bm ⟨ob, b3, fun es ep q => by rw [b6] at q; cases q⟩ z.symm, fun z => ?_, hidT_get b3 (off b3 (fun us n z => ?_) fun z => ?_), b4, b5, b6⟩
      · rw [z, hTp] at b3
        cases b3
        cases b6
      · rw [b6] at z
        cases z
      · rw [b6] at z
        cases z
    refine ⟨?_, part, gM p.2 ⟨tab0, hTp, fun es ep q => by cases q⟩⟩
    obtain ⟨o, us, fl, tf, gl, tg, inF, tx, tt, e1, r1, r2, r3, rr⟩ := hC p hp
    refine ⟨o, us, fl, tf, gl, tg, inF, tx, tt, hidT_get e1 (off e1 (fun vs n z => ?_) fun z => ?_), r1, r2, r3, rr⟩
    · rw [r2] at z
      cases z
    · rw [r2] at z
      cases z
      simp at r3
  have e0 : Env0 P w K mg (hidT s₁.heap H) callerA [] s₁ H :=
    { frames := rfl, mod := hM, bs := fun b o e => of_hidT e, bsz := Nat.le_of_eq (hidT_size _ _), funs := trivial,
      frf := fun b hb => absurd (show b ∈ ([] : List Addr) from hb) (by simp), hok := hok, bare := .of_eq hg }
  refine codeAny_mono ((F _ hKb (nsK hns) TB).run callerA [] s₁ H ⟨[.ref a], []⟩ [.ref a] [.ref a] _ _ hr rfl e0
    (hbind s₁ (.ref a)) (.cons rfl .nil) hsp) fun r s' h => ?_
  cases r with
  | error e => exact False.elim h
  | ok fl =>
    cases fl with
    | next => exact False.elim h
    | brk => exact False.elim h
    | cont => exact False.elim h
    | ret u =>
      obtain ⟨v, H', os, bare, un, hok', r', q⟩ := h
      have q' : v = .bl true := q
      subst q'
      obtain rfl : u = Value.bool true := r'
      have stays : ∀ b o, b ∉ cs.map (·.2) → s₁.heap.get? b = some o → s'.heap.get? b = some o := by
        intro b o nb e
        cases q : H b with
        | none => exact un.keep b o e q (fun z => absurd (show b ∈ ([] : List Addr) from z) (by simp)) (by simp)
        | some u =>
          rcases S.all b with z | z | ⟨ob, xs, z⟩
          · rw [q] at z
            cases z
          · exact absurd z nb
          · obtain ⟨e1, _⟩ := hok b _ z
            obtain ⟨e2, _⟩ := hok' b _ (un.frzs b ob _ z)
            rw [e] at e1
            cases e1
            exact e2
      have grows : ∀ p ∈ cs, ∃ more : Array Value, s'.heap.get? p.2 = some { cls := .none, data := .fields more } := by
        intro p hp
        obtain ⟨more, z⟩ := un.tbls p.2 #[] (S.tb p hp)
        exact ⟨_, hok' p.2 _ z⟩
      refine ⟨rfl, ⟨fun b o e => ?_, fun b o e => ?_⟩, os, bare⟩
      · by_cases hb : b ∈ cs.map (·.2)
        · obtain ⟨p, hp, rfl⟩ := List.mem_map.mp hb
          obtain ⟨more, hm⟩ := grows p hp
          rw [hT p hp] at e
          cases e
          exact .inr (.inl ⟨((hC p hp).tab (hT p hp)).isCodeTable, rfl, #[], more, rfl, by rw [Array.empty_append]; exact hm⟩)
        · exact .inl (stays b o hb e)
      · by_cases hb : b ∈ cs.map (·.2)
        · obtain ⟨p, hp, rfl⟩ := List.mem_map.mp hb
          obtain ⟨more, hm⟩ := grows p hp
          exact ⟨_, hm⟩
        · exact ⟨o, stays b o hb e⟩
theorem endT (KX : K.In s₁.heap) (hns : s₁.heap.Ns mainGlobals mg) (hb : s₁.heap.Ns builtinsNs mb)
    (hbb : ∀ x : Str, x ≠ "__name__" → mb x = bootBuiltins x) (hlim : s₁.heap.NoLimit) (hg : s₁.gens = #[])
    (hT : ∀ p ∈ cs, s₁.heap.get? p.2 = some tab0) (nT : ∀ p ∈ cs, K.lookup p.2 = none) (hC : ∀ p ∈ cs, PySem.W.CodeHd s₁.heap p.1 p.2)
    (hbm : ∃ (bm : Addr) (ob : Obj), mg "__builtins__" = some (.ref bm) ∧ bm ≠ builtinsNs ∧ s₁.heap.get? bm = some ob ∧ ob.cls = .type "module" ∧ ob.dict = some builtinsNs ∧ ob.data = .plain)
    (ha : s₁.heap.get? a = some { cls := .type "list", data := .seq vs.toArray }) (hi : IntsAre vs ns)
    (hl : ns.length ≤ sizeLine) (hr : Room k callerA)
    (F : ∀ base : Heap, K.In base → base.Ns mainGlobals mg → (∀ p ∈ cs, LamX.TabB base mg p.1 p.2) → FnG P w K mg base CX0 k fa fd [x] sp)
    (hbind : ∀ (s : Shared) (u : Value), BindsTo s fd ⟨[u], []⟩ [(x, u)])
    (hsp : ∀ H : Hp, (∀ p ∈ cs, H p.2 = some (.tbl #[])) → SqL K H a (ns.map V.int) → sp [.ref a] H (fun v _ => v = .bl true) fun _ _ _ => False) :
    codeAny (model P w) callerA (.call (.ref fa) ⟨[.ref a], []⟩) (LawEnd s₁) s₁ := by
  have rv := vals_ints hi
  have lv := hi.length
  have tabAt : ∀ b : Addr, b ∈ cs.map (·.2) → s₁.heap.get? b = some tab0 := by
    intro b hb
    obtain ⟨p, hp, rfl⟩ := List.mem_map.mp hb
    exact hT p hp
  have aT : a ∉ cs.map (·.2) := by
    intro z
    have q := tabAt a z
    rw [ha] at q
    have z' : Data.seq vs.toArray _ = Data.fields #[] := congrArg Obj.data (Option.some.inj q)
    cases z'
  have mem2 : ∀ p ∈ cs, p.2 ∈ cs.map (·.2) := fun p hp => List.mem_map.mpr ⟨p, hp, rfl⟩
  cases hk : K.lookup a with
  | some o =>
    have e := KX a o hk
    rw [ha] at e
    cases e
    let H : Hp := fun b => if b ∈ cs.map (·.2) then some (.tbl #[]) else none
    have h1 : ∀ {b}, b ∈ cs.map (·.2) → H b = some (.tbl #[]) := fun hb => if_pos hb
    have h2 : ∀ {b}, b ∉ cs.map (·.2) → H b = none := fun hb => if_neg hb
    have hS : SqL K H a (ns.map V.int) :=
      .inr ⟨_, vs.toArray, _, hk, rfl, rfl, rfl, by rw [List.size_toArray, lv]; exact hl, by simpa using rv⟩
    have S : Start K s₁.heap a cs H := by
      refine ⟨fun p hp => h1 (mem2 p hp), fun b => ?_, fun b z => ?_, fun z => absurd (h2 aT) z⟩
      · by_cases q : b ∈ cs.map (·.2)
        · exact .inr (.inl q)
        · exact .inl (h2 q)
      · by_cases q : b ∈ cs.map (·.2)
        · exact .inr q
        · exact absurd (h2 q) z
    refine coreT KX hns hb hbb hlim hg hT nT hC hbm ha hr F hbind H S (hsp H S.tb hS) fun b u z => ?_
    by_cases q : b ∈ cs.map (·.2)
    · rw [h1 q] at z
      cases z
      exact tabAt b q
    · rw [h2 q] at z
      cases z
  | none =>
    let ob : Obj := { cls := .type "list", data := .seq vs.toArray }
    let H : Hp := fun b => if b = a then some (.frz ob (.lst (ns.map V.int))) else if b ∈ cs.map (·.2) then some (.tbl #[]) else none
    have h0 : H a = some (.frz ob (.lst (ns.map V.int))) := if_pos rfl
    have h1 : ∀ {b}, b ≠ a → b ∈ cs.map (·.2) → H b = some (.tbl #[]) := fun ne hb => (if_neg ne).trans (if_pos hb)
    have h2 : ∀ {b}, b ≠ a → b ∉ cs.map (·.2) → H b = none := fun ne hb => (if_neg ne).trans (if_neg hb)
    have na : ∀ {b}, b ∈ cs.map (·.2) → b ≠ a := fun hb z => aT (z ▸ hb)
    have S : Start K s₁.heap a cs H := by
      refine ⟨fun p hp => h1 (na (mem2 p hp)) (mem2 p hp), fun b => ?_, fun b z => ?_, fun _ => hk⟩
      · by_cases q0 : b = a
        · exact .inr (.inr ⟨_, _, by rw [q0]; exact h0⟩)
        · by_cases q : b ∈ cs.map (·.2)
          · exact .inr (.inl q)
          · exact .inl (h2 q0 q)
      · by_cases q0 : b = a
        · exact .inl q0
        · by_cases q : b ∈ cs.map (·.2)
          · exact .inr q
          · exact absurd (h2 q0 q) z
    refine coreT KX hns hb hbb hlim hg hT nT hC hbm ha hr F hbind H S (hsp H S.tb (.inl (.inr ⟨ob, h0⟩))) fun b u z => ?_
    by_cases q0 : b = a
    · subst q0
      rw [h0] at z
      cases z
      exact ⟨ha, by rw [List.length_map]; exact hl, vs, _, rv, ha⟩
    · by_cases q : b ∈ cs.map (·.2)
      · rw [h1 q0 q] at z
        cases z
        exact tabAt b q
      · rw [h2 q0 q] at z
        cases z
end
/-- what is known at the head's heap h of the law at fa -/
def LawAt (l : PySem.W.OpenLaw) (w : World) (k n : Nat) (x : Str) (mg : Str → Option Value) (fa : Addr) (h : Heap) : Prop :=
  ∃ (K : PySem.W.Frag) (fd : FuncData) (cs : List (Addr × Addr)) (sp : Sp), K.In h ∧ (∀ p ∈ cs, h.get? p.2 = some tab0) ∧ (∀ p ∈ cs, K.lookup p.2 = none) ∧ (∀ p ∈ cs, PySem.W.CodeHd h p.1 p.2) ∧
    (∀ (s : Shared) (u : Value), BindsTo s fd ⟨[u], []⟩ [(x, u)]) ∧
    (∀ (H : Hp) (a : Addr) (ns : List Int), ns.length ≤ n → (∀ p ∈ cs, H p.2 = some (.tbl #[])) → SqL K H a (ns.map V.int) → sp [.ref a] H (fun v _ => v = .bl true) fun _ _ _ => False) ∧
    ∀ base : Heap, K.In base → base.Ns mainGlobals mg → (∀ p ∈ cs, LamX.TabB base mg p.1 p.2) → FnG l.prog w K mg base CX0 k fa fd [x] sp
theorem walkT {l : PySem.W.OpenLaw} {n k : Nat} {q : Program} {loose : List Str} {XP : (Str → Option Value) → Heap → Prop} {YP : World → Heap → Prop}
    {d : DefRec} {x : Str}
    (hn : l.most = some n) (hn2 : n ≤ sizeLine) (hdf : d.params.defaults = []) (hr : Room k callerA)
    (F : ∀ (w : World) (mg : Str → Option Value) (fa : Addr) (h : Heap), YP w h → h.Ns mainGlobals mg → mg d.name = some (.ref fa) → LawAt l w k n x mg fa h) :
    PySem.W.WalkO q loose XP YP l.row.toRowW d [] (fun f vs => PySem.call f vs) := by
  refine Att.attach_call hn hdf fun w s₀ s₁ mg mb fa o pm cd doc a vs ns G Y ho hd hcd hmg hobj hints hlen hg => ?_
  obtain ⟨K, fd, cs, sp, KX, t1, t2, t3, hb, hsp, hF⟩ := F w mg fa _ Y G.T.g hmg
  exact endT KX G.T.g G.T.b G.T.builtins G.T.nolimit hg t1 t2 t3 G.T.bmain hobj hints
    (Nat.le_trans hlen hn2) hr hF hb fun H hH hS => hsp H a ns hlen hH hS
/-! ### the hook -/
/-- the addresses of globals, classes, their namespaces, the functions, their code -/
def asX (g : Addr → Option Obj) (cs : List Str) (ms : List (Str × Str)) (fs : List Str) : List Addr :=
  let G : List Addr := [mainGlobals]
  let K0 := He.frG g G
  let C := cs.map (He.ga K0)
  let K1 := He.frG g C
  let N := C.filterMap fun c => (PySem.W.clsIn K1 c).map fun cd => cd.ns
  let K2 := He.frG g (G ++ C ++ N)
  let F := ms.map (fun m => He.ma K2 (He.ga K0 m.1) m.2) ++ fs.map (He.ga K0)
  let K3 := He.frG g F
  let D := F.filterMap fun f => match K3.lookup f with
    | some ⟨_, _, .func fd, _⟩ => (match fd.code with
      | .ref c => some c
      | _ => none)
    | _ => none
  G ++ C ++ N ++ F ++ D
abbrev frX (cs : List Str) (ms : List (Str × Str)) (fs : List Str) (g : Addr → Option Obj) : PySem.W.Frag := He.frG g (asX g cs ms fs)
/-- the code of a def that makes lambdas, and its table -/
def coOf (K : PySem.W.Frag) (x : Str) : Addr := match K.lookup (He.ga K x) with
  | some ⟨_, _, .func fd, _⟩ => (match fd.code with
    | .ref c => c
    | _ => 0)
  | _ => 0
def taOf (K : PySem.W.Frag) (c : Addr) : Addr := match K.lookup c with
  | some ⟨_, _, .fields vs, _⟩ => (match (vs[11]? : Option Value) with
    | some (.ref t) => t
    | _ => 0)
  | _ => 0
def ctOf (K : PySem.W.Frag) (x : Str) : Addr × Addr := (coOf K x, taOf K (coOf K x))
def tabX (g : Addr → Option Obj) (tf : List Str) (K : PySem.W.Frag) : Bool := tf.all fun x => PySem.W.codeHdIn K (ctOf K x).1 (ctOf K x).2 && (K.lookup (ctOf K x).2).isNone && (match g (ctOf K x).2 with
  | some o => He.emptyTab o
  | none => false)
structure TabsIn (h : Heap) (tf : List Str) (K : PySem.W.Frag) : Prop where
  hd : ∀ x ∈ tf, PySem.W.codeHdIn K (ctOf K x).1 (ctOf K x).2 = true
  out : ∀ x ∈ tf, K.lookup (ctOf K x).2 = none
  emp : ∀ x ∈ tf, h.get? (ctOf K x).2 = some tab0
theorem tabX_ok {h : Heap} {tf : List Str} {K : PySem.W.Frag} (e : tabX h.get? tf K = true) : TabsIn h tf K := by
  have key : ∀ x ∈ tf, (PySem.W.codeHdIn K (ctOf K x).1 (ctOf K x).2 = true ∧ (K.lookup (ctOf K x).2).isNone = true) ∧ ∃ o, h.get? (ctOf K x).2 = some o ∧ He.emptyTab o = true := by
    intro x hx
    have z := List.all_eq_true.mp e x hx
    rw [Bool.and_eq_true, Bool.and_eq_true] at z
    refine ⟨z.1, ?_⟩
    have z2 := z.2
    cases q : h.get? (ctOf K x).2 with
    | none => rw [q] at z2; cases z2
    | some o => rw [q] at z2; exact ⟨o, rfl, z2⟩
  refine ⟨fun x hx => (key x hx).1.1, fun x hx => Option.isNone_iff_eq_none.mp (key x hx).1.2, fun x hx => ?_⟩
  obtain ⟨_, o, q, z⟩ := key x hx
  rw [q, He.emptyTab_eq z]
def obsX (cs : List Str) (ms : List (Str × Str)) (fs tf : List Str) (fa : List He.Fa) (fn : List He.DefD) (B : PySem.W.Frag → Bool) (g : Addr → Option Obj) : He.AlD × Bool :=
  (He.obsD fa fn (frX cs ms fs g), B (frX cs ms fs g) && tabX g tf (frX cs ms fs g))
def hookX (cs : List Str) (ms : List (Str × Str)) (fs tf : List Str) (fa : List He.Fa) (fn : List He.DefD) (B : PySem.W.Frag → Bool) : PySem.W.Hook where
  α := He.AlD × Bool
  obs s := obsX cs ms fs tf fa fn B s.heap.get?
  val _ := (He.valD fn, true)
  says _ h := ∃ K, PySem.W.Frag.In K h ∧ He.SaysD fa fn K ∧ B K = true ∧ TabsIn h tf K
  of _ s e := by
    have e1 := congrArg (fun z : He.AlD × Bool => z.1) e
    have e2 := congrArg (fun z : He.AlD × Bool => z.2) e
    have e3 := Bool.and_eq_true_iff.mp e2
    exact ⟨_, He.frG_in, e1, e3.1, tabX_ok e3.2⟩
  keeps _ _ _ := fun ⟨K, X, c, b, t⟩ k => ⟨K, fun a o e => k a o (X a o e), c, b, ⟨t.hd, t.out, fun x hx => k _ _ (t.emp x hx)⟩⟩
theorem obsX_eq {cs : List Str} {ms : List (Str × Str)} {fs tf : List Str} {fa : List He.Fa} {fn : List He.DefD} {B : PySem.W.Frag → Bool} {g : Addr → Option Obj} {s : Shared} (h : ∀ a, g a = s.heap.get? a) :
    obsX cs ms fs tf fa fn B g = (hookX cs ms fs tf fa fn B).obs s := by
  have e : g = s.heap.get? := funext h
  rw [e]
  rfl
theorem fun_of {K : PySem.W.Frag} {x q : Str} {st : Stmt} {f : Addr} {fd : FuncData} (F : FunD K x q (defArgs st) (defBody st) (defScope st) [] [] f fd) : Fun K x q st f fd := by
  obtain ⟨⟨oc, od, dV, kV, doc, pm, an, cdv, ct, sl, rfl, hl, hc, hd, -⟩, kp⟩ := F
  rcases hd with ⟨-, rfl⟩ | ⟨h, -⟩
  · exact ⟨⟨oc, od, kV, doc, pm, an, cdv, ct, sl, rfl, hl, hc⟩, kp⟩
  · exact absurd rfl h
/-! ### own errors -/
def askX (K : PySem.W.Frag) (C : Addr) : Bool := (PySem.W.clsIn K C).isSome && (decide (PySem.W.findIn K (.ref C) "__getattribute__" = some (some (.builtin "BaseException.__getattribute__"))) &&
  (decide (PySem.W.findIn K (.ref C) "__getattr__" = some none) && (decide (PySem.W.subIn K (.ref C) (.type "BaseException") = some true) &&
  (decide (PySem.W.findIn K (.ref C) "__class__" = some (some (.builtin "object.__class__"))) && (decide (PySem.W.specialIn K (.builtin "object.__class__") "__get__" = some (some (.builtin "getset_descriptor.__get__"))) &&
  (decide (PySem.W.takesIn K (.builtin "object.__class__") = some true) && decide (PySem.W.mroIn K C (.type "object") = some true)))))))
theorem askX_ok {K : PySem.W.Frag} {C : Addr} (h : askX K C = true) : WT.AskE K C := by
  unfold askX at h
  simp only [Bool.and_eq_true, decide_eq_true_eq] at h
  obtain ⟨h1, h2, h3, h4, h5, h6, h7, h8⟩ := h
  exact ⟨h1, h2, h3, h4, h5, h6, h7, h8⟩
/-- a class with an attribute -/
def clsX (K : PySem.W.Frag) (C : Addr) : Bool := match K.lookup C with
  | some ⟨.type "type", _, .cls cd, sl⟩ => (match cd.mro, sl.toList with
    | .ref C' :: bm, [_, _, _, _, some (.builtin n), _] => C' == C && n == "ValueError.__new__" && !cd.hasDel && cd.hasDict && PySem.HandSPX.refsVE bm
    | _, _ => false)
  | _ => false
theorem clsX_ok {K : PySem.W.Frag} {C : Addr} (h : clsX K C = true) :
    ∃ nm q N bs bm sn sub ab col dd k0 k1 k2 k3 k5, K.lookup C = some (excClassObj nm q C N bs bm true sn sub ab col dd k0 k1 k2 k3 k5 "ValueError.__new__") ∧ PySem.HandSPX.refsVE bm = true := by
  unfold clsX at h
  split at h
  · rename_i dd cd sl hl
    split at h
    · rename_i C' bm k0 k1 k2 k3 n k5 hm hs
      simp only [Bool.and_eq_true, beq_iff_eq, Bool.not_eq_true'] at h
      obtain ⟨⟨⟨⟨rfl, rfl⟩, hd⟩, hx⟩, hr⟩ := h
      obtain ⟨nm, bs, mro, N, q, hdct, sn, sub, ab, col, hasDel⟩ := cd
      obtain ⟨sl⟩ := sl
      dsimp only at hm hs hd hx
      subst hm hd hx hs
      exact ⟨nm, q, N, bs, bm, sn, sub, ab, col, dd, k0, k1, k2, k3, k5, hl, hr⟩
    · cases h
  · cases h
def errX (K : PySem.W.Frag) (C fI : Addr) (f : Str) : Bool := clsX K C && (decide (PySem.W.findIn K (.ref C) "__setattr__" = some (some (.builtin "object.__setattr__"))) &&
  (decide (PySem.W.subIn K (.ref C) (.type "BaseException") = some true) && (decide (PySem.W.typeIn K (.ref C) = some (.type "type")) && (PySem.W.keepIn K (.ref C) &&
  (decide (PySem.W.findIn K (.ref C) "__init__" = some (some (.ref fI))) && (decide (PySem.W.typeIn K (.ref fI) = some (.type "function")) &&
  (decide (PySem.W.findIn K (.ref C) f = some none) && (PySem.W.hasDictIn K C && askX K C))))))))
theorem errX_ok {P : Program} {w : World} {K : PySem.W.Frag} {mg : Str → Option Value} {base : Heap} {x f : Str} {C fI : Addr} {fd : FuncData} (h : errX K C fI f = true) (gC : mg x = some (.ref C))
    (fn : FnOk P w K mg base CX0 1 fI fd [("self" : Str), f] (WT.spErrI K f)) (bd : Binds K fd [("self" : Str), f] []) : WT.ErrT P w K mg base x f C fI fd := by
  unfold errX at h
  simp only [Bool.and_eq_true, decide_eq_true_eq] at h
  obtain ⟨h1, h2, h3, h4, h5, h6, h7, h8, h9, h10⟩ := h
  exact ⟨⟨clsX_ok h1, h2, h3, h4, h5⟩, h6, h7, h8, h9, askX_ok h10, gC, fn, bd⟩
theorem ok_err {P : Program} {w : World} {K : PySem.W.Frag} {mg : Str → Option Value} {base : Heap} {st : Stmt} {q f : Str} {g : Addr} {fd : FuncData} {ti : TS} (F : Fun K "__init__" q st g fd) (S : FnScope ["self", f] ["self", f] (defScope st))
    (hb : ∀ (X : Cx), X.N = [("self" : Str), f] → X.env.scope = defScope st → PSs X (defBody st) (tOst X.K f (tVar 0) (tVar 1))) : FnOk P w K mg base CX0 1 g fd [("self" : Str), f] (WT.spErrI K f) := by
  refine F.ok S (fun vs H Q E h => ?_) (fun cdv A outer s H vs Q E hr h => ?_)
  · obtain ⟨a, C, y, rfl, _⟩ := h
    rfl
  · obtain ⟨a, C, y, rfl, e, T, hf, k⟩ := h
    exact ⟨_, (hb _ rfl rfl), _, rfl, _, rfl, a, C, rfl, T, hf, .inl ⟨e, k⟩⟩
end WH
end

section
set_option Elab.async false
set_option linter.all false
set_option maxRecDepth 100000
set_option maxHeartbeats 4000000
/-! == and != by an own __eq__, both answers; attributes as targets of a tuple's assignment -/
namespace WO
open PySem PySem.Spec PyProof.Rows L2
/-- a.f as a target -/
def gAttr (K : PySem.W.Frag) (ta : TE) (f : Str) : TG := fun v σ H Q => ta σ H fun x H1 => ∃ a C dx fs, x = .ref a ∧ H1 a = some (.ins C dx fs) ∧ Cls K C ∧ NoAttr K C f ∧ fs.length < 1000 ∧ Q σ (upd H1 a (.ins C dx (putF f v fs)))
theorem pg_attr {X : Cx} {o : Expr} {f : Str} {pos : Pos} {ta : TE} (ho : PE X o ta) : PG X (.Attribute o f pos) (gAttr X.K ta f) := by
  refine ⟨fun pins s σ H v u Q I r h => ?_⟩
  rw [assign_Attribute]
  refine wpAny_bind (wpAny_holding (thn (ho.run pins s σ H _ I h) fun ov s1 ⟨x, H1, I1, r1, q⟩ => ?_))
  obtain ⟨a, C, dx, fs, rfl, hi, c, n, hz, q⟩ := q
  cases (show ov = Value.ref a from r1)
  refine wpAny_bind (wpAny_standAt (wpAny_bind (wpAny_holding (setattr_ok I1 hi c n hz r fun s' I' => wpAny_release ⟨_, _, I', q⟩))))
section
variable {X : Cx} {CX : CXT} {C f : Addr} {fd : FuncData} {ps : List Str} {sp : Sp} {E : XK} {n : Nat}
def rOw (K : PySem.W.Frag) (C : Addr) (sp : Sp) (E : XK) : R2 := fun x y H Q => ∃ a dx fs t, x = .ref a ∧ H a = some (.ins C dx fs) ∧ TyX K H y t ∧ PySem.W.notFirst K C t = true ∧
  sp [x, y] H (fun v H' => (∃ b, v = .bl b) ∧ Q v H') E
theorem op_ownEq (F : FnOk X.prog X.w X.K X.mg X.base CX n f fd ps sp) (hf : PySem.W.findIn X.K (.ref C) "__eq__" = some (some (.ref f))) (hfn : PySem.W.isFn X.K (.ref f) = true)
    (hb : Binds X.K fd ps []) (hr : Room n X.A) (hx : Passes CX X E) : OpR X (compareOp .Eq) (rOw X.K C sp E) := by
  intro pins s σ H x y v u Q I rx ry ⟨a, dx, fs, t, hxa, hi, ty, nf, q⟩
  subst hxa
  cases (show v = Value.ref a from rx)
  obtain ⟨mA, om, -, -, -, -⟩ := ins_get I.hok hi
  obtain ⟨od, ia, -⟩ := om.look
  obtain ⟨m, fr⟩ := I.fr
  obtain ⟨P, kx, hp, -⟩ := kit_of I ry ty
  have hl := F.len _ _ _ _ q
  show wpAny _ _ (richCompare .Eq (.ref a) u) _ _ _
  refine PySem.W.cmp_K hr.units0 fr I.ok.mod.kin ia (kx.ty _ _ I.kIn hp) nf hf hfn ?_
  have hu : ([Value.ref a, u] ++ []).length = ps.length := hl
  refine wpAny_call (codeAny_mono (F.run X.A X.stack s H ⟨[.ref a, u], []⟩ ([.ref a, u] ++ []) [.ref a, y] _ E hr I.env0
    (hb s [.ref a, u] I.kIn hu) (.cons rfl (.cons ry .nil)) q) fun r s' hq => ?_)
  cases r with
  | error er => exact hx pins σ H s er s' I hq
  | ok fl =>
    cases fl with
    | ret u' =>
      obtain ⟨z, H', I', rz, ⟨b, hb'⟩, q'⟩ := I.after hq
      exact SlX.cmpback (P := EP X pins σ Q) rz ⟨z, H', I', rz, q'⟩
    | next => exact False.elim hq
    | brk => exact False.elim hq
    | cont => exact False.elim hq
end
end WO
namespace WO
open PySem PySem.Spec PyProof.Rows L2
/-- a class of one's own over object, with __eq__, without __ne__ -/
def neB (K : PySem.W.Frag) (C f : Addr) : Bool := match K.lookup C with
  | some ⟨.type "type", _, .cls cd, sl⟩ => (match cd.mro, sl.toList with
    | [.ref C', .type "object"], [_, _, _, _, some (.builtin _), _] => C' == C && !cd.hasDel && PySem.W.nsOkIn K cd.ns && decide (PySem.W.nsIn K cd.ns "__eq__" = some (some (.ref f))) && decide (PySem.W.nsIn K cd.ns "__ne__" = some none)
    | _, _ => false)
  | _ => false
theorem ns_fun {K : PySem.W.Frag} {h : Heap} {N : Addr} (X : K.In h) (ok : PySem.W.nsOkIn K N = true) : ∃ m, h.Ns N m ∧ ∀ x v, PySem.W.nsIn K N x = some v → m x = v := by
  unfold PySem.W.nsOkIn at ok
  split at ok
  · rename_i cls dd es ep sl hl
    refine ⟨nsFind es, ⟨_, es, ep, X _ _ hl, rfl, fun e he => ?_, fun _ => rfl⟩, fun x v hv => ?_⟩
    · obtain ⟨i, hi, e1⟩ := Array.mem_iff_getElem.mp he
      have z := (Array.all_eq_true.mp ok) i hi
      rw [e1] at z
      split at z
      · rename_i s t hk
        exact ⟨s, t, hk⟩
      · cases z
    · unfold PySem.W.nsIn at hv
      rw [hl] at hv
      dsimp only at hv
      unfold nsFind findBy
      rw [← Array.find?_toList]
      split at hv
      · rename_i e he
        rw [he]
        cases hv
        rfl
      · rename_i he
        rw [he]
        split at hv
        · cases hv
        · cases hv
          rfl
  · cases ok
theorem neB_ok {K : PySem.W.Frag} {C f x : Addr} {h : Heap} {o : Obj} (X : K.In h) (hB : neB K C f = true) (hfn : PySem.W.isFn K (.ref f) = true) (hx : h.get? x = some o) (hc : o.cls = .ref C) :
    h.OwnEqNoNe x C f "object" [.type "object"] := by
  have hfn : ((K.lookup f).map (fun o => o.cls) == some (Value.type "function")) = true := hfn
  have hfn' : ∃ of, K.lookup f = some of ∧ of.cls = .type "function" := by
    cases e : K.lookup f with
    | none => rw [e] at hfn; cases hfn
    | some of =>
      rw [e] at hfn
      have z : (some of.cls : Option Value) = some (.type "function") := eq_of_beq hfn
      exact ⟨of, rfl, Option.some.inj z⟩
  obtain ⟨of, hf, hf2⟩ := hfn'
  unfold neB at hB
  split at hB
  · rename_i dd cd sl hl
    split at hB
    · rename_i C' k0 k1 k2 k3 n k5 hm hs
      simp only [Bool.and_eq_true, beq_iff_eq, Bool.not_eq_true', decide_eq_true_eq] at hB
      obtain ⟨⟨⟨⟨rfl, hd⟩, hok⟩, he⟩, hn⟩ := hB
      obtain ⟨m, hN, hm2⟩ := ns_fun X hok
      obtain ⟨nm, bs, mro, N, q, hdct, sn, sub, ab, col, hasDel⟩ := cd
      obtain ⟨sl⟩ := sl
      dsimp only at hm hs hd hN he hn hm2
      subst hm hd hs
      exact ⟨o, of, nm, q, N, bs, hdct, sn, sub, ab, col, dd, k0, k1, k2, k3, k5, n, m, some (.builtin "object.__eq__"), hx, hc, X _ _ hl, hN, hm2 _ _ he, X _ _ hf, hf2, rfl, rfl, hm2 _ _ hn⟩
    · cases hB
  · cases hB
section
variable {X : Cx} {CX : CXT} {C f : Addr} {fd : FuncData} {ps : List Str} {sp : Sp} {E : XK} {n : Nat}
/-- both are of the class -/
def rOwN (C : Addr) (sp : Sp) (E : XK) : R2 := fun x y H Q => ∃ a dx fs b dy gs, x = .ref a ∧ H a = some (.ins C dx fs) ∧ y = .ref b ∧ H b = some (.ins C dy gs) ∧
  sp [x, y] H (fun v H' => ∃ k, v = .bl k ∧ Q (.bl !k) H') E
theorem op_ownNe (F : FnOk X.prog X.w X.K X.mg X.base CX n f fd ps sp) (hB : neB X.K C f = true) (hfn : PySem.W.isFn X.K (.ref f) = true)
    (hb : Binds X.K fd ps []) (hr : Room (n + 1) X.A) (hx : Passes CX X E) : OpR X (compareOp .NotEq) (rOwN C sp E) := by
  intro pins s σ H x y v u Q I rx ry ⟨a, dx, fs, b, dy, gs, hxa, hi, hyb, hj, q⟩
  subst hxa hyb
  cases (show v = Value.ref a from rx)
  cases (show u = Value.ref b from ry)
  obtain ⟨mA, om, -, -, -, -⟩ := ins_get I.hok hi
  obtain ⟨mB, on, -, -, -, -⟩ := ins_get I.hok hj
  have hl := F.len _ _ _ _ q
  have hu : ([Value.ref a, Value.ref b] ++ []).length = ps.length := hl
  have e0 := I.env0
  show wpAny _ _ (richCompare .NotEq (.ref a) (.ref b)) _ _ _
  refine richCompare_ne_ownEq PySem.F.cmp_object (neB_ok I.kIn hB hfn om.obj rfl) on.obj rfl hr.in1.units0 ?_
  refine wpAny_call (codeAny_mono (F.run X.A.in1 X.stack s H ⟨[.ref a, .ref b], []⟩ ([Value.ref a, Value.ref b] ++ []) [.ref a, .ref b] _ E hr.in1
    ⟨e0.frames, e0.mod, e0.bs, e0.bsz, e0.funs, e0.frf, e0.hok, e0.bare⟩
    (hb s [.ref a, .ref b] I.kIn hu) (.cons rx (.cons ry .nil)) q) fun r s' hq => ?_)
  cases r with
  | error er => exact hx pins σ H s er s' I hq
  | ok fl =>
    cases fl with
    | ret u' =>
      obtain ⟨z, H', I', rz, k, rfl, q'⟩ := I.after hq
      cases (show u' = Value.bool k from rz)
      exact ⟨k, rfl, .bl !k, H', I', rfl, q'⟩
    | next => exact False.elim hq
    | brk => exact False.elim hq
    | cont => exact False.elim hq
end
end WO
end

section
set_option Elab.async false
set_option linter.all false
set_option maxRecDepth 100000
set_option maxHeartbeats 0
namespace WK
open PySem L2 WW
def curB (K : PySem.W.Frag) (C fI fE : Addr) : Bool := (PySem.W.plainGet K C Str.empty && PySem.W.hasDictIn K C && PySem.W.plainOver K C && decide (PySem.W.findIn K (.ref C) "__setattr__" = some (some (.builtin "object.__setattr__")))) &&
  ((decide (PySem.W.findIn K (.ref C) "start" = some none) && decide (PySem.W.findIn K (.ref C) "period" = some none) && decide (PySem.W.findIn K (.ref C) "growth" = some none)) &&
  ((decide (PySem.W.findIn K (.ref C) "__class__" = some (some (.builtin "object.__class__"))) && decide (PySem.W.specialIn K (.builtin "object.__class__") "__get__" = some (some (.builtin "getset_descriptor.__get__"))) &&
    decide (PySem.W.takesIn K (.builtin "object.__class__") = some true) && decide (PySem.W.mroIn K C (.type "object") = some true)) &&
  ((decide (PySem.W.kitOne K (.ref C) (.ref C) = some true) && decide (PySem.W.kitOne K (.type "dict") (.ref C) = some false) && decide (PySem.W.kitOne K (.type "tuple") (.ref C) = some false)) &&
  ((PySem.W.makesIn K C && decide (PySem.W.findIn K (.ref C) "__init__" = some (some (.ref fI))) && PySem.W.isFn K (.ref fI) && PySem.W.keepIn K (.ref C)) &&
  ((decide (PySem.W.findIn K (.ref C) "__eq__" = some (some (.ref fE))) && PySem.W.isFn K (.ref fE) && WO.neB K C fE) &&
  (PySem.W.notFirst K C (.ref C) && PySem.W.notFirst K C (.type "dict") && PySem.W.notFirst K C (.type "tuple")))))))
def exG (K : PySem.W.Frag) (C W : Addr) : Bool := decide (PySem.W.exmOne K (.ref C) (.ref W) = some true) && decide (PySem.W.kitOne K (.ref C) (.ref C) = some true)
def kitG (K : PySem.W.Frag) (C : Addr) : Bool := decide (PySem.W.kitOne K (.type "NoneType") (.ref C) = some false) && (decide (PySem.W.kitOne K (.type "int") (.ref C) = some false) && decide (PySem.W.kitOne K (.type "str") (.ref C) = some false))
def csN : List Str := ["WaitError", "BadCurve", "BadNumber", "TooMany", "Curve"]
def msN : List (Str × Str) := [("Curve", "__init__"), ("Curve", "__eq__"), ("BadCurve", "__init__"), ("BadNumber", "__init__"), ("TooMany", "__init__")]
def fsN : List Str := (["is_number", "are_numbers", "is_from", "is_list", "need_number", "is_above", "is_start", "falls_behind", "least_form", "least_step", "made", "need_curve", "has_none", "first_none", "regular_from"] : List Str) ++ (["at", "first_values", "values_behind", "value", "flat", "line", "need_two", "common_period", "gain_in", "first_above", "above_ahead", "gaps_of", "first_below", "is_below", "slower_first"] : List Str) ++ (["last_above", "last_lead", "settled", "shorter_end", "lesser_row", "greater_row", "added_row", "least_of", "most_of", "joined_numbers", "joined_by", "joined_ends", "sum_of", "later", "_law_begun"] : List Str) ++ (["_law_mixed", "_law_take", "_law_pick", "_law_caught", "_law_steps", "_law_sketch", "_law_made", "_law_at", "_law_row", "_law_form", "_law_joins_right", "law"] : List Str)
def lsN : List Str := (["WaitError", "BadCurve", "BadNumber", "TooMany", "is_number", "are_numbers", "is_from", "is_list", "need_number", "MOST", "MOST_GIVEN", "MOST_MADE", "FEW", "Curve", "is_above"] : List Str) ++ (["is_start", "falls_behind", "least_form", "least_step", "made", "need_curve", "has_none", "first_none", "regular_from", "at", "first_values", "values_behind", "value", "flat", "line"] : List Str) ++ (["need_two", "common_period", "gain_in", "first_above", "above_ahead", "gaps_of", "first_below", "is_below", "slower_first", "last_above", "last_lead", "settled", "shorter_end", "lesser_row", "greater_row"] : List Str) ++ (["added_row", "least_of", "most_of", "joined_numbers", "joined_by", "joined_ends", "sum_of", "later", "_law_begun", "_law_mixed", "_law_take", "_law_pick", "_law_caught", "_law_steps", "_law_sketch"] : List Str) ++ (["_law_made", "_law_at", "_law_row", "_law_form", "_law_joins_right"] : List Str)
def tfN : List Str := ["_law_joins_right", "law"]
def faK : List He.Fa := [.glo "is_number", .glo "are_numbers", .glo "is_from", .glo "is_list", .glo "need_number", .glo "is_above", .glo "is_start", .glo "falls_behind", .glo "least_form", .glo "least_step", .glo "made", .glo "need_curve", .glo "has_none", .glo "first_none", .glo "regular_from", .glo "at", .glo "first_values", .glo "values_behind", .glo "value", .glo "flat", .glo "line", .glo "need_two", .glo "common_period", .glo "gain_in", .glo "first_above", .glo "above_ahead", .glo "gaps_of", .glo "first_below", .glo "is_below", .glo "slower_first", .glo "last_above", .glo "last_lead", .glo "settled", .glo "shorter_end", .glo "lesser_row", .glo "greater_row", .glo "added_row", .glo "least_of", .glo "most_of", .glo "joined_numbers", .glo "joined_by", .glo "joined_ends", .glo "sum_of", .glo "later", .glo "_law_begun", .glo "_law_mixed", .glo "_law_take", .glo "_law_pick", .glo "_law_caught", .glo "_law_steps", .glo "_law_sketch", .glo "_law_made", .glo "_law_at", .glo "_law_row", .glo "_law_form", .glo "_law_joins_right", .glo "law", .glo "WaitError", .glo "BadCurve", .glo "BadNumber", .glo "TooMany", .glo "Curve", .free "isinstance", .free "int", .free "bool", .free "list", .free "tuple", .free "len", .free "all", .free "sorted", .free "zip", .free "min", .free "range", .free "type", .free "abs", .free "repr", .free "max", .int "MOST" 1000000000, .int "MOST_GIVEN" 400, .int "MOST_MADE" 4000, .int "FEW" 12]
def d_num : He.DefD := ⟨("is_number", none), "is_number", "is_number", defArgs (top 7), defBody (top 7), defScope (top 7), [], []⟩
def d_are : He.DefD := ⟨("are_numbers", none), "are_numbers", "are_numbers", defArgs (top 8), defBody (top 8), defScope (top 8), [], []⟩
def d_from : He.DefD := ⟨("is_from", none), "is_from", "is_from", defArgs (top 9), defBody (top 9), defScope (top 9), [], []⟩
def d_isl : He.DefD := ⟨("is_list", none), "is_list", "is_list", defArgs (top 10), defBody (top 10), defScope (top 10), [], []⟩
def d_nnm : He.DefD := ⟨("need_number", none), "need_number", "need_number", defArgs (top 11), defBody (top 11), defScope (top 11), [], []⟩
def d_ini : He.DefD := ⟨("Curve", some "__init__"), "__init__", "Curve.__init__", defArgs (inClass (top 17) 0), defBody (inClass (top 17) 0), defScope (inClass (top 17) 0), [], []⟩
def d_eqc : He.DefD := ⟨("Curve", some "__eq__"), "__eq__", "Curve.__eq__", defArgs (inClass (top 17) 1), defBody (inClass (top 17) 1), defScope (inClass (top 17) 1), [], []⟩
def d_abv : He.DefD := ⟨("is_above", none), "is_above", "is_above", defArgs (top 18), defBody (top 18), defScope (top 18), [], []⟩
def d_sta : He.DefD := ⟨("is_start", none), "is_start", "is_start", defArgs (top 19), defBody (top 19), defScope (top 19), [], []⟩
def d_fal : He.DefD := ⟨("falls_behind", none), "falls_behind", "falls_behind", defArgs (top 20), defBody (top 20), defScope (top 20), [], []⟩
def d_frm : He.DefD := ⟨("least_form", none), "least_form", "least_form", defArgs (top 21), defBody (top 21), defScope (top 21), [], []⟩
def d_stp : He.DefD := ⟨("least_step", none), "least_step", "least_step", defArgs (top 22), defBody (top 22), defScope (top 22), [], []⟩
def d_made : He.DefD := ⟨("made", none), "made", "made", defArgs (top 23), defBody (top 23), defScope (top 23), [], []⟩
def d_ncu : He.DefD := ⟨("need_curve", none), "need_curve", "need_curve", defArgs (top 24), defBody (top 24), defScope (top 24), [], []⟩
def d_has : He.DefD := ⟨("has_none", none), "has_none", "has_none", defArgs (top 25), defBody (top 25), defScope (top 25), [], []⟩
def d_fno : He.DefD := ⟨("first_none", none), "first_none", "first_none", defArgs (top 26), defBody (top 26), defScope (top 26), [], []⟩
def d_reg : He.DefD := ⟨("regular_from", none), "regular_from", "regular_from", defArgs (top 27), defBody (top 27), defScope (top 27), [], []⟩
def d_cat : He.DefD := ⟨("at", none), "at", "at", defArgs (top 28), defBody (top 28), defScope (top 28), [], []⟩
def d_fst : He.DefD := ⟨("first_values", none), "first_values", "first_values", defArgs (top 29), defBody (top 29), defScope (top 29), [], []⟩
def d_beh : He.DefD := ⟨("values_behind", none), "values_behind", "values_behind", defArgs (top 30), defBody (top 30), defScope (top 30), [], []⟩
def d_val : He.DefD := ⟨("value", none), "value", "value", defArgs (top 31), defBody (top 31), defScope (top 31), [], []⟩
def d_flat : He.DefD := ⟨("flat", none), "flat", "flat", defArgs (top 32), defBody (top 32), defScope (top 32), [], []⟩
def d_line : He.DefD := ⟨("line", none), "line", "line", defArgs (top 33), defBody (top 33), defScope (top 33), [], []⟩
def d_two : He.DefD := ⟨("need_two", none), "need_two", "need_two", defArgs (top 35), defBody (top 35), defScope (top 35), [], []⟩
def d_per : He.DefD := ⟨("common_period", none), "common_period", "common_period", defArgs (top 36), defBody (top 36), defScope (top 36), [], []⟩
def d_gai : He.DefD := ⟨("gain_in", none), "gain_in", "gain_in", defArgs (top 37), defBody (top 37), defScope (top 37), [], []⟩
def d_fab : He.DefD := ⟨("first_above", none), "first_above", "first_above", defArgs (top 38), defBody (top 38), defScope (top 38), [], []⟩
def d_ahe : He.DefD := ⟨("above_ahead", none), "above_ahead", "above_ahead", defArgs (top 39), defBody (top 39), defScope (top 39), [], []⟩
def d_gap : He.DefD := ⟨("gaps_of", none), "gaps_of", "gaps_of", defArgs (top 40), defBody (top 40), defScope (top 40), [], []⟩
def d_fbe : He.DefD := ⟨("first_below", none), "first_below", "first_below", defArgs (top 41), defBody (top 41), defScope (top 41), [], []⟩
def d_isb : He.DefD := ⟨("is_below", none), "is_below", "is_below", defArgs (top 42), defBody (top 42), defScope (top 42), [], []⟩
def d_slo : He.DefD := ⟨("slower_first", none), "slower_first", "slower_first", defArgs (top 43), defBody (top 43), defScope (top 43), [], []⟩
def d_lab : He.DefD := ⟨("last_above", none), "last_above", "last_above", defArgs (top 44), defBody (top 44), defScope (top 44), [], []⟩
def d_lle : He.DefD := ⟨("last_lead", none), "last_lead", "last_lead", defArgs (top 45), defBody (top 45), defScope (top 45), [], []⟩
def d_set : He.DefD := ⟨("settled", none), "settled", "settled", defArgs (top 46), defBody (top 46), defScope (top 46), [], []⟩
def d_sho : He.DefD := ⟨("shorter_end", none), "shorter_end", "shorter_end", defArgs (top 47), defBody (top 47), defScope (top 47), [], []⟩
def d_les : He.DefD := ⟨("lesser_row", none), "lesser_row", "lesser_row", defArgs (top 48), defBody (top 48), defScope (top 48), [], []⟩
def d_gre : He.DefD := ⟨("greater_row", none), "greater_row", "greater_row", defArgs (top 49), defBody (top 49), defScope (top 49), [], []⟩
def d_add : He.DefD := ⟨("added_row", none), "added_row", "added_row", defArgs (top 50), defBody (top 50), defScope (top 50), [], []⟩
def d_lof : He.DefD := ⟨("least_of", none), "least_of", "least_of", defArgs (top 51), defBody (top 51), defScope (top 51), [], []⟩
def d_mof : He.DefD := ⟨("most_of", none), "most_of", "most_of", defArgs (top 52), defBody (top 52), defScope (top 52), [], []⟩
def d_jnu : He.DefD := ⟨("joined_numbers", none), "joined_numbers", "joined_numbers", defArgs (top 53), defBody (top 53), defScope (top 53), [], []⟩
def d_jby : He.DefD := ⟨("joined_by", none), "joined_by", "joined_by", defArgs (top 54), defBody (top 54), defScope (top 54), [], []⟩
def d_jen : He.DefD := ⟨("joined_ends", none), "joined_ends", "joined_ends", defArgs (top 55), defBody (top 55), defScope (top 55), [], []⟩
def d_sum : He.DefD := ⟨("sum_of", none), "sum_of", "sum_of", defArgs (top 56), defBody (top 56), defScope (top 56), [], []⟩
def d_ltr : He.DefD := ⟨("later", none), "later", "later", defArgs (top 57), defBody (top 57), defScope (top 57), [], []⟩
def d_beg : He.DefD := ⟨("_law_begun", none), "_law_begun", "_law_begun", defArgs (top 59), defBody (top 59), defScope (top 59), [], []⟩
def d_mix : He.DefD := ⟨("_law_mixed", none), "_law_mixed", "_law_mixed", defArgs (top 60), defBody (top 60), defScope (top 60), [], []⟩
def d_tak : He.DefD := ⟨("_law_take", none), "_law_take", "_law_take", defArgs (top 61), defBody (top 61), defScope (top 61), [], []⟩
def d_pic : He.DefD := ⟨("_law_pick", none), "_law_pick", "_law_pick", defArgs (top 62), defBody (top 62), defScope (top 62), [], []⟩
def d_cau : He.DefD := ⟨("_law_caught", none), "_law_caught", "_law_caught", defArgs (top 63), defBody (top 63), defScope (top 63), [], []⟩
def d_sts : He.DefD := ⟨("_law_steps", none), "_law_steps", "_law_steps", defArgs (top 64), defBody (top 64), defScope (top 64), [], []⟩
def d_ske : He.DefD := ⟨("_law_sketch", none), "_law_sketch", "_law_sketch", defArgs (top 65), defBody (top 65), defScope (top 65), [], []⟩
def d_mad : He.DefD := ⟨("_law_made", none), "_law_made", "_law_made", defArgs (top 66), defBody (top 66), defScope (top 66), [], []⟩
def d_att : He.DefD := ⟨("_law_at", none), "_law_at", "_law_at", defArgs (top 67), defBody (top 67), defScope (top 67), [], []⟩
def d_row : He.DefD := ⟨("_law_row", none), "_law_row", "_law_row", defArgs (top 68), defBody (top 68), defScope (top 68), [], []⟩
def d_lfo : He.DefD := ⟨("_law_form", none), "_law_form", "_law_form", defArgs (top 69), defBody (top 69), defScope (top 69), [], []⟩
def d_jr : He.DefD := ⟨("_law_joins_right", none), "_law_joins_right", "_law_joins_right", defArgs (top 70), defBody (top 70), defScope (top 70), [], []⟩
def d_law : He.DefD := ⟨("law", none), "law", "law", defArgs (top 71), defBody (top 71), defScope (top 71), [], []⟩
def d_EBadCurve : He.DefD := ⟨("BadCurve", some "__init__"), "__init__", "BadCurve.__init__", defArgs (L2.inClass (top 3) 0), defBody (L2.inClass (top 3) 0), defScope (L2.inClass (top 3) 0), [], []⟩
def d_EBadNumber : He.DefD := ⟨("BadNumber", some "__init__"), "__init__", "BadNumber.__init__", defArgs (L2.inClass (top 4) 0), defBody (L2.inClass (top 4) 0), defScope (L2.inClass (top 4) 0), [], []⟩
def d_ETooMany : He.DefD := ⟨("TooMany", some "__init__"), "__init__", "TooMany.__init__", defArgs (L2.inClass (top 5) 0), defBody (L2.inClass (top 5) 0), defScope (L2.inClass (top 5) 0), [], []⟩
def fnK : List He.DefD := [d_num, d_are, d_from, d_isl, d_nnm, d_ini, d_eqc, d_abv, d_sta, d_fal, d_frm, d_stp, d_made, d_ncu, d_has, d_fno, d_reg, d_cat, d_fst, d_beh, d_val, d_flat, d_line, d_two, d_per, d_gai, d_fab, d_ahe, d_gap, d_fbe, d_isb, d_slo, d_lab, d_lle, d_set, d_sho, d_les, d_gre, d_add, d_lof, d_mof, d_jnu, d_jby, d_jen, d_sum, d_ltr, d_beg, d_mix, d_tak, d_pic, d_cau, d_sts, d_ske, d_mad, d_att, d_row, d_lfo, d_jr, d_law, d_EBadCurve, d_EBadNumber, d_ETooMany]
def moreB (K : PySem.W.Frag) : Bool := curB K (He.ga K "Curve") (He.fAd K ("Curve", some "__init__")) (He.fAd K ("Curve", some "__eq__")) && (WH.errX K (He.ga K "BadCurve") (He.fAd K ("BadCurve", some "__init__")) "part" && (WH.errX K (He.ga K "BadNumber") (He.fAd K ("BadNumber", some "__init__")) "part" && (WH.errX K (He.ga K "TooMany") (He.fAd K ("TooMany", some "__init__")) "most" && (exG K (He.ga K "TooMany") (He.ga K "WaitError") && (decide (He.ga K "lesser_row" ≠ He.ga K "greater_row") && (decide (He.ga K "lesser_row" ≠ He.ga K "added_row") && (decide (He.ga K "greater_row" ≠ He.ga K "added_row") && (decide ((WH.ctOf K "_law_joins_right").2 ≠ (WH.ctOf K "law").2) && (decide (PySem.W.nsIn K mainGlobals "gcd" = some (some (.builtin "math.gcd"))) && (decide (PySem.W.nsIn K mainGlobals "lcm" = some (some (.builtin "math.lcm")))))))))))))
abbrev R : PySem.W.OpenRow := PySem.W.OpenLaw.row PySem.Challenge.rw_worstwait_k08_made_curves_at_their_bound
abbrev hk : PySem.W.Hook := WH.hookX csN msN fsN tfN faK fnK moreB
def ob (s : PySem.W.SharedT) : He.AlD × Bool := WH.obsX csN msN fsN tfN faK fnK moreB (HandSHeadRun.getT s)
theorem ob_eq (s : PySem.W.SharedT) : ob s = hk.obs s.abs := WH.obsX_eq (HandSHeadRun.getT_eq s)
end WK
end

section
set_option Elab.async false
set_option linter.all false
set_option maxRecDepth 100000
set_option maxHeartbeats 0
namespace WK
open PySem L2 WW
theorem run (w : World) : HandSHeadRun.RunEqI R (PySem.W.view R.prog [0, 71]) hk ob 10000 lsN w := by
  unfold HandSHeadRun.RunEqI
  kernel_rfl
end WK
end

section
set_option Elab.async false
set_option linter.all false
set_option maxRecDepth 100000
set_option maxHeartbeats 4000000
/-! Lists and tuples alike: slices, walks. -/
namespace WQ
open PySem PySem.Spec PyProof.Rows L2 RZ
def SeqA (K : PySem.W.Frag) (H : Hp) (a : Addr) (xs : List V) : Prop := SqL K H a xs ∨ SqT K H a xs
theorem SeqA.same {K : PySem.W.Frag} {H H' : Hp} {a : Addr} {xs : List V} (h : SeqA K H a xs) (s : Same H H') : SeqA K H' a xs := by
  rcases h with h | h
  · exact .inl (s.seq h)
  · exact .inr (SqT.ext h s)
theorem new_same {H : Hp} {p : Addr} {o : HO} (h : H p = none) : Same H (upd H p o) := fun b u e => by rw [upd_ne (ne_of_none e h)]; exact e
def rSlS (K : PySem.W.Frag) : V → Option Int → Option Int → Hp → VK → Prop := fun x lo hi H Q => ∃ a xs, x = .ref a ∧ SeqA K H a xs ∧
  ∀ (H' : Hp) (p : Addr), Same H H' → SeqA K H' p (cutV xs lo hi) → (∀ ys, SqT K H a ys → SqT K H' p (cutV xs lo hi)) → Q (.ref p) H'
theorem cut_whole {xs : List V} {lo hi : Option Int} (h : HT.sIx xs.length 0 lo = 0 ∧ HT.sIx xs.length xs.length hi = xs.length) : cutV xs lo hi = xs := by
  unfold cutV
  rw [h.1, h.2]
  simp
section
variable {X : Cx}
theorem sl_seqB : SlR X (rSlS X.K) := by
  intro pins s σ H x v vl vu lo hi sl Q I rx hs pl pu h
  obtain ⟨a, xs, rfl, hx, q⟩ := h
  rcases hx with hx | hx
  · refine sl_list pins s σ H _ v vl vu lo hi sl Q I rx hs pl pu ⟨a, xs, rfl, hx, fun p hp => q _ p (new_same hp) (.inl (SqL.of upd_same)) fun ys hy => ?_⟩
    obtain ⟨its, rv, pl1, _⟩ := I.list hx
    obtain ⟨its2, rv2, pt, _⟩ := I.tuple hy
    obtain ⟨o, e1, e2, _⟩ := pt
    obtain ⟨o', e1', e2', _⟩ := pl1.isList
    rw [e1] at e1'
    cases e1'
    rw [e2] at e2'
    exact absurd (Value.type.inj e2') (by decide)
  · refine sl_tupA pins s σ H _ v vl vu lo hi sl Q I rx hs pl pu ⟨a, xs, rfl, hx, fun w => ?_, fun _ p hp => q _ p (new_same hp) (.inr (SqT.of upd_same)) fun _ _ => SqT.of upd_same⟩
    have e := cut_whole w
    exact q H a (fun _ _ z => z) (by rw [e]; exact .inr hx) fun _ _ => by rw [e]; exact hx
end
end WQ
end

section
set_option Elab.async false
set_option linter.all false
set_option maxRecDepth 100000
set_option maxHeartbeats 4000000
/-! ranges with a step above 0: walked, and as the list of their numbers -/
namespace L2
open PySem PySem.Spec PyProof.Rows
theorem rangeSize_up {i j c : Int} (hc : 0 < c) {n : Nat} (h1 : j - i ≤ n * c) (h2 : ∀ m : Nat, m < n → i + m * c < j) : Builtin.Range.rangeSize i j c = n := by
  unfold Builtin.Range.rangeSize
  rw [if_pos hc]
  split
  · rename_i l
    have hn : 0 < n := by
      rcases Nat.eq_zero_or_pos n with z | z
      · subst z
        simp at h1
        omega
      · exact z
    have h3 := h2 (n - 1) (by omega)
    have e1 : ((n - 1 : Nat) : Int) = (n : Int) - 1 := by omega
    rw [e1] at h3
    have e : (j - i - 1) / c = (n : Int) - 1 := by
      refine (Int.ediv_eq_iff_of_pos hc).mpr ⟨?_, ?_⟩
      · omega
      · have : ((n : Int) - 1) * c + c = n * c := by rw [Int.sub_mul]; omega
        omega
    omega
  · rename_i l
    rcases Nat.eq_zero_or_pos n with z | z
    · subst z
      rfl
    · have h3 := h2 0 z
      simp at h3
      omega
/-- the turns of range(i, j, c), c of any size below 2 ^ 60 -/
structure RgW (i j c : Int) (n : Nat) : Prop where
  c0 : c ≠ 0
  c1 : c.natAbs.log2 < 9000
  sm : Builtin.Range.small i j c = true
  sz : Builtin.Range.rangeSize i j c = n
theorem RgW.up {i j c : Int} {n : Nat} (hi : -(2 ^ 60) ≤ i) (hi' : i < 2 ^ 60) (hj : -(2 ^ 60) ≤ j) (hj' : j < 2 ^ 60) (hc : 0 < c) (hc' : c < 2 ^ 60) (hn : n < 2 ^ 60) (h1 : j - i ≤ n * c) (h2 : ∀ m : Nat, m < n → i + m * c < j) : RgW i j c n := by
  have z := rangeSize_up hc h1 h2
  refine ⟨by omega, ?_, ?_, z⟩
  · have : c.natAbs.log2 < 60 := (Nat.log2_lt (by omega)).mpr (by omega)
    omega
  · unfold Builtin.Range.small
    rw [z]
    simp only [Builtin.Range.rangeFitsLong, Bool.and_eq_true, Bool.or_eq_true, decide_eq_true_eq, beq_iff_eq, if_pos hc]
    omega
def iRngW (ta : TA) : TI := fun σ H R => ta σ H fun vs H1 => ∃ (i j c : Int) (n : Nat), vs = [.int i, .int j, .int c] ∧ RgW i j c n ∧ R (Itc i c n) H1
section
variable {X : Cx} {tg : Expr}
theorem pi_rangeW {a b c : Expr} {ta : TA} {p pos : Pos} (hg : Gl X "range") (hm : X.mg "range" = none) (ha : PA X [a, b, c] ta)
    (hs : starEach [a, b, c] X.env = (false, eval a X.env) :: starEach [b, c] X.env := by rfl) (hpl : (backTo pos (starEach [b, c] X.env)).any (·.1) = false := by rfl) :
    PI X tg (.Call (.Name "range" p) [a, b, c] [] pos) (iRngW ta) := by
  refine ⟨fun pins s σ H R I h => ?_⟩
  refine Call_ (ld_blt I hg hm boot_range (PyProof.Rows.callWith_type1 (thn (ha.run pos pins s σ H _ I h) fun us s1 ⟨vs, H1, I1, r1, q1⟩ => ?_) hs hpl))
  obtain ⟨i, j, k, n, e, ⟨c0, c1, c2, c3⟩, q⟩ := q1
  subst e
  cases r1 with
  | cons r rr =>
    cases rr with
    | cons r' rr =>
      cases rr with
      | cons r'' rr =>
        cases rr
        obtain ⟨t, rfl⟩ := r
        obtain ⟨t', rfl⟩ := r'
        obtain ⟨t'', rfl⟩ := r''
        refine call_range_3 c0 ?_ (.inl (PyProof.noPylong_of_log2 c1))
        refine wpAny_pyIter_range (IsRange.new ..) c2 ?_
        have I2 : Inv X pins σ H1 { s1 with heap := s1.heap.push { cls := .type "range", data := .fields #[.int i t, .int j t', .int k t''] } } := I1.kept (t' := s1.toks) fun b o e => Heap.get?_push_of_some _ e
        refine pi_one (tk := s1.toks) I2 _ (turn_rangeC _ i k n) ?_ q
        have e1 : i + ((0 : Nat) : Int) * k = i := by simp
        have e2 : (n : Int) - ((0 : Nat) : Int) = Builtin.Range.rangeSize i j k := by rw [c3]; simp
        show IsRangeIter _ _ (i + ((0 : Nat) : Int) * k) ((n : Int) - ((0 : Nat) : Int)) k
        rw [e1, e2]
        exact Heap.get?_push_size _ rfl
/-- list(range(i, j, c)) -/
def rgC (i c : Int) (n : Nat) : List V := (List.range n).map fun (m : Nat) => V.int (i + m * c)
theorem rgC_length (i c : Int) (n : Nat) : (rgC i c n).length = n := by unfold rgC; rw [List.length_map, List.length_range]
def tLstRgW (ta : TA) : TE := fun σ H Q => ta σ H fun vs H1 => ∃ (i j c : Int) (n : Nat), vs = [.int i, .int j, .int c] ∧ RgW i j c n ∧ n ≤ 1000000 ∧ ∀ q, H1 q = none → Q (.ref q) (upd H1 q (.lst (rgC i c n)))
theorem pe_listRgW {a b c : Expr} {ta : TA} {p pos p' pos' : Pos} (hcm : X.calm = true) (hgl : Gl X "list") (hml : X.mg "list" = none) (hg : Gl X "range") (hm : X.mg "range" = none) (ha : PA X [a, b, c] ta)
    (hs : starEach [a, b, c] X.env = (false, eval a X.env) :: starEach [b, c] X.env := by rfl) (hpl : (backTo pos' (starEach [b, c] X.env)).any (·.1) = false := by rfl)
    (na : starEach [Expr.Call (.Name "range" p') [a, b, c] [] pos'] X.env = (false, eval (.Call (.Name "range" p') [a, b, c] [] pos') X.env) :: starEach [] X.env := by rfl) :
    PE X (.Call (.Name "list" p) [.Call (.Name "range" p') [a, b, c] [] pos'] [] pos) (tLstRgW ta) := by
  refine ⟨fun pins s σ H Q I h => ?_⟩
  refine Call_ (ld_blt I hgl hml boot_list (PyProof.Rows.callWith_type1 (args_cons ?_ na) na))
  refine Call_ (ld_blt I hg hm boot_range (PyProof.Rows.callWith_type1 (thn (ha.run pos' pins s σ H _ I h) fun us s1 ⟨vs, H1, I1, r1, q1⟩ => ?_) hs hpl))
  obtain ⟨i, j, k, n, ev, ⟨c0, c1, c2, c3⟩, hn, q⟩ := q1
  subst ev
  cases r1 with
  | cons r rr =>
    cases rr with
    | cons r' rr =>
      cases rr with
      | cons r'' rr =>
        cases rr
        obtain ⟨t, rfl⟩ := r
        obtain ⟨t', rfl⟩ := r'
        obtain ⟨t'', rfl⟩ := r''
        refine call_range_3 c0 ?_ (.inl (PyProof.noPylong_of_log2 c1))
        have I2 : Inv X pins σ H1 { s1 with heap := s1.heap.push { cls := .type "range", data := .fields #[.int i t, .int j t', .int k t''] } } := I1.kept (t' := s1.toks) fun b o e => Heap.get?_push_of_some _ e
        refine args_nil ?_
        refine call_list_range (n := n) (I2.ok.hd hcm) (IsRange.new ..) c2 c3 (Nat.le_trans hn (by decide)) fun h' tk acc c' hk e' hi => ?_
        refine ⟨.ref _, upd H1 _ (.lst (rgC i k n)), I2.laid hk (Nat.le_refl _) (show ObjOk X.prog X.w _ _ _ (.lst (rgC i k n)) from ⟨?_, acc.toList, c', ?_, ?_⟩), rfl, q _ (I2.hok.fresh (Nat.le_refl _))⟩
        · rw [rgC_length, sizeLine_eq]; omega
        · have e : acc.toList.length = n := by rw [Array.length_toList]; exact hi.1
          unfold rgC
          rw [← e]
          refine vals_of_get acc.toList _ fun j u hj => ?_
          obtain ⟨t, rfl⟩ := hi.2 j u (by rw [← hj, Array.getElem?_toList])
          exact ⟨t, rfl⟩
        · rw [Array.toArray_toList]; exact e'
end
end L2
end

section
set_option linter.all false
/-! least forms of rows that go on by one period: mathematics alone -/
namespace MF
def QP (f : Nat → Int) (q : Nat) (r : Int) (b : Nat) : Prop := ∀ j, b ≤ j → f (j + q) = f j + r
def D (f : Nat → Int) (i : Nat) : Int := f (i + 1) - f i
def DP (f : Nat → Int) (q b : Nat) : Prop := ∀ j, b ≤ j → D f (j + q) = D f j
theorem QP.mul {f : Nat → Int} {q : Nat} {r : Int} {b : Nat} (h : QP f q r b) {j : Nat} (hj : b ≤ j) : ∀ k : Nat, f (j + k * q) = f j + k * r
  | 0 => by simp
  | k + 1 => by
    have e : j + (k + 1) * q = (j + k * q) + q := by rw [Nat.succ_mul]; omega
    rw [e, h _ (by omega), h.mul hj k]
    have : ((k + 1 : Nat) : Int) * r = (k : Int) * r + r := by rw [Int.natCast_add, Int.add_mul]; simp
    omega
theorem DP.mul {f : Nat → Int} {q b : Nat} (h : DP f q b) {j : Nat} (hj : b ≤ j) : ∀ k : Nat, D f (j + k * q) = D f j
  | 0 => by simp
  | k + 1 => by
    have e : j + (k + 1) * q = (j + k * q) + q := by rw [Nat.succ_mul]; omega
    rw [e, h _ (by omega), h.mul hj k]
theorem QP.dp {f : Nat → Int} {q : Nat} {r : Int} {b : Nat} (h : QP f q r b) : DP f q b := by
  intro j hj
  have h1 := h j hj
  have h2 := h (j + 1) (by omega)
  have e : j + 1 + q = j + q + 1 := by omega
  rw [e] at h2
  unfold D
  omega
theorem DP.qp {f : Nat → Int} {q b : Nat} (h : DP f q b) : QP f q (f (b + q) - f b) b := by
  have key : ∀ k : Nat, f (b + k + q) = f (b + k) + (f (b + q) - f b) := by
    intro k
    induction k with
    | zero => show f (b + 0 + q) = _; rw [Nat.add_zero]; omega
    | succ k ih =>
      have d := h (b + k) (by omega)
      unfold D at d
      have e : b + (k + 1) + q = b + k + q + 1 := by omega
      have e2 : b + (k + 1) = b + k + 1 := by omega
      rw [e, e2]
      omega
  intro j hj
  have := key (j - b)
  have e : b + (j - b) = j := by omega
  rw [e] at this
  exact this
/-- from some place on -/
def DE (f : Nat → Int) (q : Nat) : Prop := ∃ b, DP f q b
theorem DE.mod {f : Nat → Int} {m n : Nat} (hm : DE f m) (hn : DE f n) : DE f (n % m) := by
  obtain ⟨b, h1⟩ := hm
  obtain ⟨c, h2⟩ := hn
  refine ⟨b + c, fun j hj => ?_⟩
  have a1 := h1.mul (j := j + n % m) (by omega) (n / m)
  have a2 := h2 j (by omega)
  have e : j + n % m + n / m * m = j + n := by
    have := Nat.mod_add_div n m
    rw [Nat.mul_comm] at this
    omega
  rw [e] at a1
  rw [← a1, a2]
theorem DE.gcd {f : Nat → Int} : ∀ (m n : Nat), DE f m → DE f n → DE f (Nat.gcd m n) := by
  intro m n
  induction m, n using Nat.gcd.induction with
  | H0 n => intro _ h; rw [Nat.gcd_zero_left]; exact h
  | H1 m n hm ih =>
    intro h1 h2
    rw [Nat.gcd_rec]
    exact ih (h1.mod h2) h1
theorem DP.pull {f : Nat → Int} {p b e : Nat} (hp : 0 < p) (h : DP f p b) (he : DE f e) : DP f e b := by
  obtain ⟨c, hc⟩ := he
  intro j hj
  have a1 := h.mul (j := j + e) (by omega) c
  have a2 := h.mul hj c
  have g : c ≤ j + c * p := by
    have : c * 1 ≤ c * p := Nat.mul_le_mul_left c hp
    omega
  have a3 := hc (j + c * p) g
  have e1 : j + c * p + e = j + e + c * p := by omega
  rw [e1] at a3
  rw [← a1, a3, a2]
/-- the least form's parts -/
structure IsForm (f : Nat → Int) (q : Nat) (r : Int) (b : Nat) : Prop where
  pos : 0 < q
  qp : QP f q r b
  least : ∀ q', 0 < q' → DE f q' → q ≤ q'
  low : b = 0 ∨ f (b - 1 + q) ≠ f (b - 1) + r
theorem QP.rise {f : Nat → Int} {q : Nat} {r r' : Int} {b b' : Nat} (h : QP f q r b) (h' : QP f q r' b') : r = r' := by
  have a1 := h (b + b') (by omega)
  have a2 := h' (b + b') (by omega)
  omega
theorem IsForm.uniq {f : Nat → Int} {q q' : Nat} {r r' : Int} {b b' : Nat} (h : IsForm f q r b) (h' : IsForm f q' r' b') : q = q' ∧ r = r' ∧ b = b' := by
  have e : q = q' := Nat.le_antisymm (h.least _ h'.pos ⟨_, h'.qp.dp⟩) (h'.least _ h.pos ⟨_, h.qp.dp⟩)
  subst e
  have e2 := h.qp.rise h'.qp
  subst e2
  refine ⟨rfl, rfl, ?_⟩
  have lt : ∀ {b b' : Nat}, IsForm f q r b → IsForm f q r b' → ¬ b < b' := by
    intro b b' h h' l
    rcases h'.low with z | z
    · omega
    · exact z (h.qp (b' - 1) (by omega))
  have h1 := lt h h'
  have h2 := lt h' h
  omega
theorem IsForm.same {f f' : Nat → Int} {q : Nat} {r : Int} {b : Nat} (h : IsForm f q r b) (e : ∀ j, f j = f' j) : IsForm f' q r b := by
  have : f = f' := funext e
  rw [← this]
  exact h
theorem QP.ext {f f' : Nat → Int} {q : Nat} {r : Int} {b : Nat} (hq : 0 < q) (h : QP f q r b) (h' : QP f' q r b) (e : ∀ j, j < b + q → f j = f' j) : ∀ j, f j = f' j := by
  intro j
  induction j using Nat.strongRecOn with
  | ind j ih =>
    by_cases l : j < b + q
    · exact e j l
    · have i := ih (j - q) (by omega)
      have a1 := h (j - q) (by omega)
      have a2 := h' (j - q) (by omega)
      have e1 : j - q + q = j := by omega
      rw [e1] at a1 a2
      omega
/-- equal up to far: equal -/
theorem QP.far {f f' : Nat → Int} {p p' : Nat} {g g' : Int} {b b' c : Nat} (hp : 0 < p) (hp' : 0 < p') (h : QP f p g b) (h' : QP f' p' g' b') (hc : b < c) (hc' : b' < c)
    (e : ∀ j, j < c + p * p' → f j = f' j) : ∀ j, f j = f' j := by
  have P : 0 < p * p' := Nat.mul_pos hp hp'
  have q1 : QP f (p * p') (p' * g) (c - 1) := by
    intro j hj
    have := h.mul (j := j) (by omega) p'
    rw [Nat.mul_comm] at this
    exact this
  have q2 : QP f' (p * p') (p * g') (c - 1) := by
    intro j hj
    exact h'.mul (j := j) (by omega) p
  have r : (p' : Int) * g = p * g' := by
    have a1 := q1 (c - 1) (by omega)
    have a2 := q2 (c - 1) (by omega)
    have a3 := e (c - 1) (by omega)
    have a4 := e (c - 1 + p * p') (by omega)
    omega
  rw [r] at q1
  exact q1.ext P q2 (fun j hj => e j (by omega))
/-! ### the way to it: steps that divide the period -/
/-- what the program asks of a step -/
def A (f : Nat → Int) (b p s : Nat) : Prop := p % s = 0 ∧ ∀ i, i < p - s → D f (b + i + s) = D f (b + i)
theorem A.dp {f : Nat → Int} {b p s : Nat} (hs : 0 < s) (hsp : s ≤ p) (h : DP f p b) (a : A f b p s) : DP f s b := by
  obtain ⟨hd, ha⟩ := a
  have hp : 0 < p := by omega
  -- up the steps
  have up : ∀ (k j : Nat), j + k * s < p → D f (b + (j + k * s)) = D f (b + j) := by
    intro k
    induction k with
    | zero => intro j _; simp
    | succ k ih =>
      intro j hj
      have e : j + (k + 1) * s = j + k * s + s := by rw [Nat.succ_mul]; omega
      have h1 := ha (j + k * s) (by omega)
      have e2 : b + (j + (k + 1) * s) = b + (j + k * s) + s := by omega
      rw [e2, h1]
      exact ih j (by omega)
  -- within one period
  have base : ∀ i, i < p → D f (b + i + s) = D f (b + i) := by
    intro i hi
    by_cases l : i < p - s
    · exact ha i l
    · have hm : p = p / s * s := by
        have := Nat.mod_add_div p s
        rw [hd, Nat.mul_comm] at this
        omega
      have hk : 0 < p / s := Nat.div_pos hsp hs
      have e0 : p - s = (p / s - 1) * s := by rw [Nat.sub_mul, ← hm]; omega
      have j := i - (p - s)
      have u := up (p / s - 1) (i - (p - s)) (by rw [← e0]; omega)
      rw [← e0] at u
      have e1 : i - (p - s) + (p - s) = i := by omega
      rw [e1] at u
      have w := h (b + (i - (p - s))) (by omega)
      have e2 : b + (i - (p - s)) + p = b + i + s := by omega
      rw [e2] at w
      rw [w, u]
  intro j hj
  have e : j = b + (j - b) % p + (j - b) / p * p := by
    have := Nat.mod_add_div (j - b) p
    rw [Nat.mul_comm] at this
    omega
  have m := base ((j - b) % p) (Nat.mod_lt _ hp)
  have a1 := h.mul (j := b + (j - b) % p) (by omega) ((j - b) / p)
  have a2 := h.mul (j := b + (j - b) % p + s) (by omega) ((j - b) / p)
  have e2 : b + (j - b) % p + s + (j - b) / p * p = j + s := by omega
  rw [← e] at a1
  rw [e2] at a2
  rw [a1, a2, m]
theorem A.of_dp {f : Nat → Int} {b p s : Nat} (hd : p % s = 0) (h : DP f s b) : A f b p s := ⟨hd, fun i _ => h (b + i) (by omega)⟩
/-- the first step that is right is the least of all -/
theorem least_of {f : Nat → Int} {b p s : Nat} (hp : 0 < p) (h : DP f p b) (hs : 0 < s) (hsp : s ≤ p) (hmin : ∀ t, 0 < t → t < s → ¬ A f b p t) : ∀ q', 0 < q' → DE f q' → s ≤ q' := by
  intro q hq hq'
  have ge : DE f (Nat.gcd p q) := DE.gcd p q ⟨b, h⟩ hq'
  have gp : 0 < Nat.gcd p q := Nat.gcd_pos_of_pos_left _ hp
  have gq : Nat.gcd p q ≤ q := Nat.le_of_dvd hq (Nat.gcd_dvd_right p q)
  have gd : p % Nat.gcd p q = 0 := Nat.mod_eq_zero_of_dvd (Nat.gcd_dvd_left p q)
  by_cases l : Nat.gcd p q < s
  · exact absurd (A.of_dp gd (h.pull hp ge)) (hmin _ gp l)
  · omega
/-- what a right step rises by -/
theorem rise_of {f : Nat → Int} {b p s : Nat} {g : Int} (hs : 0 < s) (hsp : s ≤ p) (h : QP f p g b) (hd : p % s = 0) (ds : DP f s b) :
    g * s = (f (b + s) - f b) * p := by
  have q := ds.qp
  have m := q.mul (j := b) (by omega) (p / s)
  have hm : p / s * s = p := by
    have := Nat.mod_add_div p s
    rw [hd, Nat.mul_comm] at this
    omega
  rw [hm] at m
  have hh := h b (by omega)
  have e : g = ((p / s : Nat) : Int) * (f (b + s) - f b) := by omega
  have hm' : ((p / s : Nat) : Int) * (s : Int) = (p : Int) := by
    rw [← Int.natCast_mul, hm]
  calc g * s = ((p / s : Nat) : Int) * (f (b + s) - f b) * s := by rw [← e]
    _ = (f (b + s) - f b) * (((p / s : Nat) : Int) * s) := by rw [Int.mul_comm ((p / s : Nat) : Int), Int.mul_assoc]
    _ = _ := by rw [hm']
/-- what the law asks of a part: the values of two periods -/
def B (f : Nat → Int) (b p s : Nat) (m : Int) : Prop := ∀ k, s ≤ k → k < 2 * p → f (b + k) = f (b + (k - s)) + m
theorem B.a {f : Nat → Int} {b p s : Nat} {m : Int} (hs : 0 < s) (hd : p % s = 0) (h : B f b p s m) : A f b p s := by
  refine ⟨hd, fun i hi => ?_⟩
  have h1 := h (i + s) (by omega) (by omega)
  have h2 := h (i + s + 1) (by omega) (by omega)
  have e1 : i + s - s = i := by omega
  have e2 : i + s + 1 - s = i + 1 := by omega
  rw [e1] at h1
  rw [e2] at h2
  have e3 : b + (i + s) = b + i + s := by omega
  have e4 : b + (i + s + 1) = b + i + s + 1 := by omega
  have e5 : b + (i + 1) = b + i + 1 := by omega
  rw [e3] at h1
  rw [e4, e5] at h2
  unfold D
  omega
theorem B.of_qp {f : Nat → Int} {b p s : Nat} {m : Int} (h : QP f s m b) : B f b p s m := by
  intro k hk _
  have := h (b + (k - s)) (by omega)
  have e : b + (k - s) + s = b + k := by omega
  rw [e] at this
  exact this
/-- going down -/
def down (P : Nat → Bool) : Nat → Nat
  | 0 => 0
  | b + 1 => if P b then down P b else b + 1
theorem down_le (P : Nat → Bool) : ∀ b, down P b ≤ b
  | 0 => Nat.le_refl _
  | b + 1 => by
    unfold down
    split
    · exact Nat.le_succ_of_le (down_le P b)
    · exact Nat.le_refl _
theorem down_all (P : Nat → Bool) : ∀ b j, down P b ≤ j → j < b → P j = true
  | 0, j, _, h => absurd h (Nat.not_lt_zero j)
  | b + 1, j, h1, h2 => by
    unfold down at h1
    split at h1
    · rename_i hb
      by_cases e : j = b
      · rw [e]; exact hb
      · exact down_all P b j h1 (by omega)
    · omega
theorem down_low (P : Nat → Bool) : ∀ b, down P b = 0 ∨ P (down P b - 1) = false
  | 0 => .inl rfl
  | b + 1 => by
    unfold down
    split
    · exact down_low P b
    · rename_i hb
      exact .inr (by simpa using hb)
theorem form_of {f : Nat → Int} {b p s : Nat} {g : Int} (hp : 0 < p) (h : QP f p g b) (hs : 0 < s) (hsp : s ≤ p) (hA : A f b p s) (hmin : ∀ t, 0 < t → t < s → ¬ A f b p t) :
    IsForm f s (f (b + s) - f b) (down (fun j => decide (f (j + s) = f j + (f (b + s) - f b))) b) := by
  have ds := hA.dp hs hsp h.dp
  refine ⟨hs, fun j hj => ?_, least_of hp h.dp hs hsp hmin, ?_⟩
  · by_cases l : j < b
    · exact of_decide_eq_true (down_all _ b j hj l)
    · exact ds.qp j (by omega)
  · rcases down_low (fun j => decide (f (j + s) = f j + (f (b + s) - f b))) b with z | z
    · exact .inl z
    · exact .inr (of_decide_eq_false z)
/-- the period itself is right -/
theorem A.self {f : Nat → Int} {b p : Nat} : A f b p p := ⟨Nat.mod_self p, fun i hi => by omega⟩
/-- the row's value function -/
def at_ (s : List Int) (p : Nat) (g : Int) (b : Nat) : Int :=
  if b < s.length then s.getD b 0 else s.getD (b - ((b - s.length) / p + 1) * p) 0 + ((b - s.length) / p + 1 : Nat) * g
theorem at_qp {s : List Int} {p : Nat} {g : Int} (hp : 0 < p) (hn : p ≤ s.length) : QP (at_ s p g) p g (s.length - p) := by
  intro j hj
  unfold at_
  by_cases l : j < s.length
  · have e0 : (j + p - s.length) / p = 0 := Nat.div_eq_of_lt (by omega)
    rw [if_pos l, if_neg (by omega), e0]
    have e1 : j + p - (0 + 1) * p = j := by omega
    rw [e1]
    simp
  · have e0 : (j + p - s.length) / p = (j - s.length) / p + 1 := by
      have : j + p - s.length = (j - s.length) + p := by omega
      rw [this, Nat.add_div_right _ hp]
    rw [if_neg l, if_neg (by omega), e0]
    have e1 : j + p - ((j - s.length) / p + 1 + 1) * p = j - ((j - s.length) / p + 1) * p := by
      rw [Nat.succ_mul ((j - s.length) / p + 1)]
      omega
    rw [e1]
    have : (((j - s.length) / p + 1 + 1 : Nat) : Int) * g = (((j - s.length) / p + 1 : Nat) : Int) * g + g := by
      rw [Int.natCast_add, Int.add_mul]; simp
    omega
theorem at_low {s : List Int} {p : Nat} {g : Int} {b : Nat} (h : b < s.length) : at_ s p g b = s.getD b 0 := if_pos h
end MF
end

section
set_option linter.all false
/-! least steps: all that is asked of a step is asked of a part of the period that the growth allows -/
namespace MF
theorem A.dvd {f : Nat → Int} {b p s : Nat} {g : Int} (hp : 0 < p) (h : QP f p g b) (hs : 0 < s) (hsp : s ≤ p) (a : A f b p s) : p / Nat.gcd p g.natAbs ∣ s := by
  have ds := a.dp hs hsp h.dp
  have r := rise_of hs hsp h a.1 ds
  have d : (p : Int) ∣ g * s := ⟨f (b + s) - f b, by rw [r, Int.mul_comm]⟩
  have d2 : p ∣ g.natAbs * s := by
    have := Int.natAbs_dvd_natAbs.mpr d
    rw [Int.natAbs_mul] at this
    exact this
  have hG : 0 < Nat.gcd p g.natAbs := Nat.gcd_pos_of_pos_left _ hp
  have c := Nat.coprime_div_gcd_div_gcd hG
  refine c.dvd_of_dvd_mul_left ?_
  obtain ⟨k, hk⟩ := d2
  refine ⟨k, ?_⟩
  refine Nat.eq_of_mul_eq_mul_left hG ?_
  have e1 : Nat.gcd p g.natAbs * (p / Nat.gcd p g.natAbs) = p := Nat.mul_div_cancel' (Nat.gcd_dvd_left ..)
  have e2 : Nat.gcd p g.natAbs * (g.natAbs / Nat.gcd p g.natAbs) = g.natAbs := Nat.mul_div_cancel' (Nat.gcd_dvd_right ..)
  rw [← Nat.mul_assoc, ← Nat.mul_assoc, e1, e2, hk]
theorem step_pos {p g : Nat} (hp : 0 < p) : 0 < p / Nat.gcd p g := Nat.div_pos (Nat.le_of_dvd hp (Nat.gcd_dvd_left ..)) (Nat.gcd_pos_of_pos_left _ hp)
theorem step_le {p g : Nat} : p / Nat.gcd p g ≤ p := Nat.div_le_self ..
end MF
end

section
set_option Elab.async false
set_option linter.all false
set_option maxRecDepth 100000
set_option maxHeartbeats 4000000
namespace WW
open PySem L2 WO WG RZ WQ
abbrev sNum : Stmt := top 7
abbrev sAre : Stmt := top 8
abbrev sFrom : Stmt := top 9
abbrev sIsList : Stmt := top 10
abbrev sCurve : Stmt := top 17
abbrev sAbove : Stmt := top 18
abbrev sStart : Stmt := top 19
abbrev sFalls : Stmt := top 20
abbrev sForm : Stmt := top 21
abbrev sStep : Stmt := top 22
theorem same_new {H : Hp} {p : Addr} {o : HO} (h : H p = none) : Same H (upd H p o) := fun b u e => by rw [upd_ne (ne_of_none e h)]; exact e
theorem alloc {H H' : Hp} {p : Addr} {o : HO} (e : upd H p o = H') (h : H p = none) : Same H H' ∧ H' p = some o := by
  subst e
  exact ⟨same_new h, upd_same⟩
theorem seqT {K : PySem.W.Frag} {H H' : Hp} {a : Addr} {xs : List V} (s : Same H H') (h : SqT K H a xs) : SqT K H' a xs := SqT.ext h s
theorem tyX_seqL {K : PySem.W.Frag} {H : Hp} {a : Addr} {xs : List V} (h : SqL K H a xs) : TyX K H (.ref a) (.type "list") := by
  rcases h with (h | ⟨o, h⟩) | ⟨o, its, n, h, hc, -⟩
  · exact .base (.lst h)
  · exact .base (.frz h)
  · exact .kList h hc
theorem tyX_seqT {K : PySem.W.Frag} {H : Hp} {a : Addr} {xs : List V} (h : SqT K H a xs) : TyX K H (.ref a) (.type "tuple") := by
  rcases h with (h | ⟨o, h⟩) | ⟨o, its, n, h, hc, -⟩
  · exact .base (.tup h)
  · exact .fTuple h
  · exact .kTuple h hc
theorem bT {p : Prop} [Decidable p] (h : p) : V.bl (decide p) = V.bl true := by rw [decide_eq_true h]
theorem bF {p : Prop} [Decidable p] (h : ¬ p) : V.bl (decide p) = V.bl false := by rw [decide_eq_false h]
theorem all_rep (n : Nat) : (List.replicate n true).all id = true := by
  induction n with
  | zero => rfl
  | succ n ih => rw [List.replicate_succ, List.all_cons, ih]; rfl
theorem any_rep (n : Nat) : (List.replicate n false).any id = false := by
  induction n with
  | zero => rfl
  | succ n ih => rw [List.replicate_succ, List.any_cons, ih]; rfl
def reps (b : Bool) (n : Nat) : List V := (List.replicate n b).map V.bl
theorem reps_snoc (b : Bool) (n : Nat) : reps b n ++ [.bl b] = reps b (n + 1) := by
  unfold reps
  rw [List.replicate_succ', List.map_append]
  rfl
theorem reps_len (b : Bool) (n : Nat) : (reps b n).length = n := by unfold reps; rw [List.length_map, List.length_replicate]
theorem cut1 {xs : List V} (h : 1 ≤ xs.length) : cutV xs (some 1) none = xs.drop 1 := by
  have e : HT.sIx xs.length 0 (some 1) = 1 := by
    unfold HT.sIx
    dsimp only
    rw [if_neg (by decide)]
    show min 1 xs.length = 1
    omega
  unfold cutV
  rw [e]
  show (xs.drop 1).take (xs.length - 1) = _
  exact List.take_of_length_le (by rw [List.length_drop]; exact Nat.le_refl _)
/-! ### flat values and their kinds -/
def numV : V → Bool
  | .int _ => true
  | _ => false
/-- x's kind, as the isinstance of int and of bool sees it: b says whether it is a number -/
def NumT (K : PySem.W.Frag) (H : Hp) (x : V) (b : Bool) : Prop :=
  ∃ (t : Value) (b1 b2 : Bool), TyX K H x t ∧ PySem.W.kitOne K t (.type "int") = some b1 ∧ PySem.W.kitOne K t (.type "bool") = some b2 ∧ (b1 && !b2) = b
theorem numT_flat {K : PySem.W.Frag} {H : Hp} {x : V} (h : flatV x = true) : NumT K H x (numV x) := by
  cases x with
  | non => exact ⟨.type "NoneType", false, false, .base .non, kit_ty (by decide +kernel), kit_ty (by decide +kernel), rfl⟩
  | bl b => exact ⟨.type "bool", true, true, .base (.bl b), kit_ty (by decide +kernel), kit_ty (by decide +kernel), rfl⟩
  | int i => exact ⟨.type "int", true, false, .base (.int i), kit_ty (by decide +kernel), kit_ty (by decide +kernel), rfl⟩
  | str z => exact ⟨.type "str", false, false, .base (.str z), kit_ty (by decide +kernel), kit_ty (by decide +kernel), rfl⟩
  | byt _ => cases h
  | flt _ => cases h
  | ref _ => cases h
  | ty _ => cases h
theorem numT_list {K : PySem.W.Frag} {H : Hp} {a : Addr} {xs : List V} (h : SqL K H a xs) : NumT K H (.ref a) false :=
  ⟨.type "list", false, false, tyX_seqL h, kit_ty (by decide +kernel), kit_ty (by decide +kernel), rfl⟩
theorem numT_tup {K : PySem.W.Frag} {H : Hp} {a : Addr} {xs : List V} (h : SqT K H a xs) : NumT K H (.ref a) false :=
  ⟨.type "tuple", false, false, tyX_seqT h, kit_ty (by decide +kernel), kit_ty (by decide +kernel), rfl⟩
theorem numT_dict {K : PySem.W.Frag} {H : Hp} {a : Addr} {kvs : List (Key × V)} (h : H a = some (.dK kvs)) : NumT K H (.ref a) false :=
  ⟨.type "dict", false, false, .base (.dK h), kit_ty (by decide +kernel), kit_ty (by decide +kernel), rfl⟩
structure CurG (mg : Str → Option Value) : Prop where
  isi : mg "isinstance" = none
  int : mg "int" = none
  bool : mg "bool" = none
  list : mg "list" = none
  tuple : mg "tuple" = none
  len : mg "len" = none
  all : mg "all" = none
  sorted : mg "sorted" = none
  zip : mg "zip" = none
  min : mg "min" = none
  range : mg "range" = none
  type : mg "type" = none
  most : ∃ t, mg "MOST" = some (.int 1000000000 t)
  given : ∃ t, mg "MOST_GIVEN" = some (.int 400 t)
  gcd : mg "gcd" = some (.builtin "math.gcd")
section
variable {P : Program} {w : World} {K : PySem.W.Frag} {mg : Str → Option Value} {base : Heap}
def spNum (K : PySem.W.Frag) : Sp := fun vs H Q _ => ∃ (x : V) (b : Bool), vs = [x] ∧ NumT K H x b ∧ Q (.bl b) H
theorem scNum : FnScope ["thing"] ["thing"] (defScope sNum) := ⟨rfl, rfl, rfl, by decide +kernel, rfl, by decide +kernel, by decide +kernel⟩
theorem ok_num {f : Addr} {fd : FuncData} (F : Fun K "is_number" "is_number" sNum f fd) (T : CurG mg) : FnOk P w K mg base CX0 1 f fd ["thing"] (spNum K) := by
  refine F.ok scNum (fun vs H Q E h => ?_) (fun cdv A outer s H vs Q E hr h => ?_)
  · obtain ⟨x, b, rfl, _⟩ := h
    rfl
  · obtain ⟨x, b, rfl, ⟨t, b1, b2, ty, k1, k2, e⟩, k⟩ := h
    refine ⟨_, pss_one (ps_ret (pe_and (pe_callB call_isi (by rfl) T.isi (by decide +kernel) (pa_cons (pv 0) (pa_cons (pe_bltn (v := .ty "int") (by rfl) T.int (by decide +kernel) rfl) pa_nil)))
      (pe_one (pe_not (pe_callB call_isi (by rfl) T.isi (by decide +kernel) (pa_cons (pv 0) (pa_cons (pe_bltn (v := .ty "bool") (by rfl) T.bool (by decide +kernel) rfl) pa_nil))))))), ?_⟩
    refine ⟨_, rfl, x, .ty "int", t, .type "int", b1, rfl, .ty _, ty, k1, b1, rfl, ?_⟩
    subst e
    cases b1 with
    | false => exact iteF k
    | true => exact iteT ⟨_, rfl, x, .ty "bool", t, .type "bool", b2, rfl, .ty _, ty, k2, b2, rfl, k⟩
def spFrom (K : PySem.W.Frag) : Sp := fun vs H Q _ => ∃ x y z : V, vs = [x, y, z] ∧ ((∃ i a b : Int, x = .int i ∧ y = .int a ∧ z = .int b ∧ Q (.bl (decide (a ≤ i ∧ i ≤ b))) H) ∨ (NumT K H x false ∧ Q (.bl false) H))
theorem scFrom : FnScope ["thing", "low", "high"] ["thing", "low", "high"] (defScope sFrom) := ⟨rfl, rfl, rfl, by decide +kernel, rfl, by decide +kernel, by decide +kernel⟩
theorem ok_from {f g : Addr} {fd gd : FuncData} (F : Fun K "is_from" "is_from" sFrom f fd) (G : FnOk P w K mg base CX0 1 g gd ["thing"] (spNum K)) (kG : PySem.W.keepIn K (.ref g) = true) (bG : Binds K gd ["thing"] []) (mG : mg "is_number" = some (.ref g)) :
    FnOk P w K mg base CX0 2 f fd ["thing", "low", "high"] (spFrom K) := by
  refine F.ok scFrom (fun vs H Q E h => ?_) (fun cdv A outer s H vs Q E hr h => ?_)
  · obtain ⟨x, y, z, rfl, _⟩ := h
    rfl
  · obtain ⟨x, y, z, rfl, h⟩ := h
    refine ⟨_, pss_one (ps_ret (pe_and (pe_call G hr rfl mG kG bG .nil pass0 (pa_cons (pv 0) pa_nil))
      (pe_one (pe_chain op_le op_le (pv 1) (pv 0) (pv 2))))), ?_⟩
    rcases h with ⟨i, a, b, rfl, rfl, rfl, k⟩ | ⟨n, k⟩
    · refine ⟨_, rfl, .int i, true, rfl, numT_flat rfl, true, rfl, ?_⟩
      rw [if_pos rfl]
      refine ⟨_, rfl, _, rfl, _, _, rfl, rfl, _, rfl, ?_⟩
      by_cases h1 : a ≤ i
      · rw [decide_eq_true h1, if_pos rfl]
        refine ⟨_, rfl, _, _, rfl, rfl, ?_⟩
        have e : decide (i ≤ b) = decide (a ≤ i ∧ i ≤ b) := decide_eq_decide.mpr ⟨fun h => ⟨h1, h⟩, fun h => h.2⟩
        show Q (.bl (decide (i ≤ b))) H
        rw [e]
        exact k
      · rw [decide_eq_false h1, if_neg Bool.false_ne_true]
        have e : decide (a ≤ i ∧ i ≤ b) = false := decide_eq_false fun h => h1 h.1
        rw [e] at k
        exact k
    · refine ⟨_, rfl, x, false, rfl, n, false, rfl, ?_⟩
      rw [if_neg Bool.false_ne_true]
      exact k
def spAbove (K : PySem.W.Frag) : Sp := fun vs H Q _ => ∃ x y : V, vs = [x, y] ∧ ((x = .non ∧ Q (.bl (!decide (y = .non))) H) ∨ (∃ i, x = .int i ∧ ((y = .non ∧ Q (.bl false) H) ∨ ∃ j, y = .int j ∧ Q (.bl (decide (j < i))) H)))
theorem scAbove : FnScope ["one", "two"] ["one", "two"] (defScope sAbove) := ⟨rfl, rfl, rfl, by decide +kernel, rfl, by decide +kernel, by decide +kernel⟩
theorem ok_above {f : Addr} {fd : FuncData} (F : Fun K "is_above" "is_above" sAbove f fd) : FnOk P w K mg base CX0 1 f fd ["one", "two"] (spAbove K) := by
  refine F.ok scAbove (fun vs H Q E h => ?_) (fun cdv A outer s H vs Q E hr h => ?_)
  · obtain ⟨x, y, rfl, _⟩ := h
    rfl
  · obtain ⟨x, y, rfl, h⟩ := h
    refine ⟨_, pss_cons (ps_if (PW.pt (pw_or (pt_cmpR op_isN (pv 0) pe_non (nomark _)) (pw_or1 (pt_cmpR op_isN (pv 1) pe_non (nomark _)))))
        (pss_one (ps_ret (pe_and (pe_cmpR op_isN (pv 0) pe_non (nomark _)) (pe_one (pe_cmpR op_notN (pv 1) pe_non (nomark _)))))) pss_nil)
      (pss_one (ps_ret (pe_cmpR op_gt (pv 0) (pv 1) (nomark _)))), ?_⟩
    rcases h with ⟨rfl, k⟩ | ⟨i, rfl, ⟨rfl, k⟩ | ⟨j, rfl, k⟩⟩
    · refine ⟨_, rfl, rfl, true, rfl, iteT ⟨_, rfl, rfl, true, rfl, iteT ⟨_, rfl, rfl, k⟩⟩⟩
    · refine ⟨_, rfl, rfl, false, rfl, iteF ⟨_, rfl, rfl, true, rfl, iteT ⟨_, rfl, rfl, false, rfl, iteF k⟩⟩⟩
    · refine ⟨_, rfl, rfl, false, rfl, iteF ⟨_, rfl, rfl, false, rfl, iteF ⟨_, rfl, _, rfl, _, _, rfl, rfl, k⟩⟩⟩
theorem above_no {K : PySem.W.Frag} {x y : V} {H : Hp} {Q : VK} {E : XK} (h : (∃ i j : Int, x = .int i ∧ y = .int j ∧ i ≤ j) ∨ ((∃ i : Int, x = .int i) ∧ y = .non) ∨ (x = .non ∧ y = .non)) (k : Q (.bl false) H) : spAbove K [x, y] H Q E := by
  rcases h with ⟨i, j, rfl, rfl, l⟩ | ⟨⟨i, rfl⟩, rfl⟩ | ⟨rfl, rfl⟩
  · refine ⟨_, _, rfl, .inr ⟨i, rfl, .inr ⟨j, rfl, ?_⟩⟩⟩
    rw [decide_eq_false (by omega)]
    exact k
  · exact ⟨_, _, rfl, .inr ⟨i, rfl, .inl ⟨rfl, k⟩⟩⟩
  · exact ⟨_, _, rfl, .inl ⟨rfl, k⟩⟩
/-- x is a list, a tuple, or something else -/
def ListT (K : PySem.W.Frag) (H : Hp) (x : V) (b : Bool) : Prop :=
  ∃ t : Value, TyX K H x t ∧ ((t = .type "list" ∧ b = true) ∨ (t = .type "tuple" ∧ b = true) ∨ (PySem.W.kitOne K t (.type "list") = some false ∧ PySem.W.kitOne K t (.type "tuple") = some false ∧ b = false))
theorem listT_flat {H : Hp} {x : V} (h : flatV x = true) : ListT K H x false := by
  cases x with
  | non => exact ⟨.type "NoneType", .base .non, .inr (.inr ⟨kit_ty (by decide +kernel), kit_ty (by decide +kernel), rfl⟩)⟩
  | bl b => exact ⟨.type "bool", .base (.bl b), .inr (.inr ⟨kit_ty (by decide +kernel), kit_ty (by decide +kernel), rfl⟩)⟩
  | int i => exact ⟨.type "int", .base (.int i), .inr (.inr ⟨kit_ty (by decide +kernel), kit_ty (by decide +kernel), rfl⟩)⟩
  | str z => exact ⟨.type "str", .base (.str z), .inr (.inr ⟨kit_ty (by decide +kernel), kit_ty (by decide +kernel), rfl⟩)⟩
  | byt _ => cases h
  | flt _ => cases h
  | ref _ => cases h
  | ty _ => cases h
theorem listT_dict {H : Hp} {a : Addr} {kvs : List (Key × V)} (h : H a = some (.dK kvs)) : ListT K H (.ref a) false :=
  ⟨.type "dict", .base (.dK h), .inr (.inr ⟨kit_ty (by decide +kernel), kit_ty (by decide +kernel), rfl⟩)⟩
theorem listT_seq {H : Hp} {a : Addr} {xs : List V} (h : SeqA K H a xs) : ListT K H (.ref a) true := by
  rcases h with h | h
  · exact ⟨_, tyX_seqL h, .inl ⟨rfl, rfl⟩⟩
  · exact ⟨_, tyX_seqT h, .inr (.inl ⟨rfl, rfl⟩)⟩
end
theorem TyX.same' {K : PySem.W.Frag} {H H' : Hp} {x : V} {t : Value} (s : Same H H') (h : TyX K H x t) : TyX K H' x t := by
  cases h with
  | base h =>
    cases h with
    | non => exact .base .non
    | bl b => exact .base (.bl b)
    | int i => exact .base (.int i)
    | str z => exact .base (.str z)
    | flt z => exact .base (.flt z)
    | lst e => exact .base (.lst (s _ _ e))
    | frz e => exact .base (.frz (s _ _ e))
    | tup e => exact .base (.tup (s _ _ e))
    | dK e => exact .base (.dK (s _ _ e))
    | dT e => exact .base (.dT (s _ _ e))
    | ins e cl ha hn htk hm => exact .base (.ins (s _ _ e) cl ha hn htk hm)
  | byt b => exact .byt b
  | set e => exact .set (s _ _ e)
  | kList e c => exact .kList e c
  | kTuple e c => exact .kTuple e c
  | kDict e c => exact .kDict e c
  | fTuple e => exact .fTuple (s _ _ e)
  | fDict e => exact .fDict (s _ _ e)
theorem ListT.same {K : PySem.W.Frag} {H H' : Hp} {x : V} {b : Bool} (h : ListT K H x b) (s : Same H H') : ListT K H' x b := by
  obtain ⟨t, h1, h2⟩ := h
  exact ⟨t, TyX.same' s h1, h2⟩
theorem NumT.same {K : PySem.W.Frag} {H H' : Hp} {x : V} {b : Bool} (h : NumT K H x b) (s : Same H H') : NumT K H' x b := by
  obtain ⟨t, b1, b2, h1, h2⟩ := h
  exact ⟨t, b1, b2, TyX.same' s h1, h2⟩
section
variable {P : Program} {w : World} {K : PySem.W.Frag} {mg : Str → Option Value} {base : Heap}
def spIsList (K : PySem.W.Frag) : Sp := fun vs H Q _ => ∃ (x : V) (b : Bool), vs = [x] ∧ ListT K H x b ∧ ∀ H', Same H H' → Q (.bl b) H'
theorem scIsList : FnScope ["thing"] ["thing"] (defScope sIsList) := ⟨rfl, rfl, rfl, by decide +kernel, rfl, by decide +kernel, by decide +kernel⟩
theorem ok_isList {f : Addr} {fd : FuncData} (F : Fun K "is_list" "is_list" sIsList f fd) (T : CurG mg) : FnOk P w K mg base CX0 1 f fd ["thing"] (spIsList K) := by
  refine F.ok scIsList (fun vs H Q E h => ?_) (fun cdv A outer s H vs Q E hr h => ?_)
  · obtain ⟨x, b, rfl, _⟩ := h
    rfl
  · obtain ⟨x, b, rfl, h, k⟩ := h
    refine ⟨_, pss_one (ps_ret (pe_callB call_isiT (by rfl) T.isi (by decide +kernel) (pa_cons (pv 0) (pa_cons (pe_tup (pa_cons (pe_bltn (v := .ty "list") (by rfl) T.list (by decide +kernel) rfl)
      (pa_cons (pe_bltn (v := .ty "tuple") (by rfl) T.tuple (by decide +kernel) rfl) pa_nil))) pa_nil)))), ?_⟩
    refine ⟨_, rfl, (by show 2 ≤ sizeLine; decide), fun t ht => ?_⟩
    have s1 := same_new (o := .tup [.ty "list", .ty "tuple"]) ht
    obtain ⟨t', ty, c⟩ := h.same s1
    rcases c with ⟨rfl, rfl⟩ | ⟨rfl, rfl⟩ | ⟨c1, c2, rfl⟩
    · exact ⟨_, t, _, _, [.type "list", .type "tuple"], true, rfl, upd_same, .cons (.ty _) (.cons (.ty _) .nil), ty,
        kitAny_cons (kit_ty (r := true) (by decide +kernel)) (fun z => by cases z) (fun _ => rfl), k _ s1⟩
    · exact ⟨_, t, _, _, [.type "list", .type "tuple"], true, rfl, upd_same, .cons (.ty _) (.cons (.ty _) .nil), ty,
        kitAny_cons (kit_ty (r := false) (by decide +kernel)) (fun _ => kitAny_cons (r := true) (kit_ty (r := true) (by decide +kernel)) (fun z => by cases z) (fun _ => rfl)) (fun z => by cases z), k _ s1⟩
    · exact ⟨_, t, _, _, [.type "list", .type "tuple"], false, rfl, upd_same, .cons (.ty _) (.cons (.ty _) .nil), ty,
        kitAny_cons c1 (fun _ => kitAny_cons (r := false) c2 (fun _ => rfl) (fun z => by cases z)) (fun z => by cases z), k _ s1⟩
end
end WW
end

section
set_option Elab.async false
set_option linter.all false
set_option maxRecDepth 100000
set_option maxHeartbeats 4000000
namespace WW
open PySem L2 WO WG RZ WQ
def okE (x : V) : Prop := x = .non ∨ ∃ i : Int, x = .int i ∧ 0 ≤ i ∧ i ≤ 1000000000
def notAb (x y : V) : Prop := (∃ i j : Int, x = .int i ∧ y = .int j ∧ i ≤ j) ∨ ((∃ i : Int, x = .int i) ∧ y = .non) ∨ (x = .non ∧ y = .non)
structure StartOk (xs : List V) : Prop where
  l1 : 1 ≤ xs.length
  l2 : xs.length ≤ 400
  el : ∀ (i : Nat) (x : V), xs[i]? = some x → okE x
  asc : ∀ (i : Nat) (x y : V), xs[i]? = some x → xs[i + 1]? = some y → notAb x y
/-! ### rows of numbers, then Nones -/
def isNon : V → Bool
  | .non => true
  | _ => false
def nums (xs : List V) : List V := xs.filter fun v => !isNon v
theorem nums_snoc (xs : List V) (x : V) : nums (xs ++ [x]) = nums xs ++ (if isNon x then [] else [x]) := by
  unfold nums
  rw [List.filter_append]
  cases h : isNon x <;> simp [List.filter, h]
theorem nums_le (xs : List V) : (nums xs).length ≤ xs.length := List.length_filter_le ..
theorem take_snoc {xs : List V} {i : Nat} {x : V} (h : xs[i]? = some x) : xs.take (i + 1) = xs.take i ++ [x] := by
  rw [List.take_add_one, h]
  rfl
theorem all_ints : ∀ {xs : List V}, xs.all numV = true → ∃ ns : List Int, xs = ns.map V.int
  | [], _ => ⟨[], rfl⟩
  | x :: r, h => by
    rw [List.all_cons, Bool.and_eq_true] at h
    obtain ⟨ns, e⟩ := all_ints h.2
    cases x with
    | int i => exact ⟨i :: ns, by rw [e]; rfl⟩
    | _ => cases h.1
theorem ints_all : ∀ (ns : List Int), (ns.map V.int).all numV = true
  | [] => rfl
  | i :: r => by rw [List.map_cons, List.all_cons, ints_all r]; rfl
theorem inV_non : ∀ {xs : List V}, xs.all flatV = true → inV .non xs = xs.any isNon
  | [], _ => rfl
  | x :: r, h => by
    rw [List.all_cons, Bool.and_eq_true] at h
    have e : inV .non (x :: r) = (eqV x .non || inV .non r) := rfl
    rw [e, inV_non h.2, List.any_cons]
    congr 1
    cases x <;> first | rfl | exact absurd h.1 Bool.false_ne_true
theorem nums_none : ∀ {xs : List V}, xs.any isNon = false → nums xs = xs
  | [], _ => rfl
  | x :: r, h => by
    rw [List.any_cons, Bool.or_eq_false_iff] at h
    unfold nums
    rw [List.filter_cons, h.1]
    show x :: nums r = x :: r
    rw [nums_none h.2]
theorem nums_all : ∀ {xs : List V}, nums xs = [] → xs = List.replicate xs.length V.non
  | [], _ => rfl
  | x :: r, h => by
    unfold nums at h
    rw [List.filter_cons] at h
    cases hx : isNon x with
    | false => rw [hx] at h; cases h
    | true =>
      rw [hx] at h
      have e := nums_all (xs := r) h
      cases x with
      | non => rw [List.length_cons, List.replicate_succ]; congr 1
      | _ => cases hx
theorem nums_app (xs ys : List V) : nums (xs ++ ys) = nums xs ++ nums ys := List.filter_append ..
/-- no None among the first so many: numbers first, Nones behind -/
theorem split_nums {xs : List V} (h : (xs.take (nums xs).length).any isNon = false) : xs = nums xs ++ List.replicate (xs.length - (nums xs).length) V.non := by
  have e : nums xs = nums (xs.take (nums xs).length) ++ nums (xs.drop (nums xs).length) := by
    rw [← nums_app, List.take_append_drop]
  have e1 := nums_none h
  have l := congrArg List.length e
  have lt : (xs.take (nums xs).length).length = (nums xs).length := by
    rw [List.length_take]
    exact Nat.min_eq_left (nums_le xs)
  rw [List.length_append, e1, lt] at l
  have z : nums (xs.drop (nums xs).length) = [] := List.eq_nil_of_length_eq_zero (by omega)
  have e2 := nums_all z
  rw [List.length_drop] at e2
  have e3 : xs.take (nums xs).length = nums xs := by
    rw [e1, z, List.append_nil] at e
    exact e.symm
  calc xs = xs.take (nums xs).length ++ xs.drop (nums xs).length := (List.take_append_drop ..).symm
    _ = _ := by rw [e3, e2]
theorem nums_row (ns : List Int) (k : Nat) : nums (ns.map V.int ++ List.replicate k V.non) = ns.map V.int := by
  rw [nums_app]
  have a : nums (ns.map V.int) = ns.map V.int := by
    refine nums_none ?_
    induction ns with
    | nil => rfl
    | cons i r ih => rw [List.map_cons, List.any_cons, ih]; rfl
  have b : nums (List.replicate k V.non) = [] := by
    induction k with
    | zero => rfl
    | succ k ih =>
      unfold nums at *
      rw [List.replicate_succ, List.filter_cons]
      exact ih
  rw [a, b, List.append_nil]
/-- a right start is of this form -/
theorem startOk_row : ∀ {xs : List V}, (∀ (i : Nat) (x : V), xs[i]? = some x → okE x) → (∀ (i : Nat) (x y : V), xs[i]? = some x → xs[i + 1]? = some y → notAb x y) →
    ∃ (ns : List Int) (k : Nat), xs = ns.map V.int ++ List.replicate k V.non ∧ ns.Pairwise (· ≤ ·) ∧ ∀ z ∈ ns, 0 ≤ z ∧ z ≤ 1000000000
  | [], _, _ => ⟨[], 0, rfl, .nil, fun z h => by cases h⟩
  | x :: r, h1, h2 => by
    obtain ⟨ns, k, e, p, b⟩ := startOk_row (xs := r) (fun i y hy => h1 (i + 1) y hy) (fun i y z hy hz => h2 (i + 1) y z hy hz)
    rcases h1 0 x rfl with rfl | ⟨i, rfl, i0, i1⟩
    · -- behind a None Nones alone
      have hr : ns = [] := by
        cases ns with
        | nil => rfl
        | cons z q =>
          subst e
          rcases h2 0 .non (.int z) rfl rfl with ⟨_, _, w, _⟩ | ⟨⟨_, w⟩, _⟩ | ⟨_, w⟩ <;> cases w
      subst hr
      exact ⟨[], k + 1, by rw [e]; rfl, .nil, fun z h => by cases h⟩
    · refine ⟨i :: ns, k, by rw [e]; rfl, ?_, ?_⟩
      · refine List.Pairwise.cons (fun z hz => ?_) p
        cases ns with
        | nil => cases hz
        | cons y q =>
          have hy : i ≤ y := by
            subst e
            rcases h2 0 (.int i) (.int y) rfl rfl with ⟨_, _, w1, w2, l⟩ | ⟨_, w⟩ | ⟨w, _⟩
            · cases w1; cases w2; exact l
            · cases w
            · cases w
          rcases List.mem_cons.mp hz with rfl | hz
          · exact hy
          · exact Int.le_trans hy ((List.pairwise_cons.mp p).1 z hz)
      · intro z hz
        rcases List.mem_cons.mp hz with rfl | hz
        · exact ⟨i0, i1⟩
        · exact b z hz
theorem row_startOk {ns : List Int} {k : Nat} (l1 : 1 ≤ ns.length + k) (l2 : ns.length + k ≤ 400) (p : ns.Pairwise (· ≤ ·)) (b : ∀ z ∈ ns, 0 ≤ z ∧ z ≤ 1000000000) :
    StartOk (ns.map V.int ++ List.replicate k V.non) := by
  have len : (ns.map V.int ++ List.replicate k V.non).length = ns.length + k := by rw [List.length_append, List.length_map, List.length_replicate]
  have lo : ∀ j, j < ns.length → (ns.map V.int ++ List.replicate k V.non)[j]? = some (.int (ns.getD j 0)) := fun j h => by
    rw [List.getElem?_append_left (by rw [List.length_map]; exact h), List.getElem?_map, List.getD_eq_getElem?_getD, List.getElem?_eq_getElem h]
    rfl
  have hi : ∀ j, ns.length ≤ j → j < ns.length + k → (ns.map V.int ++ List.replicate k V.non)[j]? = some .non := fun j h h' => by
    rw [List.getElem?_append_right (by rw [List.length_map]; exact h), List.length_map, List.getElem?_replicate, if_pos (by omega)]
  have out : ∀ {j x}, (ns.map V.int ++ List.replicate k V.non)[j]? = some x → j < ns.length + k := fun {j x} h => by
    have := (List.getElem?_eq_some_iff.mp h).1
    rwa [len] at this
  have inr : ∀ j, j < ns.length → 0 ≤ ns.getD j 0 ∧ ns.getD j 0 ≤ 1000000000 := fun j h => by
    rw [List.getD_eq_getElem?_getD, List.getElem?_eq_getElem h]
    exact b _ (List.getElem_mem h)
  refine ⟨by rw [len]; exact l1, by rw [len]; exact l2, fun j x h => ?_, fun j x y h h' => ?_⟩
  · by_cases c : j < ns.length
    · rw [lo j c] at h
      cases h
      exact .inr ⟨_, rfl, inr j c⟩
    · rw [hi j (by omega) (out h)] at h
      cases h
      exact .inl rfl
  · have o := out h'
    by_cases c : j + 1 < ns.length
    · rw [lo j (by omega)] at h
      rw [lo (j + 1) c] at h'
      cases h
      cases h'
      refine .inl ⟨_, _, rfl, rfl, ?_⟩
      rw [List.getD_eq_getElem?_getD, List.getD_eq_getElem?_getD, List.getElem?_eq_getElem (show j < ns.length by omega), List.getElem?_eq_getElem c]
      exact List.pairwise_iff_getElem.mp p j (j + 1) (by omega) c (by omega)
    · rw [hi (j + 1) (by omega) o] at h'
      cases h'
      by_cases c2 : j < ns.length
      · rw [lo j c2] at h
        cases h
        exact .inr (.inl ⟨⟨_, rfl⟩, rfl⟩)
      · rw [hi j (by omega) (by omega)] at h
        cases h
        exact .inr (.inr ⟨rfl, rfl⟩)
theorem row_inj : ∀ {ns ms : List Int} {j k : Nat}, ns.map V.int ++ List.replicate j V.non = ms.map V.int ++ List.replicate k V.non → ns = ms := fun {ns ms j k} e => by
  have z := congrArg nums e
  rw [nums_row, nums_row] at z
  exact (List.map_inj_right fun a b h => V.int.inj h).mp z
theorem sorted_same {ns ms : List Int} (h : ms.Perm ns) (s : ms.Pairwise (· ≤ ·)) : ms = ns ↔ ns.Pairwise (· ≤ ·) := by
  constructor
  · intro e
    rw [← e]
    exact s
  · intro p
    exact List.Perm.eq_of_pairwise (fun a b _ _ h1 h2 => Int.le_antisymm h1 h2) s p h
end WW
end

section
set_option Elab.async false
set_option linter.all false
set_option maxRecDepth 100000
set_option maxHeartbeats 4000000
namespace WW
open PySem L2 WO WG RZ WQ
section
variable {P : Program} {w : World} {K : PySem.W.Frag} {mg : Str → Option Value} {base : Heap}
theorem small1000' {n : Nat} (h : n < 1000) : n < sizeLine := small1000 (Nat.le_of_lt h)
theorem tyB_flat {H : Hp} {x : V} (h : flatV x = true) : ∃ T : String, TyB K H x T ∧ decide (T = "int") = numV x := by
  cases x with
  | non => exact ⟨_, .non, rfl⟩
  | bl b => exact ⟨_, .bl b, rfl⟩
  | int i => exact ⟨_, .int i, rfl⟩
  | str z => exact ⟨_, .str z, rfl⟩
  | _ => cases h
def spAre (K : PySem.W.Frag) : Sp := fun vs H Q _ => ∃ (a : Addr) (xs : List V), vs = [.ref a] ∧ SqL K H a xs ∧ xs.all flatV = true ∧ xs.length < sizeLine ∧ ∀ H', Same H H' → Q (.bl (xs.all numV)) H'
abbrev nAre : List Str := ["row", "one"]
theorem scAre : FnScope nAre ["row"] (defScope sAre) := ⟨rfl, rfl, rfl, by decide +kernel, rfl, by decide +kernel, by decide +kernel⟩
theorem ok_are {f g : Addr} {fd gd : FuncData} (F : Fun K "are_numbers" "are_numbers" sAre f fd) (T : CurG mg) (G : FnOk P w K mg base CX0 1 g gd ["thing"] (spNum K)) (kG : PySem.W.keepIn K (.ref g) = true) (bG : Binds K gd ["thing"] []) (mG : mg "is_number" = some (.ref g)) :
    FnOk P w K mg base CX0 2 f fd ["row"] (spAre K) := by
  refine F.ok scAre (fun vs H Q E h => ?_) (fun cdv A outer s H vs Q E hr h => ?_)
  · obtain ⟨a, xs, rfl, _⟩ := h
    rfl
  · obtain ⟨a, xs, rfl, h, fl, hl, k⟩ := h
    refine ⟨_, pss_one (ps_ret (pe_callB (cr_all rfl) (by rfl) T.all (by decide +kernel) (pa_cons
        (pe_lc (own := [("one", 1)]) (g := gName 1) rfl scAre.nd (pi_list (pv 0)) (blkOk_by (N := nAre) (sc := defScope sAre) (by decide +kernel)) (fun _ _ _ _ _ => pg_name (i := 1) scAre.nd rfl (Or.inl rfl))
          (fun _ _ _ _ _ => pts_one (pt_cmpR op_isNotTy (pe_callTy (T := "type") (r := rTyp K) call_type1 (by rfl) T.type (by decide +kernel) (pa_cons (pv 1) pa_nil)) (pe_bltn (v := .ty "int") (by rfl) T.int (by decide +kernel) rfl) (nomark _)))
          (fun _ _ _ _ _ => pe_call G hr rfl mG kG bG .nil pass0 (pa_cons (pv 1) pa_nil))) pa_nil))), ?_⟩
    refine ⟨_, rfl, a, rfl, ⟨_, h⟩, fun D hD => lc_list (K := K) (a := a) (xs := xs) (fun i H2 => ∃ n, H2 D = some (.lst (reps false n)) ∧ n ≤ i ∧ decide (n = 0) = (xs.take i).all numV ∧ Same H H2) ⟨0, upd_same, Nat.le_refl _, rfl, same_new hD⟩ (fun i H2 _ ⟨_, _, _, _, s2⟩ => Same.seq s2 h) ?_ ?_⟩
    · rintro i x H2 hx ⟨n, hd, ni, e, s2⟩
      have hi : i < xs.length := (List.getElem?_eq_some_iff.mp hx).1
      have fx : flatV x = true := (List.all_eq_true.mp fl) x (List.mem_of_getElem? hx)
      obtain ⟨T0, ty, e0⟩ := tyB_flat (K := K) (H := H2) fx
      have et : (xs.take (i + 1)).all numV = ((xs.take i).all numV && numV x) := by
        rw [take_snoc hx, List.all_append]
        simp
      refine ⟨rfl, _, rfl, x, T0, rfl, ty, T0, "int", rfl, rfl, !decide (T0 = "int"), rfl, ?_⟩
      rw [e0]
      cases hn : numV x with
      | true => exact iteF ⟨n, hd, by omega, by rw [et, hn, ← e, Bool.and_true], s2⟩
      | false =>
        have nt := numT_flat (K := K) (H := H2) fx
        rw [hn] at nt
        refine iteT ⟨_, rfl, x, false, rfl, nt, reps false n, hd, by rw [reps_len]; omega, n + 1, ?_, by omega, by rw [et, hn, Bool.and_false]; rfl, fun b o e => by rw [upd_ne (ne_of_none e hD)]; exact s2 b o e⟩
        rw [reps_snoc]
        exact upd_same
    · rintro H2 ⟨n, hd, ni, e, s2⟩
      rw [List.take_length] at e
      refine ⟨D, List.replicate n false, rfl, SqL.of hd, ?_⟩
      have e1 : (List.replicate n false).all id = xs.all numV := by
        rw [← e]
        cases n with
        | zero => rfl
        | succ n => rw [List.replicate_succ, List.all_cons]; rfl
      rw [e1]
      exact k _ s2
/-- what is no list, and rows of flat things -/
def spStart (K : PySem.W.Frag) : Sp := fun vs H Q _ => ∃ x : V, vs = [x] ∧ ((ListT K H x false ∧ ∀ H', Same H H' → Q (.bl false) H') ∨
  ∃ (a : Addr) (xs : List V), x = .ref a ∧ SeqA K H a xs ∧ xs.all flatV = true ∧ xs.length < sizeLine ∧ ∀ (b : Bool) H', Same H H' → (b = true ↔ StartOk xs) → Q (.bl b) H')
abbrev nStart : List Str := ["thing", "numbers", "one"]
theorem scStart : FnScope nStart ["thing"] (defScope sStart) := ⟨rfl, rfl, rfl, by decide +kernel, rfl, by decide +kernel, by decide +kernel⟩
theorem six0 (n d : Nat) : HT.sIx n d none = d := rfl
theorem cutR {xs : List V} {t : Nat} (h : t ≤ xs.length) : cutV xs none (some (t : Int)) = xs.take t := by
  have e : HT.sIx xs.length xs.length (some (t : Int)) = t := by
    unfold HT.sIx
    dsimp only
    rw [if_neg (by omega), Int.toNat_natCast]
    omega
  unfold cutV
  rw [e]
  rfl
theorem eqvAll_ints' : ∀ ns ms : List Int, PyData.eqvAll (ns.map PyData.int) (ms.map PyData.int) = decide (ns = ms) := eqvAll_ints
/-- behind the row of the numbers -/
theorem start_tail {xs : List V} {ns : List Int} (fl : xs.all flatV = true) (l1 : 1 ≤ xs.length) (l2 : xs.length ≤ 400) (hn : nums xs = ns.map V.int) (hq : (xs.take (nums xs).length).any isNon = false) :
    xs = ns.map V.int ++ List.replicate (xs.length - ns.length) V.non ∧ ns.length ≤ xs.length := by
  have e := split_nums hq
  have l := nums_le xs
  rw [hn, List.length_map] at e l
  exact ⟨e, l⟩
theorem any_ints (ns : List Int) : (ns.map V.int).any isNon = false := by
  induction ns with
  | nil => rfl
  | cons i r ih => rw [List.map_cons, List.any_cons, ih]; rfl
theorem startOk_no {xs : List V} (h : (nums xs).all numV = false ∨ (xs.take (nums xs).length).any isNon = true) : ¬ StartOk xs := fun S => by
  obtain ⟨ns, k, e, _, _⟩ := startOk_row S.el S.asc
  rw [e, nums_row] at h
  rcases h with h | h
  · rw [ints_all] at h
    cases h
  · rw [List.take_append_of_le_length (by rw [List.length_map]; exact Nat.le_refl _), List.take_of_length_le (Nat.le_refl _)] at h
    rw [any_ints] at h
    cases h
theorem startOk_iff {ns : List Int} {k : Nat} (l1 : 1 ≤ ns.length + k) (l2 : ns.length + k ≤ 400) : StartOk (ns.map V.int ++ List.replicate k V.non) ↔ ns.Pairwise (· ≤ ·) ∧ ∀ z ∈ ns, 0 ≤ z ∧ z ≤ 1000000000 := by
  constructor
  · intro S
    obtain ⟨ms, j, e, p, b⟩ := startOk_row S.el S.asc
    have := row_inj e
    subst this
    exact ⟨p, b⟩
  · rintro ⟨p, b⟩
    exact row_startOk l1 l2 p b
theorem bounds_iff {n0 : Int} {r : List Int} (p : (n0 :: r).Pairwise (· ≤ ·)) {z : Int} (hz : (n0 :: r)[(n0 :: r).length - 1]? = some z) : (∀ y ∈ n0 :: r, 0 ≤ y ∧ y ≤ 1000000000) ↔ 0 ≤ n0 ∧ z ≤ 1000000000 := by
  constructor
  · intro h
    exact ⟨(h n0 (List.mem_cons_self ..)).1, (h z (List.mem_of_getElem? hz)).2⟩
  · rintro ⟨h0, h1⟩ y hy
    obtain ⟨i, hi, e⟩ := List.mem_iff_getElem.mp hy
    have q := List.pairwise_iff_getElem.mp p
    have lz := (List.getElem?_eq_some_iff.mp hz).1
    have ez := (List.getElem?_eq_some_iff.mp hz).2
    constructor
    · by_cases c : i = 0
      · subst c
        rw [← e]
        exact h0
      · have := q 0 i (by omega) hi (by omega)
        rw [e] at this
        exact Int.le_trans h0 this
    · by_cases c : i = (n0 :: r).length - 1
      · subst c
        rw [e] at ez
        rw [ez]
        exact h1
      · have := q i ((n0 :: r).length - 1) hi lz (by omega)
        rw [e, ez] at this
        exact Int.le_trans this h1
end
end WW
end

section
set_option Elab.async false
set_option linter.all false
set_option maxRecDepth 100000
set_option maxHeartbeats 4000000
namespace WW
open PySem L2 WO WG RZ WQ
section
variable {P : Program} {w : World} {K : PySem.W.Frag} {mg : Str → Option Value} {base : Heap}
/-- what is found behind the row of the numbers -/
def Found (xs : List V) (H : Hp) (a : Addr) (σ : L2.St) (H' : Hp) : Prop :=
  ∃ (q : Addr) (v : Option V), σ = [some (.ref a), some (.ref q), v] ∧ H' q = some (.lst (nums xs)) ∧ Same H H'
theorem nums_step {xs : List V} {i : Nat} {x : V} (h : xs[i]? = some x) : nums (xs.take (i + 1)) = nums (xs.take i) ++ (if isNon x then [] else [x]) := by
  rw [take_snoc h, nums_snoc]
theorem isNon_dec (x : V) : decide (x = V.non) = isNon x := by cases x <;> first | rfl | exact decide_eq_false (fun z => by cases z)
theorem flat_sub {xs ys : List V} (h : xs.all flatV = true) (s : ∀ x ∈ ys, x ∈ xs) : ys.all flatV = true :=
  List.all_eq_true.mpr fun x hx => (List.all_eq_true.mp h) x (s x hx)
theorem last_get {xs : List V} {v : V} (h : xs[xs.length - 1]? = some v) : atI xs (-1) = some v := by
  have l : xs.length - 1 < xs.length := by
    rcases Nat.lt_or_ge (xs.length - 1) xs.length with q | q
    · exact q
    · rw [List.getElem?_eq_none q] at h; cases h
  unfold atI ixN
  rw [if_neg (by omega), if_pos (by omega)]
  rw [show ((-1 : Int) + (xs.length : Int)).toNat = xs.length - 1 by omega]
  exact h
theorem ok_start {f fL fN : Addr} {fd dL dN : FuncData} (F : Fun K "is_start" "is_start" sStart f fd) (T : CurG mg)
    (GL : FnOk P w K mg base CX0 1 fL dL ["thing"] (spIsList K)) (kL : PySem.W.keepIn K (.ref fL) = true) (bL : Binds K dL ["thing"] []) (mL : mg "is_list" = some (.ref fL))
    (GN : FnOk P w K mg base CX0 2 fN dN ["row"] (spAre K)) (kN : PySem.W.keepIn K (.ref fN) = true) (bN : Binds K dN ["row"] []) (mN : mg "are_numbers" = some (.ref fN)) :
    FnOk P w K mg base CX0 3 f fd ["thing"] (spStart K) := by
  refine F.ok scStart (fun vs H Q E h => ?_) (fun cdv A outer s H vs Q E hr h => ?_)
  · obtain ⟨x, rfl, _⟩ := h
    rfl
  · obtain ⟨x, rfl, h⟩ := h
    have hr1 := hr.mono (show 1 ≤ 2 by decide)
    have hu := hr.units
    obtain ⟨tm, mM⟩ := T.most
    obtain ⟨tg, mG⟩ := T.given
    rcases h with ⟨hx, k⟩ | ⟨a, xs, rfl, hsA, fl, hsz, k⟩
    · refine ⟨_, pss_cons (ps_if (PW.pt (pw_or (pt_not (pt_val (pe_call GL hr1 rfl mL kL bL .nil pass0 (pa_cons (pv 0) pa_nil))))
            (pw_or1 (pt_not (pt_chain op_le op_le pe_int (pe_callB call_len_seq (by rfl) T.len PySem.boot_len (pa_cons (pv 0) pa_nil)) (pe_glob (v := .int 400) rfl mG ⟨_, rfl⟩))))))
          (pss_one (ps_ret pe_bl)) pss_nil) pss_never, ?_⟩
      exact ⟨_, rfl, x, false, rfl, hx, fun H1 s1 => ⟨false, rfl, iteT (k H1 s1)⟩⟩
    rcases id hsA with hs | hs
    · refine ⟨_, pss_cons (ps_if (PW.pt (pw_or (pt_not (pt_val (pe_call GL hr1 rfl mL kL bL .nil pass0 (pa_cons (pv 0) pa_nil))))
            (pw_or1 (pt_not (pt_chain op_le op_le pe_int (pe_callB call_len_seq (by rfl) T.len PySem.boot_len (pa_cons (pv 0) pa_nil)) (pe_glob (v := .int 400) rfl mG ⟨_, rfl⟩))))))
          (pss_one (ps_ret pe_bl)) pss_nil)
        (C8.pss_cut (ps_setLc (i := 1) (own := [("one", 2)]) (g := gName 2) rfl scStart.nd rfl rfl (sw_true rfl rfl rfl (by decide +kernel)) (pi_list (pv 0)) (blkOk_by (N := nStart) (sc := defScope sStart) (by decide +kernel))
          (fun _ _ _ _ _ => pg_name (i := 2) scStart.nd rfl (Or.inl rfl)) (fun _ _ _ _ _ => pts_one (pt_cmpR op_notN (pv 2) pe_non (nomark _))) (fun _ _ _ _ _ => pv 2))
        (C8.pss_cut (ps_if (PW.pt (pw_or (pt_not (pt_val (pe_call GN hr rfl mN kN bN .nil pass0 (pa_cons (pv 1) pa_nil))))
            (pw_or (pt_cmpR op_in_seq pe_non (pe_slice sl_seqB (pv 0) po_none (po_some (pe_callB call_len_seq (by rfl) T.len PySem.boot_len (pa_cons (pv 1) pa_nil)))) (by rfl))
            (pw_or1 (pt_cmpR (op_neD hu) (pe_callB cr_sortedI (by rfl) T.sorted (by decide +kernel) (pa_cons (pv 1) pa_nil)) (pv 1) (nomark _))))))
          (pss_one (ps_ret pe_bl)) pss_nil)
        (pss_one (ps_ret (pe_or (pe_notT (pv 1)) (pe_one (pe_and (pe_cmpR op_ge (pe_ix ix_list (pv 1) pe_int (fun _ _ => rfl)) pe_int (nomark _))
          (pe_one (pe_cmpR op_le (pe_ix ix_list (pv 1) (pe_un un_neg pe_int) (fun _ _ => rfl)) (pe_glob (v := .int 1000000000) rfl mM ⟨_, rfl⟩) (nomark _)))))))))), ?_⟩
      refine ⟨_, rfl, .ref a, true, rfl, listT_seq hsA, fun H1 s1 => ⟨true, rfl, iteF ?_⟩⟩
      have h1 := Same.seq s1 hs
      refine ⟨_, rfl, a, xs, rfl, .inl h1, _, _, rfl, rfl, ?_⟩
      by_cases c1 : 1 ≤ xs.length
      · refine ⟨true, bT (by omega), iteT ⟨_, _, rfl, rfl, ?_⟩⟩
        by_cases c2 : xs.length ≤ 400
        · refine ⟨true, bT (by omega), iteF ?_⟩
          refine ⟨Found xs H a, ?_, ?_⟩
          · refine ⟨_, rfl, a, rfl, ⟨_, h1⟩, fun D hD => lc_list (K := K) (a := a) (xs := xs) (fun i H2 => H2 D = some (.lst (nums (xs.take i))) ∧ Same H1 H2) ⟨upd_same, same_new hD⟩ (fun i H2 _ ⟨_, s2⟩ => Same.seq s2 h1) ?_ ?_⟩
            · rintro i x H2 hx ⟨hd, s2⟩
              have hi : i < xs.length := (List.getElem?_eq_some_iff.mp hx).1
              refine ⟨rfl, _, rfl, rfl, !isNon x, by rw [isNon_dec], ?_⟩
              cases e : isNon x with
              | true => exact iteF ⟨by rw [nums_step hx, e]; simpa using hd, s2⟩
              | false =>
                refine iteT ⟨_, rfl, _, hd, ?_, ?_, fun b o z => by rw [upd_ne (ne_of_none z hD)]; exact s2 b o z⟩
                · have := nums_le (xs.take i)
                  rw [List.length_take] at this
                  omega
                · rw [nums_step hx, e]
                  exact upd_same
            · rintro H2 ⟨hd, s2⟩
              rw [List.take_length] at hd
              exact ⟨D, _, rfl, hd, Same.trans s1 s2⟩
          · rintro σ2 H2 ⟨q, v, rfl, hq, s2⟩
            have fln : (nums xs).all flatV = true := flat_sub fl fun y hy => (List.mem_filter.mp hy).1
            have ln := nums_le xs
            refine ⟨fun σ' H' => ∃ v, σ' = [some (.ref a), some (.ref q), v] ∧ H' q = some (.lst (nums xs)) ∧ Same H H' ∧ ∃ ns : List Int, nums xs = ns.map V.int ∧ (xs.take (nums xs).length).any isNon = false ∧ ns.Pairwise (· ≤ ·), ?_, ?_⟩
            · refine ⟨_, rfl, q, _, rfl, SqL.of hq, fln, by omega, fun H3 s3 => ⟨_, rfl, ?_⟩⟩
              have hq3 := s3 _ _ hq
              have sA := Same.trans s2 s3
              cases cN : (nums xs).all numV with
              | false => exact iteT (k false H3 sA ⟨fun z => (by cases z), fun S => absurd S (startOk_no (.inl cN))⟩)
              | true =>
                refine iteF ?_
                obtain ⟨ns, en⟩ := all_ints cN
                refine ⟨_, rfl, _, rfl, q, _, rfl, .inl (SqL.of hq3), _, rfl, a, xs, rfl, hsA.same sA, fun H4 z s4 hz _ => ?_⟩
                rw [cutR ln] at hz
                have flz : (xs.take (nums xs).length).all flatV = true := flat_sub fl fun y hy => List.mem_of_mem_take hy
                refine ⟨z, _, rfl, hz, rfl, flz, ?_⟩
                have sB := Same.trans sA s4
                cases cq : (xs.take (nums xs).length).any isNon with
                | true => exact ⟨true, by show V.bl (inV .non _) = _; rw [inV_non flz, cq], iteT (k false H4 sB ⟨fun z => (by cases z), fun S => absurd S (startOk_no (.inr cq))⟩)⟩
                | false =>
                  refine ⟨false, by show V.bl (inV .non _) = _; rw [inV_non flz, cq], iteF ?_⟩
                  have hq4 := s4 _ _ hq3
                  rw [en] at hq4
                  refine ⟨_, rfl, q, ns, rfl, SqL.of hq4, fun ms p pm srt hp => ?_⟩
                  generalize g5 : upd H4 p _ = H5
                  obtain ⟨s5, f5⟩ := alloc g5 hp
                  have hq5 := s5 _ _ hq4
                  refine ⟨_, rfl, .list (ms.map .int), .list (ns.map .int), .lst (SqL.of f5) (dpAll_int _), .lst (SqL.of hq5) (dpAll_int _), shaped_ints _, shaped_ints _, _, rfl, ?_⟩
                  rw [eqv_ints]
                  have sC := Same.trans sB s5
                  obtain ⟨ex, lx⟩ := start_tail fl c1 c2 en cq
                  have l3 : ns.length + (xs.length - ns.length) = xs.length := by omega
                  by_cases cs : ms = ns
                  · rw [decide_eq_true cs]
                    exact iteF ⟨_, rfl, by rw [en]; exact hq5, sC, ns, en, (by first | exact cq | rfl), (sorted_same pm srt).mp cs⟩
                  · rw [decide_eq_false cs]
                    refine iteT (k false H5 sC ⟨fun z => (by cases z), fun S => ?_⟩)
                    rw [ex, startOk_iff (by omega) (by omega)] at S
                    exact absurd ((sorted_same pm srt).mpr S.1) cs
            · rintro σ3 H3 ⟨v3, rfl, hq3, s3, ns, en, cq, srt⟩
              obtain ⟨ex, lx⟩ := start_tail fl c1 c2 en cq
              have iff := startOk_iff (ns := ns) (k := xs.length - ns.length) (by omega) (by omega)
              rw [← ex] at iff
              rw [en] at hq3
              refine ⟨_, rfl, !(ns.map V.int).isEmpty, .inl ⟨_, SqL.of hq3, rfl⟩, _, rfl, ?_⟩
              cases ns with
              | nil => exact iteT (k true H3 s3 ⟨fun _ => iff.mpr ⟨.nil, fun z h => by cases h⟩, fun _ => rfl⟩)
              | cons n0 r =>
                refine iteF ⟨_, rfl, q, _, _, .int n0, rfl, rfl, SqL.of hq3, atI_nat (j := 0) rfl, _, _, rfl, rfl, _, rfl, ?_⟩
                obtain ⟨z, hz⟩ : ∃ z, (n0 :: r)[(n0 :: r).length - 1]? = some z := ⟨_, List.getElem?_eq_getElem (by simp)⟩
                have bi := bounds_iff srt hz
                have lz : atI ((n0 :: r).map V.int) (-1) = some (.int z) := last_get (by rw [List.length_map, List.getElem?_map, hz]; rfl)
                by_cases b0 : 0 ≤ n0
                · rw [decide_eq_true b0]
                  refine iteT ⟨_, rfl, 1, rfl, q, _, _, .int z, rfl, rfl, SqL.of hq3, lz, _, _, rfl, rfl, k _ H3 s3 ?_⟩
                  rw [decide_eq_true_iff, iff]
                  exact ⟨fun h => ⟨srt, bi.mpr ⟨b0, h⟩⟩, fun h => (bi.mp h.2).2⟩
                · rw [decide_eq_false b0]
                  exact iteF (k false H3 s3 ⟨fun z => (by cases z), fun S => absurd (bi.mp (iff.mp S).2).1 b0⟩)
        · exact ⟨false, bF (by omega), iteT (k false H1 s1 ⟨fun z => (by cases z), fun S => absurd S.l2 c2⟩)⟩
      · exact ⟨false, bF (by omega), iteF ⟨false, rfl, iteT (k false H1 s1 ⟨fun z => (by cases z), fun S => absurd S.l1 c1⟩)⟩⟩
    · refine ⟨_, pss_cons (ps_if (PW.pt (pw_or (pt_not (pt_val (pe_call GL hr1 rfl mL kL bL .nil pass0 (pa_cons (pv 0) pa_nil))))
            (pw_or1 (pt_not (pt_chain op_le op_le pe_int (pe_callB call_len_seq (by rfl) T.len PySem.boot_len (pa_cons (pv 0) pa_nil)) (pe_glob (v := .int 400) rfl mG ⟨_, rfl⟩))))))
          (pss_one (ps_ret pe_bl)) pss_nil)
        (C8.pss_cut (ps_setLc (i := 1) (own := [("one", 2)]) (g := gName 2) rfl scStart.nd rfl rfl (sw_true rfl rfl rfl (by decide +kernel)) (pi_tup (pv 0)) (blkOk_by (N := nStart) (sc := defScope sStart) (by decide +kernel))
          (fun _ _ _ _ _ => pg_name (i := 2) scStart.nd rfl (Or.inl rfl)) (fun _ _ _ _ _ => pts_one (pt_cmpR op_notN (pv 2) pe_non (nomark _))) (fun _ _ _ _ _ => pv 2))
        (C8.pss_cut (ps_if (PW.pt (pw_or (pt_not (pt_val (pe_call GN hr rfl mN kN bN .nil pass0 (pa_cons (pv 1) pa_nil))))
            (pw_or (pt_cmpR op_in_seq pe_non (pe_slice sl_seqB (pv 0) po_none (po_some (pe_callB call_len_seq (by rfl) T.len PySem.boot_len (pa_cons (pv 1) pa_nil)))) (by rfl))
            (pw_or1 (pt_cmpR (op_neD hu) (pe_callB cr_sortedI (by rfl) T.sorted (by decide +kernel) (pa_cons (pv 1) pa_nil)) (pv 1) (nomark _))))))
          (pss_one (ps_ret pe_bl)) pss_nil)
        (pss_one (ps_ret (pe_or (pe_notT (pv 1)) (pe_one (pe_and (pe_cmpR op_ge (pe_ix ix_list (pv 1) pe_int (fun _ _ => rfl)) pe_int (nomark _))
          (pe_one (pe_cmpR op_le (pe_ix ix_list (pv 1) (pe_un un_neg pe_int) (fun _ _ => rfl)) (pe_glob (v := .int 1000000000) rfl mM ⟨_, rfl⟩) (nomark _)))))))))), ?_⟩
      refine ⟨_, rfl, .ref a, true, rfl, listT_seq hsA, fun H1 s1 => ⟨true, rfl, iteF ?_⟩⟩
      have h1 := seqT s1 hs
      refine ⟨_, rfl, a, xs, rfl, .inr h1, _, _, rfl, rfl, ?_⟩
      by_cases c1 : 1 ≤ xs.length
      · refine ⟨true, bT (by omega), iteT ⟨_, _, rfl, rfl, ?_⟩⟩
        by_cases c2 : xs.length ≤ 400
        · refine ⟨true, bT (by omega), iteF ?_⟩
          refine ⟨Found xs H a, ?_, ?_⟩
          · refine ⟨_, rfl, a, rfl, ⟨_, h1⟩, fun D hD => lc_tup (K := K) (a := a) (xs := xs) (fun i H2 => H2 D = some (.lst (nums (xs.take i))) ∧ Same H1 H2) ⟨upd_same, same_new hD⟩ (fun i H2 _ ⟨_, s2⟩ => seqT s2 h1) ?_ ?_⟩
            · rintro i x H2 hx ⟨hd, s2⟩
              have hi : i < xs.length := (List.getElem?_eq_some_iff.mp hx).1
              refine ⟨rfl, _, rfl, rfl, !isNon x, by rw [isNon_dec], ?_⟩
              cases e : isNon x with
              | true => exact iteF ⟨by rw [nums_step hx, e]; simpa using hd, s2⟩
              | false =>
                refine iteT ⟨_, rfl, _, hd, ?_, ?_, fun b o z => by rw [upd_ne (ne_of_none z hD)]; exact s2 b o z⟩
                · have := nums_le (xs.take i)
                  rw [List.length_take] at this
                  omega
                · rw [nums_step hx, e]
                  exact upd_same
            · rintro H2 ⟨hd, s2⟩
              rw [List.take_length] at hd
              exact ⟨D, _, rfl, hd, Same.trans s1 s2⟩
          · rintro σ2 H2 ⟨q, v, rfl, hq, s2⟩
            have fln : (nums xs).all flatV = true := flat_sub fl fun y hy => (List.mem_filter.mp hy).1
            have ln := nums_le xs
            refine ⟨fun σ' H' => ∃ v, σ' = [some (.ref a), some (.ref q), v] ∧ H' q = some (.lst (nums xs)) ∧ Same H H' ∧ ∃ ns : List Int, nums xs = ns.map V.int ∧ (xs.take (nums xs).length).any isNon = false ∧ ns.Pairwise (· ≤ ·), ?_, ?_⟩
            · refine ⟨_, rfl, q, _, rfl, SqL.of hq, fln, by omega, fun H3 s3 => ⟨_, rfl, ?_⟩⟩
              have hq3 := s3 _ _ hq
              have sA := Same.trans s2 s3
              cases cN : (nums xs).all numV with
              | false => exact iteT (k false H3 sA ⟨fun z => (by cases z), fun S => absurd S (startOk_no (.inl cN))⟩)
              | true =>
                refine iteF ?_
                obtain ⟨ns, en⟩ := all_ints cN
                refine ⟨_, rfl, _, rfl, q, _, rfl, .inl (SqL.of hq3), _, rfl, a, xs, rfl, hsA.same sA, fun H4 z s4 hz _ => ?_⟩
                rw [cutR ln] at hz
                have flz : (xs.take (nums xs).length).all flatV = true := flat_sub fl fun y hy => List.mem_of_mem_take hy
                refine ⟨z, _, rfl, hz, rfl, flz, ?_⟩
                have sB := Same.trans sA s4
                cases cq : (xs.take (nums xs).length).any isNon with
                | true => exact ⟨true, by show V.bl (inV .non _) = _; rw [inV_non flz, cq], iteT (k false H4 sB ⟨fun z => (by cases z), fun S => absurd S (startOk_no (.inr cq))⟩)⟩
                | false =>
                  refine ⟨false, by show V.bl (inV .non _) = _; rw [inV_non flz, cq], iteF ?_⟩
                  have hq4 := s4 _ _ hq3
                  rw [en] at hq4
                  refine ⟨_, rfl, q, ns, rfl, SqL.of hq4, fun ms p pm srt hp => ?_⟩
                  generalize g5 : upd H4 p _ = H5
                  obtain ⟨s5, f5⟩ := alloc g5 hp
                  have hq5 := s5 _ _ hq4
                  refine ⟨_, rfl, .list (ms.map .int), .list (ns.map .int), .lst (SqL.of f5) (dpAll_int _), .lst (SqL.of hq5) (dpAll_int _), shaped_ints _, shaped_ints _, _, rfl, ?_⟩
                  rw [eqv_ints]
                  have sC := Same.trans sB s5
                  obtain ⟨ex, lx⟩ := start_tail fl c1 c2 en cq
                  have l3 : ns.length + (xs.length - ns.length) = xs.length := by omega
                  by_cases cs : ms = ns
                  · rw [decide_eq_true cs]
                    exact iteF ⟨_, rfl, by rw [en]; exact hq5, sC, ns, en, (by first | exact cq | rfl), (sorted_same pm srt).mp cs⟩
                  · rw [decide_eq_false cs]
                    refine iteT (k false H5 sC ⟨fun z => (by cases z), fun S => ?_⟩)
                    rw [ex, startOk_iff (by omega) (by omega)] at S
                    exact absurd ((sorted_same pm srt).mpr S.1) cs
            · rintro σ3 H3 ⟨v3, rfl, hq3, s3, ns, en, cq, srt⟩
              obtain ⟨ex, lx⟩ := start_tail fl c1 c2 en cq
              have iff := startOk_iff (ns := ns) (k := xs.length - ns.length) (by omega) (by omega)
              rw [← ex] at iff
              rw [en] at hq3
              refine ⟨_, rfl, !(ns.map V.int).isEmpty, .inl ⟨_, SqL.of hq3, rfl⟩, _, rfl, ?_⟩
              cases ns with
              | nil => exact iteT (k true H3 s3 ⟨fun _ => iff.mpr ⟨.nil, fun z h => by cases h⟩, fun _ => rfl⟩)
              | cons n0 r =>
                refine iteF ⟨_, rfl, q, _, _, .int n0, rfl, rfl, SqL.of hq3, atI_nat (j := 0) rfl, _, _, rfl, rfl, _, rfl, ?_⟩
                obtain ⟨z, hz⟩ : ∃ z, (n0 :: r)[(n0 :: r).length - 1]? = some z := ⟨_, List.getElem?_eq_getElem (by simp)⟩
                have bi := bounds_iff srt hz
                have lz : atI ((n0 :: r).map V.int) (-1) = some (.int z) := last_get (by rw [List.length_map, List.getElem?_map, hz]; rfl)
                by_cases b0 : 0 ≤ n0
                · rw [decide_eq_true b0]
                  refine iteT ⟨_, rfl, 1, rfl, q, _, _, .int z, rfl, rfl, SqL.of hq3, lz, _, _, rfl, rfl, k _ H3 s3 ?_⟩
                  rw [decide_eq_true_iff, iff]
                  exact ⟨fun h => ⟨srt, bi.mpr ⟨b0, h⟩⟩, fun h => (bi.mp h.2).2⟩
                · rw [decide_eq_false b0]
                  exact iteF (k false H3 s3 ⟨fun z => (by cases z), fun S => absurd (bi.mp (iff.mp S).2).1 b0⟩)
        · exact ⟨false, bF (by omega), iteT (k false H1 s1 ⟨fun z => (by cases z), fun S => absurd S.l2 c2⟩)⟩
      · exact ⟨false, bF (by omega), iteF ⟨false, rfl, iteT (k false H1 s1 ⟨fun z => (by cases z), fun S => absurd S.l1 c1⟩)⟩⟩
end
end WW
end

section
set_option Elab.async false
set_option linter.all false
set_option maxRecDepth 100000
set_option maxHeartbeats 4000000
namespace WW
open PySem L2 WO WG RZ WQ
section
variable {P : Program} {w : World} {K : PySem.W.Frag} {mg : Str → Option Value} {base : Heap}
theorem ixs {H : Hp} {a : Addr} {xs : List V} {i : Int} {v : V} {Q : VK} (h : SeqA K H a xs) (e : atI xs i = some v) (k : Q v H) : rIx K (.ref a) (.int i) H Q := by
  rcases h with h | h
  · exact .inl ⟨a, xs, i, v, rfl, rfl, h, e, k⟩
  · exact .inr (.inl ⟨a, xs, i, v, rfl, rfl, h, e, k⟩)
/-- whether the first value behind falls below the last one -/
def fallsV (x y : V) (g : Int) (b : Bool) : Prop :=
  (∃ i, x = .int i ∧ ((∃ j, y = .int j ∧ b = decide (i + g < j)) ∨ (y = .non ∧ b = true))) ∨ (x = .non ∧ y = .non ∧ b = false)
def spFalls (K : PySem.W.Frag) : Sp := fun vs H Q _ => ∃ (a : Addr) (xs : List V) (p g : Int) (x y : V) (b : Bool), vs = [.ref a, .int p, .int g] ∧ SeqA K H a xs ∧ atI xs (xs.length - p) = some x ∧ atI xs (-1) = some y ∧ fallsV x y g b ∧ Q (.bl b) H
theorem scFalls : FnScope ["start", "period", "growth", "behind"] ["start", "period", "growth"] (defScope sFalls) := ⟨rfl, rfl, rfl, by decide +kernel, rfl, by decide +kernel, by decide +kernel⟩
theorem ok_falls {f fA : Addr} {fd dA : FuncData} (F : Fun K "falls_behind" "falls_behind" sFalls f fd) (T : CurG mg)
    (GA : FnOk P w K mg base CX0 1 fA dA ["one", "two"] (spAbove K)) (kA : PySem.W.keepIn K (.ref fA) = true) (bA : Binds K dA ["one", "two"] []) (mA : mg "is_above" = some (.ref fA)) :
    FnOk P w K mg base CX0 2 f fd ["start", "period", "growth"] (spFalls K) := by
  refine F.ok scFalls (fun vs H Q E h => ?_) (fun cdv A outer s H vs Q E hr h => ?_)
  · obtain ⟨a, xs, p, g, x, y, b, rfl, _⟩ := h
    rfl
  · obtain ⟨a, xs, p, g, x, y, b, rfl, h, ex, ey, c, k⟩ := h
    refine ⟨_, pss_cons (ps_set (i := 3) scFalls.nd rfl (Or.inl rfl) (pe_ix ix_seq (pv 0) (pe_op op_sub (pe_callB call_len_seq (by rfl) T.len PySem.boot_len (pa_cons (pv 0) pa_nil)) (pv 1)) (fun _ _ => rfl)))
      (pss_cons (ps_if (pt_cmpR op_notN (pv 3) pe_non (nomark _)) (pss_one (ps_set (i := 3) scFalls.nd rfl (Or.inl rfl) (pe_op op_add (pv 3) (pv 2)))) pss_nil)
      (pss_one (ps_ret (pe_call GA hr rfl mA kA bA .nil pass0 (pa_cons (pe_ix ix_seq (pv 0) (pe_un un_neg pe_int) (fun _ _ => rfl)) (pa_cons (pv 3) pa_nil)))))), ?_⟩
    refine ⟨_, rfl, _, rfl, a, xs, rfl, h, _, rfl, _, _, rfl, rfl, ixs h ex ?_⟩
    rcases c with ⟨i, rfl, c⟩ | ⟨rfl, rfl, rfl⟩
    · refine ⟨_, rfl, rfl, true, rfl, iteT ⟨_, rfl, _, rfl, _, _, rfl, rfl, ?_⟩⟩
      refine ⟨_, rfl, 1, rfl, ixs h ey ?_⟩
      refine ⟨_, rfl, ?_⟩
      rcases c with ⟨j, rfl, rfl⟩ | ⟨rfl, rfl⟩
      · exact ⟨.int j, .int (i + g), rfl, .inr ⟨j, rfl, .inr ⟨_, rfl, k⟩⟩⟩
      · exact ⟨.non, .int (i + g), rfl, .inl ⟨rfl, k⟩⟩
    · refine ⟨_, rfl, rfl, false, rfl, iteF ?_⟩
      refine ⟨_, rfl, 1, rfl, ixs h ey ?_⟩
      refine ⟨_, rfl, ?_⟩
      exact above_no (K := K) (E := E0) (.inr (.inr ⟨rfl, rfl⟩)) k
/-! ### slices of lists -/
theorem six_nat {n t : Nat} {d : Nat} (h : t ≤ n) : HT.sIx n d (some (t : Int)) = t := by
  unfold HT.sIx
  dsimp only
  rw [if_neg (by omega), Int.toNat_natCast]
  omega
theorem cutL {xs : List V} {t : Nat} (h : t ≤ xs.length) : cutV xs (some (t : Int)) none = xs.drop t := by
  unfold cutV
  rw [six_nat h]
  exact List.take_of_length_le (by rw [List.length_drop]; exact Nat.le_refl _)
/-! ### least_step -/
section
variable {s : List Int} {p : Nat} {g : Int}
theorem at_get {j : Nat} (h : j < s.length) : s[j]? = some (MF.at_ s p g j) := by
  rw [MF.at_low h, List.getD_eq_getElem?_getD, List.getElem?_eq_getElem h]
  rfl
theorem tail_get {i : Nat} (hp : p ≤ s.length) (hi : i < p) : (((s.map V.int).drop (s.length - p)))[i]? = some (.int (MF.at_ s p g (s.length - p + i))) := by
  rw [List.getElem?_drop, List.getElem?_map, at_get (p := p) (g := g) (by omega)]
  rfl
theorem tail_len (hp : p ≤ s.length) : ((s.map V.int).drop (s.length - p)).length = p := by rw [List.length_drop, List.length_map]; omega
theorem next_get {i : Nat} (h0 : 0 < p) (hp : p ≤ s.length) (hi : i < p) :
    (((s.map V.int).drop (s.length - p)).drop 1 ++ [V.int (MF.at_ s p g (s.length - p) + g)])[i]? = some (.int (MF.at_ s p g (s.length - p + i + 1))) := by
  have l : (((s.map V.int).drop (s.length - p)).drop 1).length = p - 1 := by rw [List.length_drop, tail_len hp]
  by_cases e : i + 1 < p
  · rw [List.getElem?_append_left (by omega), List.getElem?_drop, Nat.add_comm 1 i, tail_get (g := g) hp e]
    rfl
  · rw [List.getElem?_append_right (by omega), l]
    have e2 : i - (p - 1) = 0 := by omega
    rw [e2]
    have q := MF.at_qp (s := s) (g := g) h0 hp (s.length - p) (Nat.le_refl _)
    have e3 : s.length - p + i + 1 = s.length - p + p := by omega
    rw [e3, q]
    rfl
def jumps (s : List Int) (p : Nat) (g : Int) (n : Nat) : List Int := (List.range n).map fun i => MF.D (MF.at_ s p g) (s.length - p + i)
theorem jumps_len (n : Nat) : (jumps s p g n).length = n := by unfold jumps; rw [List.length_map, List.length_range]
theorem jumps_snoc (n : Nat) : (jumps s p g n).map V.int ++ [.int (MF.D (MF.at_ s p g) (s.length - p + n))] = (jumps s p g (n + 1)).map V.int := by
  unfold jumps
  rw [List.range_succ, List.map_append, List.map_append]
  rfl
theorem jumps_get {n i : Nat} (h : i < n) : (jumps s p g n)[i]? = some (MF.D (MF.at_ s p g) (s.length - p + i)) := by
  unfold jumps
  rw [List.getElem?_map, List.getElem?_range h]
  rfl
theorem jumps_A {t : Nat} (ht : t ≤ p) (hd : p % t = 0) : ((jumps s p g p).drop t = (jumps s p g p).take (p - t)) ↔ MF.A (MF.at_ s p g) (s.length - p) p t := by
  constructor
  · intro e
    refine ⟨hd, fun i hi => ?_⟩
    have z : ((jumps s p g p).drop t)[i]? = ((jumps s p g p).take (p - t))[i]? := by rw [e]
    rw [List.getElem?_drop, List.getElem?_take, if_pos hi, jumps_get (by omega), jumps_get (by omega)] at z
    have z' := Option.some.inj z
    have e2 : s.length - p + (t + i) = s.length - p + i + t := by omega
    rw [e2] at z'
    exact z'
  · rintro ⟨_, h⟩
    refine List.ext_getElem? fun i => ?_
    rw [List.getElem?_drop, List.getElem?_take]
    by_cases hi : i < p - t
    · rw [if_pos hi, jumps_get (by omega), jumps_get (by omega)]
      have e2 : s.length - p + (t + i) = s.length - p + i + t := by omega
      rw [e2, h i hi]
    · rw [if_neg hi]
      exact List.getElem?_eq_none (by rw [jumps_len]; omega)
end
def spStep (K : PySem.W.Frag) : Sp := fun vs H Q _ => ∃ (a : Addr) (s : List Int) (p : Nat) (g : Int), vs = [.ref a, .int p, .int g] ∧ SqL K H a (s.map V.int) ∧ 0 < p ∧ p ≤ s.length ∧ s.length ≤ 100000 ∧
  ∀ (q : Nat) (H' : Hp), 0 < q → q ≤ p → MF.A (MF.at_ s p g) (s.length - p) p q → (∀ t, 0 < t → t < q → ¬ MF.A (MF.at_ s p g) (s.length - p) p t) → Same H H' → Q (.int q) H'
abbrev nStep : List Str := ["row", "period", "growth", "least", "tail", "jumps", "step", "one", "two"]
theorem scStep : FnScope nStep ["row", "period", "growth"] (defScope sStep) := ⟨rfl, rfl, rfl, by decide +kernel, rfl, by decide +kernel, by decide +kernel⟩
theorem fmod_nat (p t : Nat) (h : 0 < t) : Int.fmod (p : Int) (t : Int) = ((p % t : Nat) : Int) := by
  rw [Int.fmod_eq_emod_of_nonneg _ (by omega)]
  rfl
theorem fdiv_nat (p t : Nat) : Int.fdiv (p : Int) (t : Int) = ((p / t : Nat) : Int) := by
  rw [Int.fdiv_eq_ediv_of_nonneg _ (by omega)]
  rfl
theorem line_le {n : Nat} (h : n ≤ 200000) : n ≤ sizeLine := Nat.le_trans h (by decide)
theorem line_lt {n : Nat} (h : n < 200000) : n < sizeLine := Nat.lt_of_lt_of_le h (by decide)
theorem ok_step {f : Addr} {fd : FuncData} (F : Fun K "least_step" "least_step" sStep f fd) (T : CurG mg) : FnOk P w K mg base CX0 1 f fd ["row", "period", "growth"] (spStep K) := by
  refine F.ok scStep (fun vs H Q E h => ?_) (fun cdv A outer s H vs Q E hr h => ?_)
  · obtain ⟨a, s, p, g, rfl, _⟩ := h
    rfl
  · obtain ⟨a, sl, p, g, rfl, h, p0, pn, n4, k⟩ := h
    have hu := hr.units
    refine ⟨_, C8.pss_cut (ps_set (i := 3) scStep.nd rfl (Or.inl rfl) (pe_op op_fdivN (pv 1) (pe_callBfun cr_gcd (by rfl) T.gcd (pa_cons (pv 1) (pa_cons (pv 2) pa_nil)))))
      (pss_cons (ps_if (pt_cmpR op_eq (pv 3) (pv 1) (nomark _)) (pss_one (ps_ret (pv 1))) pss_nil)
      (C8.pss_cut (ps_set (i := 4) scStep.nd rfl (Or.inl rfl) (pe_slice sl_list (pv 0) (po_some (pe_op op_sub (pe_callB call_len_seq (by rfl) T.len PySem.boot_len (pa_cons (pv 0) pa_nil)) (pv 1))) po_none))
      (C8.pss_cut (ps_setLc (i := 5) (own := [("one", 7), ("two", 8)]) (g := gTup K 2 (gCons (gName 7) (gCons (gName 8) gNil))) (tt := tYes) rfl scStep.nd rfl rfl (sw_true rfl rfl rfl (by decide +kernel))
          (pi_zip (by rfl) T.zip (pa_cons (pv 4) (pa_cons (pe_op op_cat (pe_slice sl_list (pv 4) (po_some pe_int) po_none) (pe_lst (pa_cons (pe_op op_add (pe_ix ix_list (pv 4) pe_int (fun _ _ => rfl)) (pv 2)) pa_nil))) pa_nil)))
          (blkOk_by (N := nStep) (sc := defScope sStep) (by decide +kernel))
          (fun _ _ _ _ _ => pg_tup rfl (pgs_cons (pg_name (i := 7) scStep.nd rfl (Or.inl rfl)) (pgs_cons (pg_name (i := 8) scStep.nd rfl (Or.inl rfl)) pgs_nil))) (fun _ _ _ _ _ => pts_nil)
          (fun _ _ _ _ _ => pe_op op_sub (pv 8) (pv 7)))
      (pss_cons (ps_for PassesOwn.never rfl (pi_rangeW (by rfl) T.range (pa_cons (pv 3) (pa_cons (pv 1) (pa_cons (pv 3) pa_nil)))) (pg_name (i := 6) scStep.nd rfl (Or.inl rfl))
          (pss_one (ps_if (PW.pt (pw_and (pt_cmpR op_eq (pe_op op_modN (pv 1) (pv 6)) pe_int (nomark _)) (pw_and1 (pt_cmpR (op_eqD hu) (pe_slice sl_list (pv 5) (po_some (pv 6)) po_none) (pe_slice sl_list (pv 5) po_none (po_some (pe_op op_sub (pv 1) (pv 6)))) (nomark _)))))
            (pss_one (ps_ret (pv 6))) pss_nil)))
      (pss_one (ps_ret (pv 1))))))), ?_⟩
    obtain ⟨L, hL⟩ : ∃ L, L = p / Nat.gcd p g.natAbs := ⟨_, rfl⟩
    have QPf := MF.at_qp (s := sl) (g := g) p0 pn
    have L0 : 0 < L := hL ▸ MF.step_pos p0
    have Lp : L ≤ p := hL ▸ MF.step_le
    have hdv : ∀ t, 0 < t → t < p → MF.A (MF.at_ sl p g) (sl.length - p) p t → L ∣ t := fun t t0 tp a => hL ▸ a.dvd p0 QPf t0 (by omega)
    have gp : 0 < Nat.gcd p g.natAbs := Nat.gcd_pos_of_pos_left _ p0
    have gl : Nat.gcd p g.natAbs ≤ p := Nat.le_of_dvd p0 (Nat.gcd_dvd_left ..)
    refine ⟨fun σ' H' => σ' = [some (.ref a), some (.int p), some (.int g), some (.int L), none, none, none, none, none] ∧ H' = H, ?_, ?_⟩
    · refine ⟨_, rfl, _, rfl, _, rfl, p, g, rfl, (p : Int), ((Nat.gcd p g.natAbs : Nat) : Int), rfl, rfl, ⟨by omega, by omega⟩, ?_, rfl⟩
      show [_, _, _, some (V.int (Int.fdiv (p : Int) ((Nat.gcd p g.natAbs : Nat) : Int))), _, _, _, _, _] = _
      rw [fdiv_nat, ← hL]
    rintro σ0 H0 ⟨rfl, rfl⟩
    refine ⟨_, rfl, _, rfl, rfl, decide (L = p), (by show V.bl (decide (V.int (L : Int) = V.int (p : Int))) = _; congr 1; exact decide_eq_decide.mpr ⟨fun z => by have := V.int.inj z; omega, fun z => by rw [z]⟩), ?_⟩
    refine ite2 (fun c => ?_) (fun c => ?_)
    · have c' := of_decide_eq_true c
      refine ⟨_, rfl, k p H0 p0 (Nat.le_refl _) MF.A.self (fun t h1 h2 a => ?_) (Same.refl _)⟩
      have := Nat.le_of_dvd h1 (hdv t h1 h2 a)
      omega
    have hLp : L < p := by
      have : L ≠ p := fun z => c (decide_eq_true z)
      omega
    refine ⟨fun σ' H' => ∃ t, σ' = [some (.ref a), some (.int p), some (.int g), some (.int L), some (.ref t), none, none, none, none] ∧ H' t = some (.lst ((sl.map V.int).drop (sl.length - p))) ∧ Same H0 H', ?_, ?_⟩
    · refine ⟨_, rfl, _, rfl, a, _, rfl, .inl h, _, rfl, _, _, rfl, rfl, _, rfl, a, _, rfl, h, fun t ht => ?_⟩
      rw [List.length_map, show ((sl.length : Nat) : Int) - (p : Int) = ((sl.length - p : Nat) : Int) by omega, cutL (by rw [List.length_map]; omega)]
      exact ⟨t, rfl, upd_same, same_new ht⟩
    · rintro σ1 H1 ⟨t, rfl, h1, s1⟩
      have lX := tail_len (s := sl) pn
      refine ⟨fun σ' H' => ∃ j, σ' = [some (.ref a), some (.int p), some (.int g), some (.int L), some (.ref t), some (.ref j), none, none, none] ∧ H' j = some (.lst ((jumps sl p g p).map V.int)) ∧ Same H0 H', ?_, ?_⟩
      · refine ⟨_, rfl, _, rfl, 1, rfl, t, _, rfl, SqL.of h1, fun t2 ht2 => ?_⟩
        rw [cut1 (by rw [lX]; exact p0)]
        generalize g2 : upd H1 t2 (.lst (((sl.map V.int).drop (sl.length - p)).drop 1)) = H2
        obtain ⟨s2, f2⟩ := alloc g2 ht2
        have e0 : atI ((sl.map V.int).drop (sl.length - p)) 0 = some (.int (MF.at_ sl p g (sl.length - p + 0))) := atI_nat (j := 0) (tail_get pn p0)
        refine ⟨_, rfl, t, _, _, _, rfl, rfl, SqL.of (s2 _ _ h1), e0, _, rfl, _, _, rfl, rfl, (by show 1 ≤ sizeLine; decide), fun t3 ht3 => ?_⟩
        generalize g3 : upd H2 t3 _ = H3
        obtain ⟨s3, f3⟩ := alloc g3 ht3
        refine ⟨t2, t3, _, _, rfl, rfl, s3 _ _ f2, f3, ?_, fun z hz => ?_⟩
        · rw [List.length_drop, lX]
          exact line_le (show p - 1 + 1 ≤ 200000 by omega)
        generalize g4 : upd H3 z _ = H4
        obtain ⟨s4, f4⟩ := alloc g4 hz
        have hz4 : SqL K H4 z ((((sl.map V.int).drop (sl.length - p)).drop 1 ++ [V.int (MF.at_ sl p g (sl.length - p) + g)])) := SqL.of f4
        have ht4 : SqL K H4 t ((sl.map V.int).drop (sl.length - p)) := SqL.of (s4 _ _ (s3 _ _ (s2 _ _ h1)))
        refine ⟨t, z, _, _, rfl, ht4, hz4, fun D hD => lc_it (n := p) (walk_zip (by rw [lX, List.length_append, List.length_drop, lX]; show p = min p (p - 1 + 1); omega))
          (fun i H5 => H5 D = some (.lst ((jumps sl p g i).map V.int)) ∧ Same H4 H5) ⟨upd_same, same_new hD⟩ (fun i H5 _ ⟨_, s5⟩ => ⟨s5.seq ht4, s5.seq hz4⟩) ?_ ?_⟩
        · rintro i v H5 H6 hi ⟨hd5, s5⟩ ⟨tt, x, y, rfl, htt, rfl, hx, hy⟩
          dsimp only at hx hy
          rw [tail_get (g := g) pn hi] at hx
          rw [next_get p0 pn hi] at hy
          cases hx
          cases hy
          refine ⟨tt, _, rfl, SqT.of upd_same, rfl, _, _, rfl, _, _, rfl, rfl, rfl, _, rfl, _, rfl, _, _, rfl, rfl, (jumps sl p g i).map V.int, ?_, ?_, ?_⟩
          · rw [upd_ne (ne_of_none hd5 htt)]; exact hd5
          · rw [List.length_map, jumps_len]; exact line_lt (by omega)
          · have e := jumps_snoc (s := sl) (p := p) (g := g) i
            unfold MF.D at e
            rw [e]
            exact ⟨upd_same, fun b o e => by rw [upd_ne (ne_of_none e hD), upd_ne (ne_of_none (s5 _ _ e) htt)]; exact s5 _ _ e⟩
        · rintro H5 ⟨hd5, s5⟩
          exact ⟨D, rfl, hd5, Same.trans s1 (Same.trans s2 (Same.trans s3 (Same.trans s4 s5)))⟩
      · rintro σ2 H2 ⟨j, rfl, hj, s2⟩
        obtain ⟨N, hN1, hN2⟩ : ∃ N : Nat, p ≤ L * (N + 1) ∧ ∀ m, m < N → L * (m + 1) < p := by
          refine ⟨(p - 1) / L, ?_, fun m hm => ?_⟩
          · have := Nat.lt_mul_div_succ (p - 1) L0
            omega
          · have h2 := Nat.mul_div_le (p - 1) L
            have h3 : L * (m + 1) ≤ L * ((p - 1) / L) := Nat.mul_le_mul_left _ hm
            omega
        have mulc : ∀ m : Nat, (L : Int) + (m : Int) * (L : Int) = ((L * (m + 1) : Nat) : Int) := fun m => by
          rw [Int.natCast_mul, Int.natCast_add, Int.mul_add, Int.mul_comm (m : Int)]
          simp
          omega
        have hNs : N < 2 ^ 60 := by
          have : N ≤ (p - 1) / L ∨ True := .inr trivial
          rcases Nat.eq_zero_or_pos N with z | z
          · omega
          · have := hN2 (N - 1) (by omega)
            have h4 : 1 * N ≤ L * (N - 1 + 1) := by
              rw [show N - 1 + 1 = N by omega]
              exact Nat.mul_le_mul_right _ L0
            omega
        refine ⟨_, rfl, _, rfl, _, rfl, L, p, L, N, rfl, RgW.up (by omega) (by omega) (by omega) (by omega) (by omega) (by omega) hNs ?_ (fun m hm => ?_), for_rangeC (lo := L) (c := L) (n := N) (fun i σ H3 => ∃ v6, σ = [some (.ref a), some (.int p), some (.int g), some (.int L), some (.ref t), some (.ref j), v6, none, none] ∧ Same H2 H3 ∧ ∀ t, 0 < t → t < p → t < L * (i + 1) → ¬ MF.A (MF.at_ sl p g) (sl.length - p) p t) ⟨_, rfl, Same.refl _, fun t h1 h2 h3 z => by have := Nat.le_of_dvd h1 (hdv t h1 h2 z); omega⟩ ?_ ?_⟩
        · have := mulc N
          omega
        · rw [mulc]
          exact Int.ofNat_lt.mpr (hN2 m hm)
        · rintro i σ H3 hi ⟨v6, rfl, s3, no⟩
          have hj3 : H3 j = some (.lst ((jumps sl p g p).map V.int)) := s3 _ _ hj
          rw [mulc i]
          have lJ : ((jumps sl p g p).map V.int).length = p := by rw [List.length_map, jumps_len]
          have q0 : 0 < L * (i + 1) := Nat.mul_pos L0 (by omega)
          have qp : L * (i + 1) < p := hN2 i hi
          have nx : ∀ t, 0 < t → t < p → t < L * (i + 1 + 1) → t ≠ L * (i + 1) → ¬ MF.A (MF.at_ sl p g) (sl.length - p) p t := fun t h1 h2 h3 h4 z => by
            by_cases c5 : t < L * (i + 1)
            · exact no t h1 h2 c5 z
            · obtain ⟨m, hm⟩ := hdv t h1 h2 z
              have e1 : i + 1 ≤ m := by
                refine Nat.le_of_mul_le_mul_left ?_ L0
                omega
              have e2 : m < i + 1 + 1 := by
                refine Nat.lt_of_mul_lt_mul_left (a := L) ?_
                omega
              have e3 : m = i + 1 := by omega
              subst e3
              exact h4 hm
          generalize hq : L * (i + 1) = q at *
          by_cases hd : p % q = 0
          · refine ⟨_, rfl, _, rfl, _, _, rfl, rfl, by omega, rfl, true, bT (by show V.int (Int.fmod (p : Int) (q : Int)) = V.int 0; rw [fmod_nat p q (by omega), hd]; rfl), ?_⟩
            refine iteT ⟨_, rfl, _, rfl, _, rfl, j, _, rfl, SqL.of hj3, fun q1 hq1 => ?_⟩
            rw [cutL (by rw [lJ]; omega)]
            generalize g4 : upd H3 q1 _ = H4
            obtain ⟨s4, f4⟩ := alloc g4 hq1
            refine ⟨_, rfl, _, rfl, _, rfl, _, _, rfl, rfl, ((p - q : Nat) : Int), (by show V.int _ = V.int _; congr 1; omega), j, _, rfl, SqL.of (s4 _ _ hj3), fun q2 hq2 => ?_⟩
            rw [cutR (by rw [lJ]; omega), ← List.map_drop] at *
            rw [← List.map_take]
            generalize g5 : upd H4 q2 _ = H5
            obtain ⟨s5, f5⟩ := alloc g5 hq2
            refine ⟨.list (((jumps sl p g p).drop q).map .int), .list (((jumps sl p g p).take (p - q)).map .int), .lst (SqL.of (s5 _ _ f4)) (dpAll_int _), .lst (SqL.of f5) (dpAll_int _), shaped_ints _, shaped_ints _, _, rfl, ?_⟩
            rw [eqv_ints]
            refine ite2 (fun c => ?_) (fun c => ?_)
            · have c' := of_decide_eq_true c
              exact ⟨_, rfl, k q H5 (by omega) (by omega) ((jumps_A (by omega) hd).mp c') (fun t h1 h2 => no t h1 (by omega) (by omega)) (Same.trans s2 (Same.trans s3 (Same.trans s4 s5)))⟩
            · refine ⟨_, rfl, Same.trans s3 (Same.trans s4 s5), fun t h1 h2 h3 => ?_⟩
              by_cases e : t = q
              · rw [e]
                exact fun z => c (decide_eq_true ((jumps_A (by omega) hd).mpr z))
              · exact nx t h1 h2 h3 e
          · refine ⟨_, rfl, _, rfl, _, _, rfl, rfl, by omega, rfl, false, bF (fun z => hd (by have z' : V.int (Int.fmod (p : Int) (q : Int)) = V.int 0 := z; rw [fmod_nat p q (by omega)] at z'; have := V.int.inj z'; omega)), ?_⟩
            refine iteF ⟨_, rfl, s3, fun t h1 h2 h3 => ?_⟩
            by_cases e : t = q
            · rw [e]
              exact fun z => hd z.1
            · exact nx t h1 h2 h3 e
        · rintro σ H3 ⟨v6, rfl, s3, no⟩
          refine ⟨_, rfl, ?_⟩
          exact k p H3 p0 (Nat.le_refl _) MF.A.self (fun t h1 h2 => no t h1 h2 (by omega)) (Same.trans s2 s3)
end
end WW
end

section
set_option Elab.async false
set_option linter.all false
set_option maxRecDepth 100000
set_option maxHeartbeats 4000000
namespace WW
open PySem L2 WO WG RZ WQ
/-- what a row is told by -/
inductive FormIn : List V → Nat → Int → Prop
  | mkI (s : List Int) (p : Nat) (g : Int) (p0 : 0 < p) (pn : p ≤ s.length) (n4 : s.length ≤ 100000) (g0 : 0 ≤ g) (g1 : g ≤ 1000000000000000000) : FormIn (s.map V.int) p g
  | mkN (s : List Int) (k p : Nat) (g : Int) (n4 : s.length + (k + 1) ≤ 100000) : FormIn (s.map V.int ++ List.replicate (k + 1) .non) p g
inductive FormV : List V → Nat → Int → List V → Int → Int → Prop
  | mkI (s : List Int) (p : Nat) (g : Int) (q : Nat) (r : Int) (b : Nat) (p0 : 0 < p) (pn : p ≤ s.length) (h : MF.IsForm (MF.at_ s p g) q r b) (l : b + q ≤ s.length) :
      FormV (s.map V.int) p g ((List.range (b + q)).map fun j => V.int (MF.at_ s p g j)) q r
  | mkN (s : List Int) (k p : Nat) (g : Int) : FormV (s.map V.int ++ List.replicate (k + 1) .non) p g (s.map V.int ++ [.non]) 1 0
section
variable {P : Program} {w : World} {K : PySem.W.Frag} {mg : Str → Option Value} {base : Heap}
def spForm (K : PySem.W.Frag) : Sp := fun vs H Q _ => ∃ (a : Addr) (xs : List V) (p : Nat) (g : Int), vs = [.ref a, .int p, .int g] ∧ H a = some (.lst xs) ∧ FormIn xs p g ∧
  ∀ (vals : List V) (q r : Int) (t T : Addr) (H' : Hp), FormV xs p g vals q r → H' t = some (.tup vals) → H' T = some (.tup [.ref t, .int q, .int r]) → Same H H' → Q (.ref T) H'
abbrev nForm : List Str := ["row", "period", "growth", "step", "rise", "begin"]
theorem scForm : FnScope nForm ["row", "period", "growth"] (defScope sForm) := ⟨rfl, rfl, rfl, by decide +kernel, rfl, by decide +kernel, by decide +kernel⟩
theorem take_vals {s : List Int} {p n : Nat} {g : Int} (h : n ≤ s.length) : (s.map V.int).take n = (List.range n).map fun j => V.int (MF.at_ s p g j) := by
  refine List.ext_getElem? fun i => ?_
  rw [List.getElem?_take]
  by_cases hi : i < n
  · rw [if_pos hi, List.getElem?_map, at_get (p := p) (g := g) (by omega), List.getElem?_map, List.getElem?_range hi]
    rfl
  · rw [if_neg hi]
    exact (List.getElem?_eq_none (by rw [List.length_map, List.length_range]; omega)).symm
theorem get_map {s : List Int} {p j : Nat} {g : Int} (h : j < s.length) : (s.map V.int)[j]? = some (.int (MF.at_ s p g j)) := by
  rw [List.getElem?_map, at_get (p := p) (g := g) h]
  rfl
theorem nones_get {s : List Int} {k : Nat} (i : Nat) (h1 : s.length ≤ i) (h2 : i < s.length + (k + 1)) : (s.map V.int ++ List.replicate (k + 1) V.non)[i]? = some .non := by
  rw [List.getElem?_append_right (by rw [List.length_map]; exact h1), List.length_map, List.getElem?_replicate, if_pos (by omega)]
theorem ints_get {s : List Int} {r : List V} (i : Nat) (h1 : i < s.length) : ∃ z, (s.map V.int ++ r)[i]? = some (.int z) := by
  rw [List.getElem?_append_left (by rw [List.length_map]; exact h1), List.getElem?_map, List.getElem?_eq_getElem h1]
  exact ⟨_, rfl⟩
theorem ok_form {f fS : Addr} {fd dS : FuncData} (F : Fun K "least_form" "least_form" sForm f fd) (T : CurG mg)
    (GS : FnOk P w K mg base CX0 1 fS dS ["row", "period", "growth"] (spStep K)) (kS : PySem.W.keepIn K (.ref fS) = true) (bS : Binds K dS ["row", "period", "growth"] []) (mS : mg "least_step" = some (.ref fS)) :
    FnOk P w K mg base CX0 2 f fd ["row", "period", "growth"] (spForm K) := by
  refine F.ok scForm (fun vs H Q E h => ?_) (fun cdv A outer s H vs Q E hr h => ?_)
  · obtain ⟨a, xs, p, g, rfl, _⟩ := h
    rfl
  · obtain ⟨a, xs, p, g, rfl, ha, h, k⟩ := h
    have hu := hu_of hr
    refine ⟨_, pss_cons (ps_if (pt_cmpR op_isN (pe_ix ix_list (pv 0) (pe_un un_neg pe_int) (fun _ _ => rfl)) pe_non (nomark _))
        (pss_one (ps_ret (pe_tup (pa_cons (pe_callTy call_tuple_of (by rfl) T.tuple (by decide +kernel) (pa_cons (pe_slice sl_list (pv 0) po_none (po_some (pe_op op_add (pe_bm PySem.F.plainAttrs_list PySem.F.slot_list_index PySem.F.type_list_index mt_index (pv 0) (pa_cons pe_non pa_nil)) pe_int))) pa_nil)) (pa_cons pe_int (pa_cons pe_int pa_nil)))))) pss_nil)
      (C8.pss_cut (ps_set (i := 3) scForm.nd rfl (Or.inl rfl) (pe_call GS hr rfl mS kS bS .nil pass0 (pa_cons (pv 0) (pa_cons (pv 1) (pa_cons (pv 2) pa_nil)))))
      (pss_cons (ps_set (i := 4) scForm.nd rfl (Or.inl rfl) (pe_op op_fdivN (pe_op op_mul (pv 2) (pv 3)) (pv 1)))
      (pss_cons (ps_set (i := 5) scForm.nd rfl (Or.inl rfl) (pe_op op_sub (pe_callB call_len_seq (by rfl) T.len PySem.boot_len (pa_cons (pv 0) pa_nil)) (pv 1)))
      (C8.pss_cut (ps_while PassesOwn.never (PW.pt (pw_and (pt_cmpR op_gt (pv 5) pe_int (nomark _)) (pw_and1 (pt_cmpR op_eq (pe_ix ix_list (pv 0) (pe_op op_add (pe_op op_sub (pv 5) pe_int) (pv 3)) (fun _ _ => rfl)) (pe_op op_add (pe_ix ix_list (pv 0) (pe_op op_sub (pv 5) pe_int) (fun _ _ => rfl)) (pv 4)) (nomark _)))))
          (pss_one (ps_aug (i := 5) scForm.nd rfl (Or.inl rfl) pe_int ip_sub)))
      (pss_one (ps_ret (pe_tup (pa_cons (pe_callTy call_tuple_of (by rfl) T.tuple (by decide +kernel) (pa_cons (pe_slice sl_list (pv 0) po_none (po_some (pe_op op_add (pv 5) (pv 3)))) pa_nil)) (pa_cons (pv 3) (pa_cons (pv 4) pa_nil)))))))))), ?_⟩
    cases h with
    | mkI s p g p0 pn n4 g0 g1 =>
      have el : (s.map V.int)[(s.map V.int).length - 1]? = some (.int (MF.at_ s p g (s.length - 1))) := by
        rw [List.length_map]
        exact get_map (by omega)
      refine ⟨_, rfl, 1, rfl, a, _, _, _, rfl, rfl, SqL.of ha, last_get el, rfl, false, rfl, iteF ?_⟩
      refine ⟨fun σ' H' => ∃ q : Nat, σ' = [some (.ref a), some (.int p), some (.int g), some (.int q), none, none] ∧ 0 < q ∧ q ≤ p ∧ MF.A (MF.at_ s p g) (s.length - p) p q ∧ (∀ t, 0 < t → t < q → ¬ MF.A (MF.at_ s p g) (s.length - p) p t) ∧ Same H H', ?_, ?_⟩
      · exact ⟨_, rfl, _, rfl, _, rfl, a, s, p, g, rfl, SqL.of ha, p0, pn, n4, fun q H' h1 h2 h3 h4 h5 => ⟨q, rfl, h1, h2, h3, h4, h5⟩⟩
      · rintro σ1 H1 ⟨q, rfl, q0, qp, qA, qm, s1⟩
        have QP := MF.at_qp (s := s) (g := g) p0 pn
        have DS := qA.dp q0 qp QP.dp
        have IF := MF.form_of p0 QP q0 qp qA qm
        have ri := MF.rise_of q0 qp QP qA.1 DS
        have ha1 := s1 _ _ ha
        have gm : ∀ j, j < s.length → (s.map V.int)[j]? = some (.int (MF.at_ s p g j)) := fun j h => get_map h
        have tk : ∀ n, n ≤ s.length → (s.map V.int).take n = (List.range n).map fun j => V.int (MF.at_ s p g j) := fun n h => take_vals h
        have fin := fun b q => FormV.mkI s p g q (MF.at_ s p g (s.length - p + q) - MF.at_ s p g (s.length - p)) b p0 pn
        have fin := fin _ q IF (by have := MF.down_le (fun j => decide (MF.at_ s p g (j + q) = MF.at_ s p g j + (MF.at_ s p g (s.length - p + q) - MF.at_ s p g (s.length - p)))) (s.length - p); omega)
        have hb0 : s.length - p + p = s.length := by omega
        generalize hf : MF.at_ s p g = f at *
        generalize hR : f (s.length - p + q) - f (s.length - p) = R at *
        generalize hb : s.length - p = b0 at *
        have e4 : Int.fdiv (g * (q : Int)) (p : Int) = R := by
          rw [ri, Int.mul_fdiv_cancel _ (by omega)]
        refine ⟨_, rfl, _, rfl, _, _, rfl, rfl, .inl ⟨by omega, by omega⟩, _, rfl, _, _, rfl, rfl, ⟨by omega, by omega⟩, ?_⟩
        refine ⟨_, rfl, a, _, rfl, .inl (SqL.of ha1), _, rfl, _, _, rfl, rfl, ?_⟩
        have e5 : ((s.map V.int).length : Int) - (p : Int) = (b0 : Int) := by rw [List.length_map]; omega
        generalize hP : (fun j => decide (f (j + q) = f j + R)) = Pd at *
        have Pe : ∀ j, Pd j = decide (f (j + q) = f j + R) := fun j => by rw [← hP]
        refine ⟨fun σ' H' => σ' = [some (.ref a), some (.int p), some (.int g), some (.int q), some (.int R), some (.int (MF.down Pd b0))] ∧ H' = H1, ?_, ?_⟩
        rotate_left
        · rintro σ2 H2 ⟨rfl, rfl⟩
          have eq : ((MF.down Pd b0 : Nat) : Int) + (q : Int) = ((MF.down Pd b0 + q : Nat) : Int) := by omega
          refine ⟨_, rfl, _, rfl, _, rfl, _, _, rfl, rfl, ((MF.down Pd b0 + q : Nat) : Int), (by show V.int _ = V.int _; rw [eq]), a, _, rfl, SqL.of ha1, fun t ht => ?_⟩
          have lq : MF.down Pd b0 + q ≤ s.length := by have := MF.down_le Pd b0; omega
          rw [cutR (by rw [List.length_map]; exact lq), tk _ lq]
          generalize g3 : upd H2 t _ = H3
          obtain ⟨s3, f3⟩ := alloc g3 ht
          refine ⟨t, _, rfl, .inl ⟨SqL.of f3, fun l hl => ?_⟩⟩
          generalize g4 : upd H3 l _ = H4
          obtain ⟨s4, f4⟩ := alloc g4 hl
          refine ⟨_, rfl, _, rfl, (by show 3 ≤ sizeLine; decide), fun T hT => ?_⟩
          generalize g5 : upd H4 T _ = H5
          obtain ⟨s5, f5⟩ := alloc g5 hT
          exact k _ _ _ l T H5 fin (s5 _ _ f4) f5 (Same.trans s1 (Same.trans s3 (Same.trans s4 s5)))
        refine while_by (fun σ H => ∃ c : Nat, σ = [some (.ref a), some (.int p), some (.int g), some (.int q), some (.int R), some (.int c)] ∧ c ≤ b0 ∧ MF.down Pd c = MF.down Pd b0 ∧ H = H1)
          (fun σ _ => match σ with
            | [_, _, _, _, _, some (.int c)] => c.toNat
            | _ => 0) ⟨b0, ?_, Nat.le_refl _, rfl, rfl⟩ ?_ ?_
        · show [some (V.ref a), some (V.int p), some (V.int g), some (V.int q), some (V.int (Int.fdiv (g * (q : Int)) (p : Int))), some (V.int (((s.map V.int).length : Int) - (p : Int)))] = _
          rw [e4, e5]
        · rintro σ H2 ⟨c, rfl, cb, cd, rfl⟩
          cases c with
          | zero =>
            refine ⟨_, rfl, _, _, rfl, rfl, false, bF (by omega), iteF ?_⟩
            exact iteF ⟨by rw [← cd]; rfl, rfl⟩
          | succ c =>
            have ei : ((c + 1 : Nat) : Int) - 1 + (q : Int) = ((c + q : Nat) : Int) := by omega
            have ej : ((c + 1 : Nat) : Int) - 1 = (c : Int) := by omega
            refine ⟨_, rfl, _, _, rfl, rfl, true, bT (by omega), iteT ?_⟩
            refine ⟨_, rfl, _, rfl, _, _, rfl, rfl, _, rfl, _, _, rfl, rfl, a, _, _, V.int (f (c + q)), rfl, rfl, SqL.of ha1, ?_, ?_⟩
            · show atI _ (((c + 1 : Nat) : Int) - 1 + (q : Int)) = _
              rw [ei]
              exact atI_nat (gm _ (by omega))
            refine ⟨_, rfl, _, rfl, _, _, rfl, rfl, a, _, _, V.int (f c), rfl, rfl, SqL.of ha1, ?_, _, rfl, _, _, rfl, rfl, rfl, Pd c, ?_, ?_⟩
            · show atI _ (((c + 1 : Nat) : Int) - 1) = _
              rw [ej]
              exact atI_nat (gm _ (by omega))
            · rw [Pe]
              show V.bl (decide (V.int (f (c + q)) = V.int (f c + R))) = _
              congr 1
              exact decide_eq_decide.mpr ⟨fun z => V.int.inj z, fun z => by rw [z]⟩
            · have cd : (if Pd c then MF.down Pd c else c + 1) = MF.down Pd b0 := cd
              cases e : Pd c with
              | true =>
                rw [e, if_pos rfl] at cd
                refine iteT ⟨_, rfl, _, _, rfl, rfl, ⟨c, by show [_, _, _, _, _, some (V.int (((c + 1 : Nat) : Int) - 1))] = _; rw [ej], by omega, cd, rfl⟩, ?_⟩
                show (((c + 1 : Nat) : Int) - 1).toNat < ((c + 1 : Nat) : Int).toNat
                omega
              | false =>
                rw [e, if_neg Bool.false_ne_true] at cd
                exact iteF ⟨by rw [← cd], rfl⟩
        · intro σ H Q Q' m h
          obtain ⟨v1, e1, i, j, e2, e3, b, e4, h⟩ := h
          refine ⟨v1, e1, i, j, e2, e3, b, e4, ?_⟩
          cases b with
          | false => exact m _ _ h
          | true =>
            obtain ⟨w1, f1, w2, f2, i1, j1, g1, g2, w3, f3, i2, j2, g3, g4, pp, xs, ii, vv, k1, k2, k3, k4, w4, f4, w5, f5, i3, j3, g5, g6, pp', xs', ii', vv', l1, l2, l3, l4, w6, f6, i4, j4, g7, g8, sc, b2, eb, hQ⟩ := h
            exact ⟨w1, f1, w2, f2, i1, j1, g1, g2, w3, f3, i2, j2, g3, g4, pp, xs, ii, vv, k1, k2, k3, k4, w4, f4, w5, f5, i3, j3, g5, g6, pp', xs', ii', vv', l1, l2, l3, l4, w6, f6, i4, j4, g7, g8, sc, b2, eb, m _ _ hQ⟩
    | mkN s k' p g n4 =>
      have lx : (s.map V.int ++ List.replicate (k' + 1) V.non).length = s.length + (k' + 1) := by rw [List.length_append, List.length_map, List.length_replicate]
      have el : (s.map V.int ++ List.replicate (k' + 1) V.non)[(s.map V.int ++ List.replicate (k' + 1) V.non).length - 1]? = some .non := nones_get _ (by rw [lx]; omega) (by rw [lx]; omega)
      refine ⟨_, rfl, 1, rfl, a, _, _, _, rfl, rfl, SqL.of ha, last_get el, rfl, true, rfl, iteT ?_⟩
      have fl : (s.map V.int ++ List.replicate (k' + 1) V.non).all flatV = true := by
        rw [List.all_eq_true]
        intro x hx
        rcases List.mem_append.mp hx with hx | hx
        · obtain ⟨z, _, rfl⟩ := List.mem_map.mp hx
          rfl
        · rw [(List.mem_replicate.mp hx).2]
          rfl
      have tk : (s.map V.int ++ List.replicate (k' + 1) V.non).take (s.length + 1) = s.map V.int ++ [.non] := by
        rw [List.take_append, List.length_map, show s.length + 1 - s.length = 1 by omega, List.take_of_length_le (by rw [List.length_map]; omega)]
        rfl
      refine ⟨_, rfl, _, rfl, .inl ⟨rfl, _, SqL.of ha⟩, a, _, .non, s.length, .non, rfl, rfl, SqL.of ha, rfl, fl, nones_get _ (Nat.le_refl _) (by omega), rfl, fun m z' hm hz => ?_, _, _, rfl, rfl, ((s.length + 1 : Nat) : Int), rfl, a, _, rfl, SqL.of ha, fun t ht => ?_⟩
      · obtain ⟨z, hz2⟩ := ints_get (s := s) (r := List.replicate (k' + 1) V.non) m hm
        rw [hz2] at hz
        cases hz
        rfl
      rw [cutR (by rw [lx]; omega), tk]
      generalize g3 : upd H t _ = H3
      obtain ⟨s3, f3⟩ := alloc g3 ht
      refine ⟨t, _, rfl, .inl ⟨SqL.of f3, fun l hl => ?_⟩⟩
      generalize g4 : upd H3 l _ = H4
      obtain ⟨s4, f4⟩ := alloc g4 hl
      refine ⟨(by show 3 ≤ sizeLine; decide), fun T hT => ?_⟩
      generalize g5 : upd H4 T _ = H5
      obtain ⟨s5, f5⟩ := alloc g5 hT
      exact k _ _ _ l T H5 (FormV.mkN s k' p g) (s5 _ _ f4) f5 (Same.trans s3 (Same.trans s4 s5))
end
end WW
end

section
set_option Elab.async false
set_option linter.all false
set_option maxRecDepth 100000
set_option maxHeartbeats 4000000
namespace WW
open PySem L2 WO WG RZ WQ WT
def inClass (st : Stmt) (i : Nat) : Stmt := match st with
  | .ClassDef _ _ _ body _ _ _ _ _ _ _ => body.getD i (.Pass ⟨0, 0, 0, 0⟩)
  | s => s
abbrev sInit : Stmt := inClass sCurve 0
abbrev sEq : Stmt := inClass sCurve 1
structure MakeOk (xs : List V) (p : Nat) (g : Int) : Prop where
  st : StartOk xs
  fo : FormIn xs p g
  p1 : 1 ≤ p
  p2 : p ≤ 60
  p3 : p ≤ xs.length
  g0 : 0 ≤ g
  g1 : g ≤ 1000000000
  fa : ∃ x y : V, atI xs ((xs.length : Int) - (p : Int)) = some x ∧ atI xs (-1) = some y ∧ ((∃ i j : Int, x = .int i ∧ y = .int j ∧ j ≤ i + g) ∨ (x = .non ∧ y = .non))
structure CurT (K : PySem.W.Frag) (mg : Str → Option Value) (C fI fE : Addr) : Prop where
  cl : Cls K C
  nS : NoAttr K C "start"
  nP : NoAttr K C "period"
  nG : NoAttr K C "growth"
  cc : PySem.W.findIn K (.ref C) "__class__" = some (some (.builtin "object.__class__"))
  cg : PySem.W.specialIn K (.builtin "object.__class__") "__get__" = some (some (.builtin "getset_descriptor.__get__"))
  ct : PySem.W.takesIn K (.builtin "object.__class__") = some true
  co : PySem.W.mroIn K C (.type "object") = some true
  kC : PySem.W.kitOne K (.ref C) (.ref C) = some true
  kD : PySem.W.kitOne K (.type "dict") (.ref C) = some false
  kT : PySem.W.kitOne K (.type "tuple") (.ref C) = some false
  mC : mg "Curve" = some (.ref C)
  mkC : Mk K C fI
  eqF : PySem.W.findIn K (.ref C) "__eq__" = some (some (.ref fE))
  iE : PySem.W.isFn K (.ref fE) = true
  ne : neB K C fE = true
  nfC : PySem.W.notFirst K C (.ref C) = true
  nfD : PySem.W.notFirst K C (.type "dict") = true
  nfT : PySem.W.notFirst K C (.type "tuple") = true
def curF (t : Addr) (q r : Int) : List (Str × V) := [("start", V.ref t), ("period", .int q), ("growth", .int r)]
def CurveAt (H : Hp) (C x : Addr) (vals : List V) (q r : Int) : Prop := ∃ dx t, H x = some (.ins C dx (curF t q r)) ∧ H t = some (.tup vals)
theorem CurveAt.same {H H' : Hp} {C x : Addr} {vals : List V} {q r : Int} (h : CurveAt H C x vals q r) (s : Same H H') : CurveAt H' C x vals q r := by
  obtain ⟨dx, t, h1, h2⟩ := h
  exact ⟨dx, t, s _ _ h1, s _ _ h2⟩
section
variable {P : Program} {w : World} {K : PySem.W.Frag} {mg : Str → Option Value} {base : Heap}
/-- what may stand in the place of a number -/
def badFrom (K : PySem.W.Frag) (H : Hp) (x : V) (lo hi : Int) : Prop := NumT K H x false ∨ ∃ i : Int, x = .int i ∧ ¬ (lo ≤ i ∧ i ≤ hi)
theorem from_bad {K : PySem.W.Frag} {H : Hp} {x : V} {lo hi : Int} {Q : VK} {E : XK} (h : badFrom K H x lo hi) (k : Q (.bl false) H) : spFrom K [x, .int lo, .int hi] H Q E := by
  rcases h with h | ⟨i, rfl, h⟩
  · exact ⟨_, _, _, rfl, .inr ⟨h, k⟩⟩
  · refine ⟨_, _, _, rfl, .inl ⟨i, lo, hi, rfl, rfl, rfl, ?_⟩⟩
    rw [decide_eq_false h]
    exact k
theorem from_ok {K : PySem.W.Frag} {H : Hp} {i lo hi : Int} {Q : VK} {E : XK} (h : lo ≤ i ∧ i ≤ hi) (k : Q (.bl true) H) : spFrom K [.int i, .int lo, .int hi] H Q E := by
  refine ⟨_, _, _, rfl, .inl ⟨i, lo, hi, rfl, rfl, rfl, ?_⟩⟩
  rw [decide_eq_true h]
  exact k
theorem badFrom.same {K : PySem.W.Frag} {H H' : Hp} {x : V} {lo hi : Int} (h : badFrom K H x lo hi) (s : Same H H') : badFrom K H' x lo hi := by
  rcases h with h | h
  · exact .inl (h.same s)
  · exact .inr h
/-- which part of a curve is told wrong, the first one first -/
inductive InitBad (K : PySem.W.Frag) (H : Hp) (s p g : V) : Str → Prop
  | noList (h : ListT K H s false) : InitBad K H s p g "start"
  | start {a : Addr} {xs : List V} (e : s = .ref a) (h : SeqA K H a xs) (fl : xs.all flatV = true) (hz : xs.length < sizeLine) (no : ¬ StartOk xs) : InitBad K H s p g "start"
  | period {a : Addr} {xs : List V} (e : s = .ref a) (h : SeqA K H a xs) (fl : xs.all flatV = true) (S : StartOk xs) (hp : badFrom K H p 1 ((min 60 xs.length : Nat) : Int)) : InitBad K H s p g "period"
  | growth {a : Addr} {xs : List V} {n : Nat} (e : s = .ref a) (h : SeqA K H a xs) (fl : xs.all flatV = true) (S : StartOk xs) (ep : p = .int n) (p1 : 1 ≤ n) (p2 : n ≤ 60) (p3 : n ≤ xs.length) (hg : badFrom K H g 0 1000000000) : InitBad K H s p g "growth"
  | falls {a : Addr} {xs : List V} {n : Nat} {i : Int} {x y : V} (e : s = .ref a) (h : SeqA K H a xs) (fl : xs.all flatV = true) (S : StartOk xs) (ep : p = .int n) (p1 : 1 ≤ n) (p2 : n ≤ 60) (p3 : n ≤ xs.length) (eg : g = .int i) (g0 : 0 ≤ i) (g1 : i ≤ 1000000000)
      (ex : atI xs ((xs.length : Int) - (n : Int)) = some x) (ey : atI xs (-1) = some y) (fa : fallsV x y i true) : InitBad K H s p g "growth"
theorem StartOk.flat {xs : List V} (S : StartOk xs) : xs.all flatV = true := by
  rw [List.all_eq_true]
  intro x hx
  obtain ⟨i, hi, e⟩ := List.mem_iff_getElem.mp hx
  rcases S.el i x (by rw [List.getElem?_eq_getElem hi, e]) with rfl | ⟨z, rfl, _⟩ <;> rfl
theorem min60 (n : Nat) : (if (n : Int) < 60 then (n : Int) else 60) = ((min 60 n : Nat) : Int) := by
  split <;> omega
def spInit (K : PySem.W.Frag) (C CB : Addr) : Sp := fun vs H Q E => ∃ (x dx : Addr) (s p g : V), vs = [.ref x, s, p, g] ∧ H x = some (.ins C dx []) ∧
  ((∃ (a : Addr) (xs : List V) (n : Nat) (i : Int), s = .ref a ∧ p = .int n ∧ g = .int i ∧ SeqA K H a xs ∧ MakeOk xs n i ∧
    ∀ (vals : List V) (q r : Int) (H' : Hp), FormV xs n i vals q r → CurveAt H' C x vals q r → (∀ b o, H b = some o → b ≠ x → H' b = some o) → Q .non H') ∨
  ∃ part, InitBad K H s p g part ∧ ∀ d H', Raised H "part" (.str part) d H' → E (.ref CB) (some d) H')
theorem scInit : FnScope ["self", "start", "period", "growth"] ["self", "start", "period", "growth"] (defScope sInit) := ⟨rfl, rfl, rfl, by decide +kernel, rfl, by decide +kernel, by decide +kernel⟩
theorem ok_init {f fS fF fA fM C fE CB fI : Addr} {fd dS dF dA dM dI : FuncData} (F : Fun K "__init__" "Curve.__init__" sInit f fd) (T : CurG mg) (U : CurT K mg C f fE) (B : ErrT P w K mg base "BadCurve" "part" CB fI dI)
    (GS : FnOk P w K mg base CX0 3 fS dS ["thing"] (spStart K)) (kS : PySem.W.keepIn K (.ref fS) = true) (bS : Binds K dS ["thing"] []) (mS : mg "is_start" = some (.ref fS))
    (GF : FnOk P w K mg base CX0 2 fF dF ["thing", "low", "high"] (spFrom K)) (kF : PySem.W.keepIn K (.ref fF) = true) (bF : Binds K dF ["thing", "low", "high"] []) (mF : mg "is_from" = some (.ref fF))
    (GA : FnOk P w K mg base CX0 2 fA dA ["start", "period", "growth"] (spFalls K)) (kA : PySem.W.keepIn K (.ref fA) = true) (bA : Binds K dA ["start", "period", "growth"] []) (mA : mg "falls_behind" = some (.ref fA))
    (GM : FnOk P w K mg base CX0 2 fM dM ["row", "period", "growth"] (spForm K)) (kM : PySem.W.keepIn K (.ref fM) = true) (bM : Binds K dM ["row", "period", "growth"] []) (mM : mg "least_form" = some (.ref fM)) :
    FnOk P w K mg base (L2.CX P w) 4 f fd ["self", "start", "period", "growth"] (spInit K C CB) := by
  refine F.okX scInit (fun vs H Q E h => ?_) (fun cdv A outer s H vs Q E hr h => ?_)
  · obtain ⟨x, dx, s, p, g, rfl, _⟩ := h
    rfl
  · obtain ⟨x, dx, sv, pv', gv, rfl, hx, h⟩ := h
    have hr2 := hr.mono (show 2 ≤ 3 by decide)
    obtain ⟨tm, mMost⟩ := T.most
    refine ⟨_, pss_cons (ps_if (pt_not (pt_val (pe_call GS hr rfl mS kS bS .nil pass0 (pa_cons (pv 1) pa_nil))))
        (pss_one (ps_raise rfl (takes_of rfl rfl rfl rfl) (pmk_oex B.ox B.iC B.tI B.fn hr2 B.bd .nil pass0 rfl B.gC (pa_cons pe_str pa_nil)))) pss_nil)
      (pss_cons (ps_if (pt_not (pt_val (pe_call GF hr2 rfl mF kF bF .nil pass0 (pa_cons (pv 2) (pa_cons pe_int (pa_cons (pe_callB (call_min2 rfl) (by rfl) T.min (by decide +kernel) (pa_cons pe_int (pa_cons (pe_callB call_len_seq (by rfl) T.len PySem.boot_len (pa_cons (pv 1) pa_nil)) pa_nil))) pa_nil))))))
        (pss_one (ps_raise rfl (takes_of rfl rfl rfl rfl) (pmk_oex B.ox B.iC B.tI B.fn hr2 B.bd .nil pass0 rfl B.gC (pa_cons pe_str pa_nil)))) pss_nil)
      (pss_cons (ps_if (PW.pt (pw_or (pt_not (pt_val (pe_call GF hr2 rfl mF kF bF .nil pass0 (pa_cons (pv 3) (pa_cons pe_int (pa_cons (pe_glob (v := .int 1000000000) rfl mMost ⟨_, rfl⟩) pa_nil))))))
          (pw_or1 (pt_val (pe_call GA hr2 rfl mA kA bA .nil pass0 (pa_cons (pv 1) (pa_cons (pv 2) (pa_cons (pv 3) pa_nil))))))))
        (pss_one (ps_raise rfl (takes_of rfl rfl rfl rfl) (pmk_oex B.ox B.iC B.tI B.fn hr2 B.bd .nil pass0 rfl B.gC (pa_cons pe_str pa_nil)))) pss_nil)
      (pss_one (ps_asg (pe_call GM hr2 rfl mM kM bM .nil pass0 (pa_cons (pe_callTy call_list_of (by rfl) T.list (by decide +kernel) (pa_cons (pv 1) pa_nil)) (pa_cons (pv 2) (pa_cons (pv 3) pa_nil))))
        (pg_tup rfl (pgs_cons (pg_attr (pv 0)) (pgs_cons (pg_attr (pv 0)) (pgs_cons (pg_attr (pv 0)) pgs_nil)))))))), ?_⟩
    rcases h with ⟨a, xs, p, g, rfl, rfl, rfl, h, M, k⟩ | ⟨part, bad, k⟩
    · obtain ⟨ex, ey, e1, e2, e3⟩ := M.fa
      refine ⟨_, rfl, .ref a, rfl, .inr ⟨a, xs, rfl, h, M.st.flat, by have := M.st.l2; exact small1000' (by omega), fun b H1 s1 ib => ?_⟩⟩
      have hb : b = true := ib.mpr M.st
      subst hb
      refine ⟨true, rfl, iteF ?_⟩
      have h1 := h.same s1
      refine ⟨_, rfl, _, rfl, a, xs, rfl, h1, _, _, rfl, ?_⟩
      refine ⟨_, _, _, rfl, .inl ⟨p, 1, _, rfl, rfl, rfl, ?_⟩⟩
      refine ⟨_, rfl, ?_⟩
      rw [min60, decide_eq_true (show (1 : Int) ≤ p ∧ (p : Int) ≤ ((min 60 xs.length : Nat) : Int) by have := M.p1; have := M.p2; have := M.p3; omega)]
      refine iteF ?_
      refine ⟨_, rfl, _, _, _, rfl, .inl ⟨g, 0, 1000000000, rfl, rfl, rfl, ?_⟩⟩
      refine ⟨_, rfl, ?_⟩
      rw [decide_eq_true (show (0 : Int) ≤ g ∧ g ≤ 1000000000 from ⟨M.g0, M.g1⟩)]
      refine iteF ?_
      have ff : fallsV ex ey g false := by
        rcases e3 with ⟨i, j, rfl, rfl, l⟩ | ⟨rfl, rfl⟩
        · exact .inl ⟨i, rfl, .inl ⟨j, rfl, (decide_eq_false (by omega)).symm⟩⟩
        · exact .inr ⟨rfl, rfl, rfl⟩
      refine ⟨_, rfl, _, rfl, _, rfl, a, xs, p, g, ex, ey, false, rfl, h1, e1, e2, ff, false, rfl, iteF ?_⟩
      refine ⟨_, rfl, a, xs, rfl, h1, fun l hl => ?_⟩
      generalize g2 : upd H1 l _ = H2
      obtain ⟨s2, f2⟩ := alloc g2 hl
      refine ⟨_, rfl, _, rfl, l, xs, p, g, rfl, f2, M.fo, fun vals q r t T' H3 fv ht hT s3 => ?_⟩
      have hx3 : H3 x = some (.ins C dx []) := s3 _ _ (s2 _ _ (s1 _ _ hx))
      refine ⟨T', _, rfl, SqT.of hT, rfl, _, _, rfl, _, rfl, x, C, dx, [], rfl, hx3, U.cl, U.nS, by decide, ?_⟩
      refine ⟨_, _, rfl, _, rfl, x, C, dx, _, rfl, upd_same, U.cl, U.nP, (by show 1 < 1000; decide), ?_⟩
      refine ⟨_, _, rfl, _, rfl, x, C, dx, _, rfl, upd_same, U.cl, U.nG, (by show 2 < 1000; decide), rfl, ?_⟩
      have hxt : t ≠ x := ne_of ht hx3 (by intro z; cases z)
      refine k vals q r _ fv ⟨dx, t, upd_same, by rw [upd_ne hxt, upd_ne hxt, upd_ne hxt]; exact ht⟩ fun b o e hb => ?_
      rw [upd_ne hb, upd_ne hb, upd_ne hb]
      exact s3 _ _ (s2 _ _ (s1 _ _ e))
    · cases bad with
      | noList hl => exact ⟨_, rfl, sv, rfl, .inl ⟨hl, fun H1 s1 => ⟨false, rfl, iteT (mkO_post B fun d H' r => k d H' (Raised.same s1 r))⟩⟩⟩
      | start e h fl hz no =>
        subst e
        refine ⟨_, rfl, _, rfl, .inr ⟨_, _, rfl, h, fl, hz, fun b H1 s1 ib => ?_⟩⟩
        cases b with
        | true => exact absurd (ib.mp rfl) no
        | false => exact ⟨false, rfl, iteT (mkO_post B fun d H' r => k d H' (Raised.same s1 r))⟩
      | period e h fl S hp =>
        subst e
        refine ⟨_, rfl, _, rfl, .inr ⟨_, _, rfl, h, fl, by have := S.l2; exact small1000' (by omega), fun b H1 s1 ib => ?_⟩⟩
        have hb : b = true := ib.mpr S
        subst hb
        refine ⟨true, rfl, iteF ?_⟩
        refine ⟨_, rfl, _, rfl, _, _, rfl, h.same s1, _, _, rfl, ?_⟩
        rcases hp.same s1 with n | ⟨i, e, no⟩
        · exact ⟨_, _, _, rfl, .inr ⟨n, false, rfl, iteT (mkO_post B fun d H' r => k d H' (Raised.same s1 r))⟩⟩
        · subst e
          refine ⟨_, _, _, rfl, .inl ⟨i, 1, _, rfl, rfl, rfl, _, rfl, ?_⟩⟩
          rw [min60, decide_eq_false no]
          exact iteT (mkO_post B fun d H' r => k d H' (Raised.same s1 r))
      | growth e h fl S ep p1 p2 p3 hg =>
        subst e ep
        refine ⟨_, rfl, _, rfl, .inr ⟨_, _, rfl, h, fl, by have := S.l2; exact small1000' (by omega), fun b H1 s1 ib => ?_⟩⟩
        have hb : b = true := ib.mpr S
        subst hb
        refine ⟨true, rfl, iteF ?_⟩
        refine ⟨_, rfl, _, rfl, _, _, rfl, h.same s1, _, _, rfl, ?_⟩
        rename_i xs n
        refine ⟨_, _, _, rfl, .inl ⟨n, 1, _, rfl, rfl, rfl, _, rfl, ?_⟩⟩
        rw [min60, decide_eq_true (show (1 : Int) ≤ n ∧ (n : Int) ≤ ((min 60 xs.length : Nat) : Int) by omega)]
        refine iteF ?_
        rcases hg.same s1 with n' | ⟨i, e, no⟩
        · exact ⟨_, rfl, _, _, _, rfl, .inr ⟨n', false, rfl, iteT (mkO_post B fun d H' r => k d H' (Raised.same s1 r))⟩⟩
        · subst e
          refine ⟨_, rfl, _, _, _, rfl, .inl ⟨i, 0, 1000000000, rfl, rfl, rfl, _, rfl, ?_⟩⟩
          rw [decide_eq_false no]
          exact iteT (mkO_post B fun d H' r => k d H' (Raised.same s1 r))
      | falls e h fl S ep p1 p2 p3 eg g0 g1 ex ey fa =>
        subst e ep eg
        refine ⟨_, rfl, _, rfl, .inr ⟨_, _, rfl, h, fl, by have := S.l2; exact small1000' (by omega), fun b H1 s1 ib => ?_⟩⟩
        have hb : b = true := ib.mpr S
        subst hb
        refine ⟨true, rfl, iteF ?_⟩
        refine ⟨_, rfl, _, rfl, _, _, rfl, h.same s1, _, _, rfl, ?_⟩
        rename_i xs n i x' y'
        refine ⟨_, _, _, rfl, .inl ⟨n, 1, _, rfl, rfl, rfl, _, rfl, ?_⟩⟩
        rw [min60, decide_eq_true (show (1 : Int) ≤ n ∧ (n : Int) ≤ ((min 60 xs.length : Nat) : Int) by omega)]
        refine iteF ?_
        refine ⟨_, rfl, _, _, _, rfl, .inl ⟨i, 0, 1000000000, rfl, rfl, rfl, _, rfl, ?_⟩⟩
        rw [decide_eq_true (show (0 : Int) ≤ i ∧ i ≤ 1000000000 from ⟨g0, g1⟩)]
        refine iteF ?_
        exact ⟨_, rfl, _, rfl, _, rfl, _, _, _, _, _, _, true, rfl, h.same s1, ex, ey, fa, true, rfl, iteT (mkO_post B fun d H' r => k d H' (Raised.same s1 r))⟩
end
end WW
end

section
set_option Elab.async false
set_option linter.all false
set_option maxRecDepth 100000
set_option maxHeartbeats 4000000
namespace WW
open PySem L2 WO WG RZ
/-! ### rows as data -/
def vD : V → PyData
  | .int i => .int i
  | _ => .none
def FlatR (vs : List V) : Prop := ∀ v ∈ vs, v = .non ∨ ∃ i : Int, v = .int i
theorem FlatR.tl {v : V} {r : List V} (h : FlatR (v :: r)) : FlatR r := fun x hx => h x (List.mem_cons_of_mem _ hx)
theorem dpAll_row {K : PySem.W.Frag} {H : Hp} : ∀ vs : List V, FlatR vs → DpAll K H vs (vs.map vD)
  | [], _ => .nil
  | v :: r, h => by
    rcases h v (List.mem_cons_self ..) with rfl | ⟨i, rfl⟩
    · exact .cons .non (dpAll_row r h.tl)
    · exact .cons (.int i) (dpAll_row r h.tl)
theorem can_row : ∀ vs : List V, PyData.canLayAll0 (vs.map vD) = true
  | [] => by simp [PyData.canLayAll0]
  | v :: r => by
    have := can_row r
    cases v <;> simp [PyData.canLayAll0, PyData.canLay0, vD, this]
theorem depth_row : ∀ vs : List V, PyData.depthAll (vs.map vD) = 0
  | [] => by simp [PyData.depthAll]
  | v :: r => by
    have := depth_row r
    cases v <;> simp [PyData.depthAll, PyData.depth, vD, this]
theorem eqvAll_row : ∀ vs us : List V, FlatR vs → FlatR us → PyData.eqvAll (vs.map vD) (us.map vD) = decide (vs = us)
  | [], [], _, _ => by simp [PyData.eqvAll]
  | [], _ :: _, _, _ => by simp [PyData.eqvAll]
  | _ :: _, [], _, _ => by simp [PyData.eqvAll]
  | a :: r, b :: q, h1, h2 => by
    have ih := eqvAll_row r q h1.tl h2.tl
    rcases h1 a (List.mem_cons_self ..) with rfl | ⟨i, rfl⟩ <;> rcases h2 b (List.mem_cons_self ..) with rfl | ⟨j, rfl⟩
    · simp [PyData.eqvAll, PyData.eqv, vD, ih]
    · simp [PyData.eqvAll, PyData.eqv, vD]
    · simp [PyData.eqvAll, PyData.eqv, vD]
    · simp [PyData.eqvAll, PyData.eqv, vD, ih]
      rfl
def rowD (vs : List V) : PyData := .list (vs.map vD)
theorem shaped_row (vs : List V) : SeqAt.shaped (rowD vs) = true := by
  simp [SeqAt.shaped, rowD, PyData.canLay0, PyData.depth, can_row, depth_row]
theorem eqv_row {vs us : List V} (h1 : FlatR vs) (h2 : FlatR us) : PyData.eqv (rowD vs) (rowD us) = decide (vs = us) := by
  rw [← eqvAll_row vs us h1 h2]
  simp [PyData.eqv, rowD]
def curD (vs : List V) (q r : Int) : PyData := .tuple [.tuple (vs.map vD), .int q, .int r]
theorem shaped_cur (vs : List V) (q r : Int) : SeqAt.shaped (curD vs q r) = true := by
  simp [SeqAt.shaped, curD, PyData.canLay0, PyData.canLayAll0, PyData.depth, PyData.depthAll, can_row, depth_row]
theorem eqv_cur {vs us : List V} (h1 : FlatR vs) (h2 : FlatR us) (q r q' r' : Int) : PyData.eqv (curD vs q r) (curD us q' r') = decide (vs = us ∧ q = q' ∧ r = r') := by
  have e := eqvAll_row vs us h1 h2
  simp [PyData.eqv, PyData.eqvAll, curD, e, Bool.decide_and]
  rfl
theorem formV_flat {xs : List V} {p : Nat} {g : Int} {vals : List V} {q r : Int} (h : FormV xs p g vals q r) : FlatR vals := by
  cases h with
  | mkI s p g q r b p0 pn h l =>
    intro v hv
    obtain ⟨j, _, rfl⟩ := List.mem_map.mp hv
    exact .inr ⟨_, rfl⟩
  | mkN s k p g =>
    intro v hv
    rcases List.mem_append.mp hv with hv | hv
    · obtain ⟨j, _, rfl⟩ := List.mem_map.mp hv
      exact .inr ⟨_, rfl⟩
    · rw [List.mem_singleton.mp hv]
      exact .inl rfl
section
variable {P : Program} {w : World} {K : PySem.W.Frag} {mg : Str → Option Value} {base : Heap}
theorem dp_cur {H : Hp} {T t : Addr} {vals : List V} {q r : Int} (h : H T = some (.tup [.ref t, .int q, .int r])) (h2 : H t = some (.tup vals)) (hf : FlatR vals) : Dp K H (.ref T) (curD vals q r) :=
  .tup (SqT.of h) (.cons (.tup (SqT.of h2) (dpAll_row vals hf)) (.cons (.int q) (.cons (.int r) .nil)))
def spEqC (K : PySem.W.Frag) (C : Addr) : Sp := fun vs H Q _ => ∃ (x : Addr) (y : V) (vals : List V) (q r : Int), vs = [.ref x, y] ∧ CurveAt H C x vals q r ∧ FlatR vals ∧
  ((∃ (x' : Addr) (vals' : List V) (q' r' : Int), y = .ref x' ∧ CurveAt H C x' vals' q' r' ∧ FlatR vals' ∧ ∀ H', Same H H' → Q (.bl (decide (vals = vals' ∧ q = q' ∧ r = r'))) H') ∨
   (∃ (t : String), (t = "dict" ∨ t = "tuple") ∧ TyX K H y (.type t) ∧ ∀ H', Same H H' → Q (.bl false) H'))
theorem scEq : FnScope ["self", "other"] ["self", "other"] (defScope sEq) := ⟨rfl, rfl, rfl, by decide +kernel, rfl, by decide +kernel, by decide +kernel⟩
theorem ok_eq {f fI C : Addr} {fd : FuncData} (F : Fun K "__eq__" "Curve.__eq__" sEq f fd) (T : CurG mg) (U : CurT K mg C fI f) :
    FnOk P w K mg base CX0 1 f fd ["self", "other"] (spEqC K C) := by
  refine F.ok scEq (fun vs H Q E h => ?_) (fun cdv A outer s H vs Q E hr h => ?_)
  · obtain ⟨x, y, vals, q, r, rfl, _⟩ := h
    rfl
  · obtain ⟨x, y, vals, q, r, rfl, hx, fl, h⟩ := h
    have hu := hr.units
    refine ⟨_, pss_cons (ps_if (pt_not (pt_val (pe_callB call_isi (by rfl) T.isi (by decide +kernel) (pa_cons (pv 1) (pa_cons (pe_glob (v := .ref C) rfl U.mC rfl) pa_nil))))) (pss_one (ps_ret pe_bl)) pss_nil)
      (pss_one (ps_ret (pe_cmpR (op_eqD hu) (pe_tup (pa_cons (pe_fld (pv 0) rfl) (pa_cons (pe_fld (pv 0) rfl) (pa_cons (pe_fld (pv 0) rfl) pa_nil))))
        (pe_tup (pa_cons (pe_fld (pv 1) rfl) (pa_cons (pe_fld (pv 1) rfl) (pa_cons (pe_fld (pv 1) rfl) pa_nil)))) (nomark _)))), ?_⟩
    rcases h with ⟨x', vals', q', r', rfl, hy, fl', k⟩ | ⟨t, ht, ty, k⟩
    · obtain ⟨dx, t, h1, h2⟩ := id hx
      obtain ⟨dy, t', h3, h4⟩ := id hy
      refine ⟨_, rfl, .ref x', .ref C, .ref C, .ref C, true, rfl, .own C, .base (.ins h3 U.cl U.cc U.cg U.ct U.co), U.kC, true, rfl, iteF ?_⟩
      refine ⟨_, rfl, x, C, dx, _, .ref t, rfl, h1, U.cl, U.nS, rfl, _, rfl, x, C, dx, _, .int q, rfl, h1, U.cl, U.nP, rfl, _, rfl, x, C, dx, _, .int r, rfl, h1, U.cl, U.nG, rfl, (by show 3 ≤ sizeLine; decide), fun T1 hT1 => ?_⟩
      generalize g5 : upd H T1 _ = H1
      obtain ⟨s1, f1⟩ := alloc g5 hT1
      refine ⟨_, rfl, x', C, dy, _, .ref t', rfl, s1 _ _ h3, U.cl, U.nS, rfl, _, rfl, x', C, dy, _, .int q', rfl, s1 _ _ h3, U.cl, U.nP, rfl, _, rfl, x', C, dy, _, .int r', rfl, s1 _ _ h3, U.cl, U.nG, rfl, (by show 3 ≤ sizeLine; decide), fun T2 hT2 => ?_⟩
      generalize g6 : upd H1 T2 _ = H2
      obtain ⟨s2, f2⟩ := alloc g6 hT2
      refine ⟨curD vals q r, curD vals' q' r', dp_cur (s2 _ _ f1) (s2 _ _ (s1 _ _ h2)) fl, dp_cur f2 (s2 _ _ (s1 _ _ h4)) fl', shaped_cur _ _ _, shaped_cur _ _ _, ?_⟩
      rw [eqv_cur fl fl']
      exact k H2 (Same.trans s1 s2)
    · rcases ht with rfl | rfl
      · exact ⟨_, rfl, y, .ref C, .type "dict", .ref C, false, rfl, .own C, ty, U.kD, false, rfl, iteT (k H (Same.refl _))⟩
      · exact ⟨_, rfl, y, .ref C, .type "tuple", .ref C, false, rfl, .own C, ty, U.kT, false, rfl, iteT (k H (Same.refl _))⟩
/-! ### sketches -/
def skKvs (a : Addr) (p g : Int) : List (Key × V) := [(Sum.inr "start", .ref a), (Sum.inr "period", .int p), (Sum.inr "growth", .int g)]
theorem sk_start {H : Hp} {d a : Addr} {p g : Int} (h : H d = some (.dK (skKvs a p g))) : DGet H d (.str "start") (some (.ref a)) := by
  have e : valV (skKvs a p g) (Sum.inr "start" : Key) = some (.ref a) := by rfl
  rw [← e]
  exact DGet.k (k := Sum.inr "start") h
theorem sk_period {H : Hp} {d a : Addr} {p g : Int} (h : H d = some (.dK (skKvs a p g))) : DGet H d (.str "period") (some (.int p)) := by
  have e : valV (skKvs a p g) (Sum.inr "period" : Key) = some (.int p) := by rfl
  rw [← e]
  exact DGet.k (k := Sum.inr "period") h
theorem sk_growth {H : Hp} {d a : Addr} {p g : Int} (h : H d = some (.dK (skKvs a p g))) : DGet H d (.str "growth") (some (.int g)) := by
  have e : valV (skKvs a p g) (Sum.inr "growth" : Key) = some (.int g) := by rfl
  rw [← e]
  exact DGet.k (k := Sum.inr "growth") h
end
end WW
end

section
set_option Elab.async false
set_option linter.all false
set_option maxRecDepth 100000
set_option maxHeartbeats 4000000
namespace WW
open PySem L2 WO WG RZ
abbrev sSteps : Stmt := top 64
abbrev sSketch : Stmt := top 65
/-- a sketch, apart from the draw -/
structure SkAt (H : Hp) (d l e a : Addr) (xs : List V) (p : Nat) (g : Int) : Prop where
  ob : H e = some (.dK (skKvs a p g))
  li : H a = some (.lst xs)
  ed : e ≠ d
  el : e ≠ l
  ad : a ≠ d
  al : a ≠ l
theorem SkAt.keep {H H' : Hp} {d l e a : Addr} {xs : List V} {p : Nat} {g : Int} (h : SkAt H d l e a xs p g) (k : KeepD H H' d l) : SkAt H' d l e a xs p g :=
  ⟨k _ _ h.ob h.ed h.el, k _ _ h.li h.ad h.al, h.ed, h.el, h.ad, h.al⟩
theorem DrawAt.some_d {H : Hp} {d l c : Addr} (D : DrawAt H d l c) : ∃ o, H d = some o := by obtain ⟨⟨r, t, h⟩, _⟩ := D; exact ⟨_, h⟩
theorem DrawAt.some_l {H : Hp} {d l c : Addr} (D : DrawAt H d l c) : ∃ o, H l = some o := by obtain ⟨_, ⟨la, h, _⟩, _⟩ := D; exact ⟨_, h⟩
theorem DrawAt.nd {H : Hp} {d l c p : Addr} (D : DrawAt H d l c) (h : H p = none) : p ≠ d := fun e => by
  obtain ⟨o, q⟩ := D.some_d
  rw [← e, h] at q
  cases q
theorem DrawAt.nl {H : Hp} {d l c p : Addr} (D : DrawAt H d l c) (h : H p = none) : p ≠ l := fun e => by
  obtain ⟨o, q⟩ := D.some_l
  rw [← e, h] at q
  cases q
theorem DrawAt.nc {H : Hp} {d l c p : Addr} (D : DrawAt H d l c) (h : H p = none) : p ≠ c := fun e => by
  obtain ⟨_, _, ⟨ce, q, _⟩, _⟩ := D
  rw [← e, h] at q
  cases q
theorem DrawAt.put {H : Hp} {d l c p : Addr} {o : HO} (D : DrawAt H d l c) (pd : p ≠ d) (pl : p ≠ l) (pc : p ≠ c) : DrawAt (upd H p o) d l c := by
  obtain ⟨⟨r, t, h⟩, ⟨la, h2, h3⟩, ⟨ce, h4, h5⟩, h6⟩ := D
  exact ⟨⟨r, t, by rw [upd_ne pd.symm]; exact h⟩, ⟨la, by rw [upd_ne pl.symm]; exact h2, h3⟩, ⟨ce, by rw [upd_ne pc.symm]; exact h4, h5⟩, h6⟩
theorem KeepD.trans' {H H1 : Hp} {d l p : Addr} {o : HO} (k : KeepD H H1 d l) (h : H p = none) : KeepD H (upd H1 p o) d l := fun b u e h1 h2 => by
  rw [upd_ne (ne_of_none e h)]
  exact k b u e h1 h2
/-- nondecreasing -/
def Asc (s : List Int) : Prop := ∀ (i : Nat) (x y : Int), s[i]? = some x → s[i + 1]? = some y → x ≤ y
def Within (s : List Int) (B : Int) : Prop := ∀ (i : Nat) (x : Int), s[i]? = some x → 0 ≤ x ∧ x ≤ B
section
variable {P : Program} {w : World} {K : PySem.W.Frag} {mg : Str → Option Value} {base : Heap}
theorem pick4 {a b c r : Int} {i : Nat} {x : V} (h : [V.int a, .int b, .int c, .int r][i]? = some x) {M : Int} (ha : 0 ≤ a ∧ a ≤ M) (hb : 0 ≤ b ∧ b ≤ M) (hc : 0 ≤ c ∧ c ≤ M) (hr : 0 ≤ r ∧ r ≤ M) : ∃ z : Int, x = .int z ∧ 0 ≤ z ∧ z ≤ M := by
  match i, h with
  | 0, h => exact ⟨a, (Option.some.inj h).symm, ha⟩
  | 1, h => exact ⟨b, (Option.some.inj h).symm, hb⟩
  | 2, h => exact ⟨c, (Option.some.inj h).symm, hc⟩
  | 3, h => exact ⟨r, (Option.some.inj h).symm, hr⟩
theorem asc_snoc {s : List Int} {y z : Int} (h : Asc s) (hl : s[s.length - 1]? = some y) (hz : y ≤ z) : Asc (s ++ [z]) := by
  intro i x1 x2 h1 h2
  by_cases e : i + 1 < s.length
  · rw [List.getElem?_append_left (by omega)] at h1
    rw [List.getElem?_append_left e] at h2
    exact h i x1 x2 h1 h2
  · by_cases e2 : i + 1 = s.length
    · rw [List.getElem?_append_left (by omega)] at h1
      rw [List.getElem?_append_right (by omega), e2, Nat.sub_self] at h2
      cases h2
      have e3 : i = s.length - 1 := by omega
      rw [e3, hl] at h1
      cases h1
      exact hz
    · rw [List.getElem?_eq_none (by rw [List.length_append]; simp only [List.length_cons, List.length_nil]; omega)] at h2
      cases h2
theorem within_snoc {s : List Int} {z B B' : Int} (h : Within s B) (hB : B ≤ B') (h0 : 0 ≤ z) (h1 : z ≤ B') : Within (s ++ [z]) B' := by
  intro i x hx
  by_cases e : i < s.length
  · rw [List.getElem?_append_left e] at hx
    have := h i x hx
    omega
  · rw [List.getElem?_append_right (by omega)] at hx
    have e2 : i - s.length = 0 := by
      rcases Nat.eq_zero_or_pos (i - s.length) with q | q
      · exact q
      · rw [List.getElem?_eq_none (by simp only [List.length_cons, List.length_nil]; omega)] at hx
        cases hx
    rw [e2] at hx
    cases hx
    exact ⟨h0, h1⟩
theorem lastInt {s : List Int} (h : 0 < s.length) : ∃ y, s[s.length - 1]? = some y ∧ atI (s.map V.int) (-1) = some (.int y) := by
  refine ⟨s[s.length - 1]'(by omega), List.getElem?_eq_getElem _, last_get ?_⟩
  rw [List.length_map, List.getElem?_map, List.getElem?_eq_getElem (by omega)]
  rfl
def spSteps (K : PySem.W.Frag) : Sp := fun vs H Q _ => ∃ (d l c : Addr) (n : Nat) (m : Int), vs = [.ref d, .int n, .int m] ∧ DrawAt H d l c ∧ 0 < n ∧ n ≤ 100 ∧ 1 ≤ m ∧ m ≤ 1000000 ∧
  ∀ (a : Addr) (s : List Int) (H' : Hp), H a = none → H' a = some (.lst (s.map V.int)) → s.length = n → Asc s → Within s (m * n) → DrawAt H' d l c → KeepD H H' d l → Q (.ref a) H'
theorem scSteps : FnScope ["draw", "size", "most", "found", "lap"] ["draw", "size", "most"] (defScope sSteps) := ⟨rfl, rfl, rfl, by decide +kernel, rfl, by decide +kernel, by decide +kernel⟩
theorem ok_steps {f fP fT : Addr} {fd dP dT : FuncData} (F : Fun K "_law_steps" "_law_steps" sSteps f fd) (G : CurG mg)
    (GP : FnOk P w K mg base CX0 3 fP dP ["draw", "some"] (spPick K)) (kP : PySem.W.keepIn K (.ref fP) = true) (bP : Binds K dP ["draw", "some"] []) (mP : mg "_law_pick" = some (.ref fP))
    (GT : FnOk P w K mg base CX0 2 fT dT ["draw", "amount"] (spTake K)) (kT : PySem.W.keepIn K (.ref fT) = true) (bT : Binds K dT ["draw", "amount"] []) (mT : mg "_law_take" = some (.ref fT)) :
    FnOk P w K mg base CX0 4 f fd ["draw", "size", "most"] (spSteps K) := by
  refine F.ok scSteps (fun vs H Q E h => ?_) (fun cdv A outer s H vs Q E hr h => ?_)
  · obtain ⟨d, l, c, n, m, rfl, _⟩ := h
    rfl
  · obtain ⟨d, l, c, n, m, rfl, D, n0, n1, m0, m1, k⟩ := h
    have hr2 := hr.mono (show 2 ≤ 3 by decide)
    refine ⟨_, pss_cons (ps_set (i := 3) scSteps.nd rfl (Or.inl rfl) (pe_lst (pa_cons (pe_call GP hr rfl mP kP bP .nil pass0 (pa_cons (pv 0) (pa_cons (pe_lst (pa_cons pe_int (pa_cons pe_int (pa_cons pe_int (pa_cons
          (pe_call GT hr2 rfl mT kT bT .nil pass0 (pa_cons (pv 0) (pa_cons (pe_op op_add (pv 2) pe_int) pa_nil))) pa_nil))))) pa_nil))) pa_nil)))
      (pss_cons (ps_for PassesOwn.never rfl (pi_range1 rfl G.range (pa_cons (pe_op op_sub (pv 1) pe_int) pa_nil)) (pg_name (i := 4) scSteps.nd rfl (Or.inl rfl))
        (pss_one (ps_expr (pe_bm PySem.F.plainAttrs_list PySem.F.slot_list_append PySem.F.type_list_append mt_append (pv 3) (pa_cons (pe_op op_add (pe_ix ix_list (pv 3) (pe_un un_neg pe_int) (fun _ _ => rfl))
          (pe_call GP hr rfl mP kP bP .nil pass0 (pa_cons (pv 0) (pa_cons (pe_lst (pa_cons pe_int (pa_cons pe_int (pa_cons pe_int (pa_cons
            (pe_call GT hr2 rfl mT kT bT .nil pass0 (pa_cons (pv 0) (pa_cons (pe_op op_add (pv 2) pe_int) pa_nil))) pa_nil))))) pa_nil)))) pa_nil)))))
      (pss_one (ps_ret (pv 3)))), ?_⟩
    refine ⟨_, rfl, _, rfl, _, rfl, _, _, rfl, rfl, d, l, c, _, rfl, D, by omega, by omega, fun r H1 r0 r1 D1 k1 => ⟨(by show 4 ≤ sizeLine; decide), fun p1 hp1 => ?_⟩⟩
    generalize g1 : upd H1 p1 _ = H2
    obtain ⟨s2, f2⟩ := alloc g1 hp1
    refine ⟨d, l, c, p1, _, rfl, D1.same s2, f2, D1.nl hp1, (by show 0 < 4; decide), (by show 4 ≤ 2 ^ 100; decide), fun i x H3 hx D3 k3 => ?_⟩
    obtain ⟨z, rfl, z0, z1⟩ := pick4 (M := m) hx (by omega) (by omega) (by omega) ⟨r0, by omega⟩
    have kk3 : KeepD H H3 d l := k1.trans ((Same.keepD d l s2).trans k3)
    refine ⟨(by show 1 ≤ sizeLine; decide), fun a ha => ?_⟩
    have haH : H a = none := D.keepF kk3 D3 ha
    generalize g4 : upd H3 a _ = H4
    obtain ⟨s4, f4⟩ := alloc g4 ha
    have kk4 : KeepD H H4 d l := kk3.trans (Same.keepD d l s4)
    refine ⟨_, rfl, _, _, rfl, rfl, (n : Int) - 1, rfl, by omega, by omega, for_range (lo := 0) (n := ((n : Int) - 1).toNat) (fun i σ H5 => ∃ (v4 : Option V) (s : List Int), σ = [some (.ref d), some (.int n), some (.int m), some (.ref a), v4] ∧ H5 a = some (.lst (s.map V.int)) ∧ s.length = i + 1 ∧ Asc s ∧ Within s (m * (i + 1)) ∧ DrawAt H5 d l c ∧ KeepD H H5 d l)
      ⟨_, [z], rfl, f4, rfl, fun i x y h1 h2 => ?_, fun i x h1 => ?_, D3.same s4, kk4⟩ ?_ ?_⟩
    · cases h2
    · match i, h1 with
      | 0, h1 =>
        cases h1
        refine ⟨z0, ?_⟩
        show _ ≤ m * (0 + 1)
        omega
    · rintro i σ H5 hi ⟨v4, s, rfl, h5, l5, a5, w5, D5, k5⟩
      obtain ⟨y, hy, hy2⟩ := lastInt (s := s) (by omega)
      have hal : a ≠ l := D.nl haH
      have had : a ≠ d := D.nd haH
      refine ⟨_, rfl, .inl ⟨rfl, _, SqL.of h5⟩, _, rfl, 1, rfl, a, _, _, _, rfl, rfl, SqL.of h5, hy2, _, rfl, _, rfl, _, rfl, _, _, rfl, rfl, d, l, c, _, rfl, D5, by omega, by omega, fun r H6 r0 r1 D6 k6 => ⟨(by show 4 ≤ sizeLine; decide), fun p1 hp1 => ?_⟩⟩
      generalize g7 : upd H6 p1 _ = H7
      obtain ⟨s7, f7⟩ := alloc g7 hp1
      refine ⟨d, l, c, p1, _, rfl, D6.same s7, f7, D6.nl hp1, (by show 0 < 4; decide), (by show 4 ≤ 2 ^ 100; decide), fun j x H8 hx D8 k8 => ?_⟩
      obtain ⟨z, rfl, z0, z1⟩ := pick4 (M := m) hx (by omega) (by omega) (by omega) ⟨r0, by omega⟩
      have kk8 : KeepD H5 H8 d l := k6.trans ((Same.keepD d l s7).trans k8)
      have h8 : H8 a = some (.lst (s.map V.int)) := kk8 _ _ h5 had hal
      refine ⟨_, _, rfl, rfl, a, _, _, rfl, rfl, h8, by rw [List.length_map]; exact small1000 (by omega), ?_⟩
      refine ⟨_, s ++ [y + z], rfl, ?_, by rw [List.length_append, l5]; rfl, asc_snoc a5 hy (by omega), ?_, ?_, ?_⟩
      · rw [List.map_append]; exact upd_same
      · have wy := w5 _ _ hy
        have em : m * (((i + 1 : Nat) : Int) + 1) = m * ((i : Int) + 1) + m := by
          rw [Int.natCast_add, Int.mul_add m (((i : Nat) : Int) + ((1 : Nat) : Int)), Int.mul_one]
          rfl
        exact within_snoc w5 (by omega) (by omega) (by omega)
      · exact D8.put had hal (D.nc haH)
      · exact (k5.trans kk8).trans' haH
    · rintro σ H5 ⟨v4, s, rfl, h5, l5, a5, w5, D5, k5⟩
      refine ⟨_, rfl, ?_⟩
      have en : (((((n : Int) - 1).toNat : Nat) : Int) + 1) = (n : Int) := by omega
      rw [en] at w5
      exact k a s H5 haH h5 (by omega) a5 w5 D5 k5
end
end WW
end

section
set_option Elab.async false
set_option linter.all false
set_option maxRecDepth 100000
set_option maxHeartbeats 4000000
namespace WW
open PySem L2 WO WG RZ
structure SkI (L pm : Nat) (B : Int) (s : List Int) (p : Nat) (g : Int) : Prop where
  p0 : 0 < p
  pn : p ≤ s.length
  pm : p ≤ pm
  le : s.length ≤ L
  asc : Asc s
  wi : Within s B
  g0 : 0 ≤ g
  g1 : g ≤ B
  fit : ∀ x y, s[s.length - p]? = some x → s[s.length - 1]? = some y → y ≤ x + g
inductive Sk (L pm : Nat) (B : Int) : List V → Nat → Int → Prop
  | mkI (s : List Int) (p : Nat) (g : Int) (h : SkI L pm B s p g) : Sk L pm B (s.map V.int) p g
  | mkN (s : List Int) (k : Nat) (g : Int) (le : s.length + (k + 1) ≤ L) (asc : Asc s) (wi : Within s B) (g0 : 0 ≤ g) (g1 : g ≤ B) : Sk L pm B (s.map V.int ++ List.replicate (k + 1) .non) 1 g
theorem Sk.make {L pm : Nat} {B : Int} {xs : List V} {p : Nat} {g : Int} (h : Sk L pm B xs p g) (hL : L ≤ 400) (hp : pm ≤ 60) (hB : B ≤ 1000000000) : MakeOk xs p g := by
  cases h with
  | mkI s p g h =>
    have n0 : 0 < s.length := Nat.lt_of_lt_of_le h.p0 h.pn
    refine ⟨⟨by rw [List.length_map]; omega, by rw [List.length_map]; have := h.le; omega, ?_, ?_⟩, .mkI s p g h.p0 h.pn (by have := h.le; omega) h.g0 (by have := h.g1; omega), h.p0, by have := h.pm; omega, by rw [List.length_map]; exact h.pn, h.g0, by have := h.g1; omega, ?_⟩
    · intro i x hx
      rw [List.getElem?_map] at hx
      cases e : s[i]? with
      | none => rw [e] at hx; cases hx
      | some z =>
        rw [e] at hx
        have := h.wi i z e
        exact .inr ⟨z, (Option.some.inj hx).symm, by omega, by omega⟩
    · intro i x y hx hy
      rw [List.getElem?_map] at hx hy
      cases e : s[i]? with
      | none => rw [e] at hx; cases hx
      | some z =>
        cases e2 : s[i + 1]? with
        | none => rw [e2] at hy; cases hy
        | some z2 =>
          rw [e] at hx
          rw [e2] at hy
          exact .inl ⟨z, z2, (Option.some.inj hx).symm, (Option.some.inj hy).symm, h.asc i z z2 e e2⟩
    · obtain ⟨y, hy, hy2⟩ := lastInt n0
      have hx : s[s.length - p]? = some (s[s.length - p]'(by have := h.p0; omega)) := List.getElem?_eq_getElem _
      refine ⟨.int _, .int y, ?_, hy2, .inl ⟨_, _, rfl, rfl, h.fit _ _ hx hy⟩⟩
      rw [List.length_map, show (s.length : Int) - (p : Int) = ((s.length - p : Nat) : Int) by have := h.pn; omega]
      refine atI_nat ?_
      rw [List.getElem?_map, hx]
      rfl
  | mkN s k g le asc wi g0 g1 =>
    have lx : (s.map V.int ++ List.replicate (k + 1) V.non).length = s.length + (k + 1) := by rw [List.length_append, List.length_map, List.length_replicate]
    refine ⟨⟨by rw [lx]; omega, by rw [lx]; omega, ?_, ?_⟩, .mkN s k 1 g (by omega), Nat.le_refl _, by omega, by rw [lx]; omega, g0, by omega, .non, .non, ?_, ?_, .inr ⟨rfl, rfl⟩⟩
    · intro i x hx
      have hi : i < s.length + (k + 1) := by rw [← lx]; exact (List.getElem?_eq_some_iff.mp hx).1
      by_cases c : i < s.length
      · rw [List.getElem?_append_left (by rw [List.length_map]; exact c), List.getElem?_map, List.getElem?_eq_getElem c] at hx
        have := wi i _ (List.getElem?_eq_getElem c)
        exact .inr ⟨_, (Option.some.inj hx).symm, by omega, by omega⟩
      · rw [nones_get i (by omega) hi] at hx
        exact .inl (Option.some.inj hx).symm
    · intro i x y hx hy
      have hi : i + 1 < s.length + (k + 1) := by rw [← lx]; exact (List.getElem?_eq_some_iff.mp hy).1
      by_cases c : i + 1 < s.length
      · rw [List.getElem?_append_left (by rw [List.length_map]; omega), List.getElem?_map, List.getElem?_eq_getElem (show i < s.length by omega)] at hx
        rw [List.getElem?_append_left (by rw [List.length_map]; exact c), List.getElem?_map, List.getElem?_eq_getElem c] at hy
        exact .inl ⟨_, _, (Option.some.inj hx).symm, (Option.some.inj hy).symm, asc i _ _ (List.getElem?_eq_getElem _) (List.getElem?_eq_getElem _)⟩
      · rw [nones_get (i + 1) (by omega) hi] at hy
        by_cases c2 : i < s.length
        · obtain ⟨z, hz⟩ := ints_get (s := s) (r := List.replicate (k + 1) V.non) i c2
          rw [hz] at hx
          exact .inr (.inl ⟨⟨z, (Option.some.inj hx).symm⟩, (Option.some.inj hy).symm⟩)
        · rw [nones_get i (by omega) (by omega)] at hx
          exact .inr (.inr ⟨(Option.some.inj hx).symm, (Option.some.inj hy).symm⟩)
    · rw [lx, show ((s.length + (k + 1) : Nat) : Int) - ((1 : Nat) : Int) = ((s.length + k : Nat) : Int) by omega]
      exact atI_nat (nones_get _ (by omega) (by omega))
    · exact last_get (nones_get _ (by rw [lx]; omega) (by rw [lx]; omega))
theorem asc_le {s : List Int} (h : Asc s) : ∀ (k i : Nat) (x y : Int), s[i]? = some x → s[i + k]? = some y → x ≤ y := by
  intro k
  induction k with
  | zero => intro i x y h1 h2; rw [Nat.add_zero, h1] at h2; cases h2; exact Int.le_refl _
  | succ k ih =>
    intro i x y h1 h2
    have hl : i + k < s.length := by have := (List.getElem?_eq_some_iff.mp h2).1; omega
    have h3 := List.getElem?_eq_getElem hl
    have := ih i x _ h1 h3
    have := h (i + k) _ y h3 h2
    omega
theorem asc_take {s : List Int} {n : Nat} (h : Asc s) : Asc (s.take n) := by
  intro i x y h1 h2
  rw [List.getElem?_take] at h1 h2
  split at h1
  · split at h2
    · exact h i x y h1 h2
    · cases h2
  · cases h1
theorem within_take {s : List Int} {n : Nat} {B : Int} (h : Within s B) : Within (s.take n) B := by
  intro i x h1
  rw [List.getElem?_take] at h1
  split at h1
  · exact h i x h1
  · cases h1
section
variable {P : Program} {w : World} {K : PySem.W.Frag} {mg : Str → Option Value} {base : Heap}
/-- without end, nothing grows -/
def SkZ (xs : List V) (g : Int) : Prop := xs[xs.length - 1]? = some .non → g = 0
theorem skz_int {s : List Int} {g : Int} : SkZ (s.map V.int) g := fun h => by
  rw [List.getElem?_map] at h
  obtain ⟨_, _, e⟩ := Option.map_eq_some_iff.mp h
  cases e
def spSketch (K : PySem.W.Frag) : Sp := fun vs H Q _ => ∃ (d l c : Addr) (N : Nat) (m : Int), vs = [.ref d, .int N, .int m] ∧ DrawAt H d l c ∧ 1 ≤ N ∧ N ≤ 100 ∧ 1 ≤ m ∧ m ≤ 1000000 ∧
  ∀ (e a : Addr) (xs : List V) (p : Nat) (g : Int) (H' : Hp), H e = none → H a = none → SkAt H' d l e a xs p g → Sk N 6 (m * (N + 1)) xs p g → DrawAt H' d l c → KeepD H H' d l → Q (.ref e) H'
abbrev nSketch : List Str := ["draw", "long", "most", "size", "period_here", "start_here", "growth_here"]
theorem scSketch : FnScope nSketch ["draw", "long", "most"] (defScope sSketch) := ⟨rfl, rfl, rfl, by decide +kernel, rfl, by decide +kernel, by decide +kernel⟩
theorem ok_sketch {f fP fT fS : Addr} {fd dP dT dS : FuncData} (F : Fun K "_law_sketch" "_law_sketch" sSketch f fd) (G : CurG mg)
    (GP : FnOk P w K mg base CX0 3 fP dP ["draw", "some"] (spPick K)) (kP : PySem.W.keepIn K (.ref fP) = true) (bP : Binds K dP ["draw", "some"] []) (mP : mg "_law_pick" = some (.ref fP))
    (GT : FnOk P w K mg base CX0 2 fT dT ["draw", "amount"] (spTake K)) (kT : PySem.W.keepIn K (.ref fT) = true) (bT : Binds K dT ["draw", "amount"] []) (mT : mg "_law_take" = some (.ref fT))
    (GS : FnOk P w K mg base CX0 4 fS dS ["draw", "size", "most"] (spSteps K)) (kS : PySem.W.keepIn K (.ref fS) = true) (bS : Binds K dS ["draw", "size", "most"] []) (mS : mg "_law_steps" = some (.ref fS)) :
    FnOk P w K mg base CX0 5 f fd ["draw", "long", "most"] (spSketch K) := by
  refine F.ok scSketch (fun vs H Q E h => ?_) (fun cdv A outer s H vs Q E hr h => ?_)
  · obtain ⟨d, l, c, N, m, rfl, _⟩ := h
    rfl
  · obtain ⟨d, l, c, N, m, rfl, D, N0, N1, m0, m1, k⟩ := h
    have hr2 := hr.mono (show 2 ≤ 4 by decide)
    have hr3 := hr.mono (show 3 ≤ 4 by decide)
    refine ⟨_, C8.pss_cut (ps_set (i := 3) scSketch.nd rfl (Or.inl rfl) (pe_op op_add pe_int (pe_call GT hr2 rfl mT kT bT .nil pass0 (pa_cons (pv 0) (pa_cons (pv 1) pa_nil)))))
      (C8.pss_cut (ps_par (i := 4) (j := 5) (by rfl) scSketch.nd rfl rfl (by decide) rfl rfl
          (pa_cons (pe_op op_add pe_int (pe_call GT hr2 rfl mT kT bT .nil pass0 (pa_cons (pv 0) (pa_cons (pe_callB (call_min2 rfl) (by rfl) G.min (by decide +kernel) (pa_cons (pv 3) (pa_cons pe_int pa_nil))) pa_nil))))
          (pa_cons (pe_call GS hr rfl mS kS bS .nil pass0 (pa_cons (pv 0) (pa_cons (pv 3) (pa_cons (pv 2) pa_nil)))) pa_nil)) (by rfl))
      (C8.pss_cut (ps_set (i := 6) scSketch.nd rfl (Or.inl rfl) (pe_op op_add (pe_op op_sub (pe_ix ix_list (pv 5) (pe_un un_neg pe_int) (fun _ _ => rfl)) (pe_ix ix_list (pv 5) (pe_op op_sub (pv 3) (pv 4)) (fun _ _ => rfl)))
          (pe_call GP hr3 rfl mP kP bP .nil pass0 (pa_cons (pv 0) (pa_cons (pe_lst (pa_cons pe_int (pa_cons pe_int (pa_cons pe_int (pa_cons
            (pe_call GT hr2 rfl mT kT bT .nil pass0 (pa_cons (pv 0) (pa_cons (pe_op op_add (pv 2) pe_int) pa_nil))) pa_nil))))) pa_nil)))))
      (C8.pss_cut (ps_if (pt_cmpR op_eq (pe_call GT hr2 rfl mT kT bT .nil pass0 (pa_cons (pv 0) (pa_cons pe_int pa_nil))) pe_int (nomark _))
          (pss_cons (ps_set (i := 5) scSketch.nd rfl (Or.inl rfl) (pe_op op_cat (pe_slice sl_list (pv 5) po_none (po_some (pe_call GT hr2 rfl mT kT bT .nil pass0 (pa_cons (pv 0) (pa_cons (pv 3) pa_nil))))) (pe_lst (pa_cons pe_non pa_nil))))
          (pss_one (ps_asg (pe_tup (pa_cons pe_int (pa_cons pe_int pa_nil))) (pg_tup rfl (pgs_cons (pg_name (i := 4) scSketch.nd rfl (Or.inl rfl)) (pgs_cons (pg_name (i := 6) scSketch.nd rfl (Or.inl rfl)) pgs_nil)))))) pss_nil)
      (pss_one (ps_ret (pe_disp (pps_cons pe_str (pv 5) (pps_cons pe_str (pv 4) (pps_cons pe_str (pv 6) pps_nil))) (by rfl) (by rfl) (fun z => by cases z) (by decide))))))), ?_⟩
    refine ⟨fun σ H1 => ∃ n : Nat, σ = [some (.ref d), some (.int N), some (.int m), some (.int n), none, none, none] ∧ 0 < n ∧ n ≤ N ∧ DrawAt H1 d l c ∧ KeepD H H1 d l, ?_, ?_⟩
    · refine ⟨_, rfl, _, rfl, d, l, c, _, rfl, D, by omega, by omega, fun r H1 r0 r1 D1 k1 => ⟨_, _, rfl, rfl, (1 + r).toNat, ?_, by omega, by omega, D1, k1⟩⟩
      show [_, _, _, some (V.int (1 + r)), _, _, _] = _
      rw [show (((1 + r).toNat : Nat) : Int) = 1 + r by omega]
    · rintro σ H1 ⟨n, rfl, n0, n1, D1, k1⟩
      refine ⟨fun σ H2 => ∃ (p : Nat) (a : Addr) (s : List Int), σ = [some (.ref d), some (.int N), some (.int m), some (.int n), some (.int p), some (.ref a), none] ∧ 0 < p ∧ p ≤ n ∧ p ≤ 6 ∧ H a = none ∧ H2 a = some (.lst (s.map V.int)) ∧ s.length = n ∧ Asc s ∧ Within s (m * n) ∧ DrawAt H2 d l c ∧ KeepD H H2 d l, ?_, ?_⟩
      · refine ⟨_, rfl, _, rfl, n, 6, rfl, d, l, c, _, rfl, D1, ?_, ?_, fun r H2 r0 r1 D2 k2 => ⟨_, _, rfl, rfl, _, rfl, _, rfl, _, rfl, d, l, c, n, m, rfl, D2, n0, by omega, m0, m1, fun a s H3 h1 h2 h3 h4 h5 D3 k3 => ?_⟩⟩
        · split <;> omega
        · split <;> omega
        · have q := k1.trans k2
          refine ⟨_, _, rfl, (1 + r).toNat, a, s, ?_, ?_, ?_, ?_, D.keepF q D2 h1, h2, h3, h4, h5, D3, q.trans k3⟩
          · show [_, _, _, _, some (V.int (1 + r)), _, _] = _
            rw [show (((1 + r).toNat : Nat) : Int) = 1 + r by omega]
          · omega
          · split at r1 <;> omega
          · split at r1 <;> omega
      · rintro σ H2 ⟨p, a, s, rfl, p0, pn, p6, ha, h2, ls, as, ws, D2, k2⟩
        refine ⟨fun σ H3 => ∃ g : Int, σ = [some (.ref d), some (.int N), some (.int m), some (.int n), some (.int p), some (.ref a), some (.int g)] ∧ SkI N 6 (m * (N + 1)) s p g ∧ H3 a = some (.lst (s.map V.int)) ∧ DrawAt H3 d l c ∧ KeepD H H3 d l, ?_, ?_⟩
        · obtain ⟨y, hy, hy2⟩ := lastInt (s := s) (by omega)
          have hx : s[s.length - p]? = some (s[s.length - p]'(by omega)) := List.getElem?_eq_getElem _
          generalize hxv : s[s.length - p]'(by omega) = x at hx
          have hx2 : atI (s.map V.int) ((n : Int) - (p : Int)) = some (.int x) := by
            rw [show (n : Int) - (p : Int) = ((s.length - p : Nat) : Int) by omega]
            refine atI_nat ?_
            rw [List.getElem?_map, hx]
            rfl
          have xy : x ≤ y := asc_le as (p - 1) (s.length - p) x y hx (by rw [show s.length - p + (p - 1) = s.length - 1 by omega]; exact hy)
          have wx := ws _ _ hx
          have bN : m * (n : Int) ≤ m * (N : Int) := Int.mul_le_mul_of_nonneg_left (by omega) (by omega)
          have eN : m * ((N : Int) + 1) = m * (N : Int) + m := by rw [Int.mul_add, Int.mul_one]
          have wy := ws _ _ hy
          refine ⟨_, rfl, 1, rfl, a, _, _, _, rfl, rfl, SqL.of h2, hy2, _, rfl, _, rfl, _, rfl, _, _, rfl, rfl, a, _, _, _, rfl, rfl, SqL.of h2, hx2, _, _, rfl, rfl, _, rfl, _, rfl, _, rfl, _, _, rfl, rfl, d, l, c, _, rfl, D2, by omega, by omega, fun r H3 r0 r1 D3 k3 => ⟨(by show 4 ≤ sizeLine; decide), fun p1 hp1 => ?_⟩⟩
          generalize g7 : upd H3 p1 _ = H7
          obtain ⟨s7, f7⟩ := alloc g7 hp1
          refine ⟨d, l, c, p1, _, rfl, D3.same s7, f7, D3.nl hp1, (by show 0 < 4; decide), (by show 4 ≤ 2 ^ 100; decide), fun j x' H8 hx' D8 k8 => ?_⟩
          obtain ⟨z, rfl, z0, z1⟩ := pick4 (M := m) hx' (by omega) (by omega) (by omega) ⟨r0, by omega⟩
          have kk : KeepD H2 H8 d l := k3.trans ((Same.keepD d l s7).trans k8)
          refine ⟨_, _, rfl, rfl, y - x + z, rfl, ⟨p0, by omega, p6, by omega, as, fun i v h => by have := ws i v h; omega, by omega, by omega, fun x' y' h1 h2 => ?_⟩, kk _ _ h2 (D.nd ha) (D.nl ha), D8, k2.trans kk⟩
          rw [hx] at h1
          rw [hy] at h2
          cases h1
          cases h2
          omega
        · rintro σ H3 ⟨g, rfl, S, h3, D3, k3⟩
          refine ⟨fun σ H4 => ∃ (p : Nat) (a : Addr) (xs : List V) (g : Int), σ = [some (.ref d), some (.int N), some (.int m), some (.int n), some (.int p), some (.ref a), some (.int g)] ∧ Sk N 6 (m * (N + 1)) xs p g ∧ H a = none ∧ H4 a = some (.lst xs) ∧ DrawAt H4 d l c ∧ KeepD H H4 d l, ?_, ?_⟩
          · refine ⟨_, rfl, d, l, c, 10, rfl, D3, by decide, by decide, fun r H4 r0 r1 D4 k4 => ⟨rfl, _, rfl, ?_⟩⟩
            have h4 := k4 _ _ h3 (D.nd ha) (D.nl ha)
            refine ite2 (fun _ => ?_) (fun _ => ⟨p, a, _, g, rfl, .mkI s p g S, ha, h4, D4, k3.trans k4⟩)
            refine ⟨_, rfl, _, rfl, _, rfl, d, l, c, n, rfl, D4, by omega, by omega, fun r2 H5 r20 r21 D5 k5 => ⟨_, rfl, a, _, rfl, SqL.of (k5 _ _ h4 (D.nd ha) (D.nl ha)), fun q hq => ?_⟩⟩
            rw [show r2 = ((r2.toNat : Nat) : Int) by omega, cutR (by rw [List.length_map]; omega), ← List.map_take]
            generalize g6 : upd H5 q _ = H6
            obtain ⟨s6, f6⟩ := alloc g6 hq
            refine ⟨(by show 1 ≤ sizeLine; decide), fun u hu => ?_⟩
            generalize g7 : upd H6 u _ = H7
            obtain ⟨s7, f7⟩ := alloc g7 hu
            refine ⟨q, u, _, _, rfl, rfl, s7 _ _ f6, f7, ?_, fun z hz => ?_⟩
            · rw [List.length_map, List.length_take]
              exact Nat.le_of_lt (small1000 (show min r2.toNat s.length + 1 ≤ 1000 by omega))
            generalize g8 : upd H7 z _ = H8
            obtain ⟨s8, f8⟩ := alloc g8 hz
            refine ⟨(by show 2 ≤ sizeLine; decide), fun t ht => ?_⟩
            generalize g9 : upd H8 t _ = H9
            obtain ⟨s9, f9⟩ := alloc g9 ht
            have kk : KeepD H H7 d l := ((k3.trans k4).trans k5).trans (Same.keepD d l (Same.trans s6 s7))
            have ss : Same H5 H9 := Same.trans s6 (Same.trans s7 (Same.trans s8 s9))
            refine ⟨t, _, rfl, SqT.of f9, rfl, _, _, rfl, _, _, rfl, rfl, 1, z, (s.take r2.toNat).map V.int ++ List.replicate 1 .non, 0, rfl, ?_, ?_, s9 _ _ f8, D5.same ss, ((k3.trans k4).trans k5).trans (Same.keepD d l ss)⟩
            · refine Sk.mkN (s.take r2.toNat) 0 0 ?_ (asc_take S.asc) (within_take S.wi) (by omega) (Int.le_trans S.g0 S.g1)
              rw [List.length_take]
              omega
            · exact D.keepF kk ((D5.same s6).same s7) hz
          · rintro σ H4 ⟨p, a, xs, g, rfl, S, ha, h4, D4, k4⟩
            refine fun e he => ⟨_, rfl, _, rfl, _, rfl, upd_same, skKvs a p g, rfl, (by show 3 ≤ 15; decide), ?_⟩
            have heH := D.keepF k4 D4 he
            refine k e a xs p g _ heH ha ⟨upd_same, ?_, D.nd heH, D.nl heH, D.nd ha, D.nl ha⟩ S ?_ ?_
            · rw [upd_ne (ne_of_none h4 he), upd_ne (ne_of_none h4 he)]; exact h4
            · exact (D4.put (D.nd heH) (D.nl heH) (D.nc heH)).put (D.nd heH) (D.nl heH) (D.nc heH)
            · exact (k4.trans' heH).trans' heH
end
end WW
end

section
set_option Elab.async false
set_option linter.all false
set_option maxRecDepth 100000
set_option maxHeartbeats 4000000
namespace WW
open PySem L2 WO WG RZ
abbrev sAt : Stmt := top 67
abbrev sRow : Stmt := top 68
def FN (s : List Int) (j : Nat) : V := if j < s.length then .int (s.getD j 0) else .non
inductive RowF : List V → Nat → Int → (Nat → V) → Prop
  | mkI (s : List Int) (p : Nat) (g : Int) (p0 : 0 < p) (pn : p ≤ s.length) (pb : p ≤ 1000000) : RowF (s.map V.int) p g (fun j => .int (MF.at_ s p g j))
  | mkN (s : List Int) (k p : Nat) (g : Int) : RowF (s.map V.int ++ List.replicate (k + 1) .non) p g (FN s)
theorem RowF.flat {xs : List V} {p : Nat} {g : Int} {F : Nat → V} (h : RowF xs p g F) (j : Nat) : F j = .non ∨ ∃ i : Int, F j = .int i := by
  cases h with
  | mkI s p g => exact .inr ⟨_, rfl⟩
  | mkN s k p g =>
    unfold FN
    split
    · exact .inr ⟨_, rfl⟩
    · exact .inl rfl
theorem flat_range {F : Nat → V} (h : ∀ j, F j = .non ∨ ∃ i : Int, F j = .int i) (n : Nat) : FlatR ((List.range n).map F) := by
  intro v hv
  obtain ⟨j, _, rfl⟩ := List.mem_map.mp hv
  exact h j
section
variable {P : Program} {w : World} {K : PySem.W.Frag} {mg : Str → Option Value} {base : Heap}
def spAt (K : PySem.W.Frag) : Sp := fun vs H Q _ => ∃ (e a : Addr) (xs : List V) (p b : Nat) (g : Int) (F : Nat → V), vs = [.ref e, .int b] ∧ H e = some (.dK (skKvs a p g)) ∧ H a = some (.lst xs) ∧ RowF xs p g F ∧ b ≤ 10000000000000 ∧ Q (F b) H
theorem scAt : FnScope ["sketch", "beat", "start_here", "laps"] ["sketch", "beat"] (defScope sAt) := ⟨rfl, rfl, rfl, by decide +kernel, rfl, by decide +kernel, by decide +kernel⟩
theorem ok_at {f : Addr} {fd : FuncData} (F : Fun K "_law_at" "_law_at" sAt f fd) (T : CurG mg) : FnOk P w K mg base CX0 1 f fd ["sketch", "beat"] (spAt K) := by
  refine F.ok scAt (fun vs H Q E h => ?_) (fun cdv A outer s H vs Q E hr h => ?_)
  · obtain ⟨e, a, xs, p, b, g, F, rfl, _⟩ := h
    rfl
  · obtain ⟨e, a, xs, p, b, g, F, rfl, he, ha, R, hb, k⟩ := h
    have hu := hu_of hr
    refine ⟨_, pss_cons (ps_set (i := 2) scAt.nd rfl (Or.inl rfl) (pe_dget hu (pv 0) pe_str (fun _ _ => rfl)))
      (pss_cons (ps_if (pt_cmpR op_lt (pv 1) (pe_callB call_len_seq (by rfl) T.len PySem.boot_len (pa_cons (pv 2) pa_nil)) (nomark _)) (pss_one (ps_ret (pe_ix ix_list (pv 2) (pv 1) (fun _ _ => rfl)))) pss_nil)
      (pss_cons (ps_if (pt_cmpR op_isN (pe_ix ix_list (pv 2) (pe_un un_neg pe_int) (fun _ _ => rfl)) pe_non (nomark _)) (pss_one (ps_ret pe_non)) pss_nil)
      (pss_cons (ps_set (i := 3) scAt.nd rfl (Or.inl rfl) (pe_op op_add (pe_op op_fdivN (pe_op op_sub (pv 1) (pe_callB call_len_seq (by rfl) T.len PySem.boot_len (pa_cons (pv 2) pa_nil))) (pe_dget hu (pv 0) pe_str (fun _ _ => rfl))) pe_int))
      (pss_one (ps_ret (pe_op op_add (pe_ix ix_list (pv 2) (pe_op op_sub (pv 1) (pe_op op_mul (pv 3) (pe_dget hu (pv 0) pe_str (fun _ _ => rfl)))) (fun _ _ => rfl)) (pe_op op_mul (pv 3) (pe_dget hu (pv 0) pe_str (fun _ _ => rfl))))))))), ?_⟩
    refine ⟨_, rfl, e, _, rfl, sk_start he, ?_⟩
    refine ⟨_, rfl, _, rfl, a, xs, rfl, .inl (SqL.of ha), _, _, rfl, rfl, ?_⟩
    cases R with
    | mkI s p g p0 pn pb =>
      by_cases hl : b < s.length
      · refine ⟨true, bT (by rw [List.length_map]; omega), iteT ⟨_, rfl, _, rfl, a, _, _, _, rfl, rfl, SqL.of ha, atI_nat (get_map (p := p) (g := g) hl), k⟩⟩
      · refine ⟨false, bF (by rw [List.length_map]; omega), iteF ?_⟩
        have n0 : 0 < s.length := by omega
        have el : (s.map V.int)[(s.map V.int).length - 1]? = some (.int (MF.at_ s p g (s.length - 1))) := by
          rw [List.length_map]
          exact get_map (by omega)
        refine ⟨_, rfl, 1, rfl, a, _, _, _, rfl, rfl, SqL.of ha, last_get el, rfl, false, rfl, iteF ?_⟩
        have hm := Nat.mod_add_div (b - s.length) p
        have hml := Nat.mod_lt (b - s.length) p0
        have hq : (b - s.length) / p ≤ b - s.length := Nat.div_le_self _ _
        generalize hqq : (b - s.length) / p = qq at *
        have hmul : (qq + 1) * p = p * qq + p := by rw [Nat.succ_mul, Nat.mul_comm]
        have e1 : Int.fdiv ((b : Int) - (s.length : Int)) (p : Int) = (qq : Int) := by
          rw [show (b : Int) - (s.length : Int) = ((b - s.length : Nat) : Int) by omega, Int.fdiv_eq_ediv_of_nonneg _ (by omega), ← hqq]
          rfl
        have hg : MF.at_ s p g b = s.getD (b - (qq + 1) * p) 0 + (qq + 1 : Nat) * g := by
          unfold MF.at_
          rw [if_neg hl, hqq]
        have hi : b - (qq + 1) * p < s.length := by omega
        have gi : (s.map V.int)[b - (qq + 1) * p]? = some (.int (s.getD (b - (qq + 1) * p) 0)) := by
          rw [List.getElem?_map, List.getD_eq_getElem?_getD, List.getElem?_eq_getElem hi]
          rfl
        refine ⟨_, rfl, _, rfl, a, _, rfl, .inl (SqL.of ha), _, _, rfl, rfl, _, rfl, e, _, rfl, sk_period he, _, _, rfl, rfl, ⟨by omega, by omega⟩, _, _, rfl, rfl, ?_⟩
        rw [List.length_map, e1]
        have e2 : (b : Int) - ((qq : Int) + 1) * (p : Int) = ((b - (qq + 1) * p : Nat) : Int) := by
          have : ((qq : Int) + 1) * (p : Int) = (((qq + 1) * p : Nat) : Int) := by rw [Int.natCast_mul]; rfl
          rw [this]
          omega
        refine ⟨_, rfl, _, rfl, _, rfl, _, rfl, e, _, rfl, sk_period he, _, _, rfl, rfl, .inl ⟨by omega, by omega⟩, _, _, rfl, rfl, a, _, _, .int (s.getD (b - (qq + 1) * p) 0), rfl, rfl, SqL.of ha, ?_, _, rfl, _, rfl, e, _, rfl, sk_growth he, _, _, rfl, rfl, .inl ⟨by omega, by omega⟩, _, _, rfl, rfl, ?_⟩
        · show atI _ ((b : Int) - ((qq : Int) + 1) * (p : Int)) = _
          rw [e2]
          exact atI_nat gi
        · have k' := k
          dsimp only at k'
          rw [hg] at k'
          exact k'
    | mkN s k' p g =>
      have lx : (s.map V.int ++ List.replicate (k' + 1) V.non).length = s.length + (k' + 1) := by rw [List.length_append, List.length_map, List.length_replicate]
      by_cases hl : b < s.length + (k' + 1)
      · refine ⟨true, bT (by rw [lx]; omega), iteT ⟨_, rfl, _, rfl, a, _, _, FN s b, rfl, rfl, SqL.of ha, atI_nat ?_, k⟩⟩
        unfold FN
        by_cases c : b < s.length
        · rw [if_pos c, List.getElem?_append_left (by rw [List.length_map]; exact c), List.getElem?_map, List.getD_eq_getElem?_getD, List.getElem?_eq_getElem c]
          rfl
        · rw [if_neg c]
          exact nones_get b (by omega) hl
      · refine ⟨false, bF (by rw [lx]; omega), iteF ?_⟩
        refine ⟨_, rfl, 1, rfl, a, _, _, _, rfl, rfl, SqL.of ha, last_get (nones_get _ (by rw [lx]; omega) (by rw [lx]; omega)), rfl, true, rfl, iteT ?_⟩
        unfold FN at k
        rw [if_neg (by omega)] at k
        exact k
def spRow (K : PySem.W.Frag) : Sp := fun vs H Q _ => ∃ (e a : Addr) (xs : List V) (p n : Nat) (g : Int) (F : Nat → V), vs = [.ref e, .int n] ∧ H e = some (.dK (skKvs a p g)) ∧ H a = some (.lst xs) ∧ RowF xs p g F ∧ n ≤ 1000 ∧
  ∀ (z : Addr) (H' : Hp), H z = none → H' z = some (.lst ((List.range n).map F)) → Same H H' → Q (.ref z) H'
theorem scRow : FnScope ["sketch", "beats", "beat"] ["sketch", "beats"] (defScope sRow) := ⟨rfl, rfl, rfl, by decide +kernel, rfl, by decide +kernel, by decide +kernel⟩
theorem ok_row {f fA : Addr} {fd dA : FuncData} (F : Fun K "_law_row" "_law_row" sRow f fd) (T : CurG mg)
    (GA : FnOk P w K mg base CX0 1 fA dA ["sketch", "beat"] (spAt K)) (kA : PySem.W.keepIn K (.ref fA) = true) (bA : Binds K dA ["sketch", "beat"] []) (mA : mg "_law_at" = some (.ref fA)) :
    FnOk P w K mg base CX0 2 f fd ["sketch", "beats"] (spRow K) := by
  refine F.ok scRow (fun vs H Q E h => ?_) (fun cdv A outer s H vs Q E hr h => ?_)
  · obtain ⟨e, a, xs, p, n, g, F, rfl, _⟩ := h
    rfl
  · obtain ⟨e, a, xs, p, n, g, F, rfl, he, ha, R, hn, k⟩ := h
    refine ⟨_, pss_one (ps_ret (pe_lc (own := [("beat", 2)]) (g := gName 2) (tt := tYes) rfl scRow.nd (pi_range1 rfl T.range (pa_cons (pv 1) pa_nil)) (blkOk_by (N := ["sketch", "beats", "beat"]) (sc := defScope sRow) (by decide +kernel)) (fun _ _ _ _ _ => pg_name (i := 2) scRow.nd rfl (Or.inl rfl)) (fun _ _ _ _ _ => pts_nil)
      (fun _ _ _ _ _ => pe_call GA hr rfl mA kA bA .nil pass0 (pa_cons (pv 0) (pa_cons (pv 2) pa_nil))))), ?_⟩
    refine ⟨_, rfl, n, rfl, by omega, by omega, fun D hD => lc_it (n := n) (walk_range (lo := 0)) (fun i H2 => H2 D = some (.lst ((List.range i).map F)) ∧ Same H H2) ⟨upd_same, same_new hD⟩ (fun i H2 _ _ => trivial) ?_ ?_⟩
    · rintro i x H2 H3 hi ⟨hd, s2⟩ hy
      obtain ⟨rfl, rfl⟩ : H3 = H2 ∧ x = .int ((0 : Int) + (i : Int)) := by
        obtain ⟨h1, h2⟩ := hy
        first | exact ⟨h1, h2⟩ | exact ⟨h2, h1⟩
      refine ⟨rfl, _, rfl, _, rfl, e, a, xs, p, i, g, F, ?_, s2 _ _ he, s2 _ _ ha, R, by omega, (List.range i).map F, hd, ?_, ?_⟩
      · simp
      · rw [List.length_map, List.length_range]; exact small1000 (by omega)
      · rw [List.range_succ, List.map_append]
        exact ⟨upd_same, fun b o e => by rw [upd_ne (ne_of_none e hD)]; exact s2 _ _ e⟩
    · rintro H2 ⟨hd, s2⟩
      exact k D H2 hD hd s2
end
end WW
end

section
set_option Elab.async false
set_option linter.all false
set_option maxRecDepth 100000
set_option maxHeartbeats 4000000
namespace WW
open PySem L2 WO WG RZ
abbrev sHas : Stmt := top 25
abbrev sCat : Stmt := top 28
section
variable {P : Program} {w : World} {K : PySem.W.Frag} {mg : Str → Option Value} {base : Heap}
def spHas (K : PySem.W.Frag) (C : Addr) : Sp := fun vs H Q _ => ∃ (x : Addr) (v : List V) (q r : Int) (lv : V), vs = [.ref x] ∧ CurveAt H C x v q r ∧ v[v.length - 1]? = some lv ∧ Q (.bl (decide (lv = .non))) H
theorem scHas : FnScope ["curve"] ["curve"] (defScope sHas) := ⟨rfl, rfl, rfl, by decide +kernel, rfl, by decide +kernel, by decide +kernel⟩
theorem ok_has {f fI fE C : Addr} {fd : FuncData} (F : Fun K "has_none" "has_none" sHas f fd) (U : CurT K mg C fI fE) : FnOk P w K mg base CX0 1 f fd ["curve"] (spHas K C) := by
  refine F.ok scHas (fun vs H Q E h => ?_) (fun cdv A outer s H vs Q E hr h => ?_)
  · obtain ⟨x, v, q, r, lv, rfl, _⟩ := h
    rfl
  · obtain ⟨x, v, q, r, lv, rfl, ⟨dx, t, h1, h2⟩, hl, k⟩ := h
    refine ⟨_, pss_one (ps_ret (pe_cmpR op_isN (pe_ix ix_tup (pe_fld (pv 0) rfl) (pe_un un_neg pe_int) (fun _ _ => rfl)) pe_non (nomark _))), ?_⟩
    exact ⟨_, rfl, x, C, dx, _, .ref t, rfl, h1, U.cl, U.nS, rfl, 1, rfl, t, _, _, _, rfl, rfl, SqT.of h2, last_get hl, rfl, k⟩
def spCat (K : PySem.W.Frag) (C : Addr) : Sp := fun vs H Q _ => ∃ (x : Addr) (v : List V) (p b : Nat) (g : Int) (F : Nat → V), vs = [.ref x, .int b] ∧ CurveAt H C x v p g ∧ RowF v p g F ∧ b ≤ 10000000000000 ∧ Q (F b) H
theorem scCat : FnScope ["curve", "beat", "many", "times_round"] ["curve", "beat"] (defScope sCat) := ⟨rfl, rfl, rfl, by decide +kernel, rfl, by decide +kernel, by decide +kernel⟩
theorem ok_cat {f fN fI fE C : Addr} {fd dN : FuncData} (F : Fun K "at" "at" sCat f fd) (T : CurG mg) (U : CurT K mg C fI fE)
    (GN : FnOk P w K mg base CX0 1 fN dN ["curve"] (spHas K C)) (kN : PySem.W.keepIn K (.ref fN) = true) (bN : Binds K dN ["curve"] []) (mN : mg "has_none" = some (.ref fN)) :
    FnOk P w K mg base CX0 2 f fd ["curve", "beat"] (spCat K C) := by
  refine F.ok scCat (fun vs H Q E h => ?_) (fun cdv A outer s H vs Q E hr h => ?_)
  · obtain ⟨x, v, p, b, g, F, rfl, _⟩ := h
    rfl
  · obtain ⟨x, v, p, b, g, F, rfl, cu, R, hb, k⟩ := h
    obtain ⟨dx, t, h1, h2⟩ := id cu
    refine ⟨_, pss_cons (ps_set (i := 2) scCat.nd rfl (Or.inl rfl) (pe_callB call_len_seq (by rfl) T.len PySem.boot_len (pa_cons (pe_fld (pv 0) rfl) pa_nil)))
      (pss_cons (ps_if (pt_cmpR op_lt (pv 1) (pv 2) (nomark _)) (pss_one (ps_ret (pe_ix ix_tup (pe_fld (pv 0) rfl) (pv 1) (fun _ _ => rfl)))) pss_nil)
      (pss_cons (ps_if (pt_val (pe_call GN hr rfl mN kN bN .nil pass0 (pa_cons (pv 0) pa_nil))) (pss_one (ps_ret pe_non)) pss_nil)
      (pss_cons (ps_set (i := 3) scCat.nd rfl (Or.inl rfl) (pe_op op_add (pe_op op_fdivN (pe_op op_sub (pv 1) (pv 2)) (pe_fld (pv 0) rfl)) pe_int))
      (pss_one (ps_ret (pe_op op_add (pe_ix ix_tup (pe_fld (pv 0) rfl) (pe_op op_sub (pv 1) (pe_op op_mul (pv 3) (pe_fld (pv 0) rfl))) (fun _ _ => rfl)) (pe_op op_mul (pv 3) (pe_fld (pv 0) rfl)))))))), ?_⟩
    refine ⟨_, rfl, x, C, dx, _, .ref t, rfl, h1, U.cl, U.nS, rfl, t, v, rfl, .inr (SqT.of h2), ?_⟩
    cases R with
    | mkI s p g p0 pn pb =>
      by_cases hl : b < s.length
      · exact ⟨_, rfl, _, rfl, _, _, rfl, rfl, true, bT (by rw [List.length_map]; omega), iteT ⟨_, rfl, x, C, dx, _, .ref t, rfl, h1, U.cl, U.nS, rfl, _, rfl, t, _, _, _, rfl, rfl, SqT.of h2, atI_nat (get_map (p := p) (g := g) hl), k⟩⟩
      · refine ⟨_, rfl, _, rfl, _, _, rfl, rfl, false, bF (by rw [List.length_map]; omega), iteF ?_⟩
        have n0 : 0 < s.length := by omega
        have el : (s.map V.int)[(s.map V.int).length - 1]? = some (.int (MF.at_ s p g (s.length - 1))) := by
          rw [List.length_map]
          exact get_map (by omega)
        refine ⟨_, rfl, x, _, _, _, _, rfl, cu, el, false, rfl, iteF ?_⟩
        have hm := Nat.mod_add_div (b - s.length) p
        have hml := Nat.mod_lt (b - s.length) p0
        have hq : (b - s.length) / p ≤ b - s.length := Nat.div_le_self _ _
        generalize hqq : (b - s.length) / p = qq at *
        have hmul : (qq + 1) * p = p * qq + p := by rw [Nat.succ_mul, Nat.mul_comm]
        have e1 : Int.fdiv ((b : Int) - (s.length : Int)) (p : Int) = (qq : Int) := by
          rw [show (b : Int) - (s.length : Int) = ((b - s.length : Nat) : Int) by omega, Int.fdiv_eq_ediv_of_nonneg _ (by omega), ← hqq]
          rfl
        have hg : MF.at_ s p g b = s.getD (b - (qq + 1) * p) 0 + (qq + 1 : Nat) * g := by
          unfold MF.at_
          rw [if_neg hl, hqq]
        have hi : b - (qq + 1) * p < s.length := by omega
        have gi : (s.map V.int)[b - (qq + 1) * p]? = some (.int (s.getD (b - (qq + 1) * p) 0)) := by
          rw [List.getElem?_map, List.getD_eq_getElem?_getD, List.getElem?_eq_getElem hi]
          rfl
        refine ⟨_, rfl, _, rfl, _, _, rfl, rfl, _, rfl, x, C, dx, _, .int p, rfl, h1, U.cl, U.nP, rfl, _, _, rfl, rfl, ⟨by omega, by omega⟩, _, _, rfl, rfl, ?_⟩
        rw [List.length_map, e1]
        have e2 : (b : Int) - ((qq : Int) + 1) * (p : Int) = ((b - (qq + 1) * p : Nat) : Int) := by
          have : ((qq : Int) + 1) * (p : Int) = (((qq + 1) * p : Nat) : Int) := by rw [Int.natCast_mul]; rfl
          rw [this]
          omega
        refine ⟨_, rfl, x, C, dx, _, .ref t, rfl, h1, U.cl, U.nS, rfl, _, rfl, _, rfl, _, rfl, x, C, dx, _, .int p, rfl, h1, U.cl, U.nP, rfl, _, _, rfl, rfl, .inl ⟨by omega, by omega⟩, _, _, rfl, rfl, t, _, _, .int (s.getD (b - (qq + 1) * p) 0), rfl, rfl, SqT.of h2, ?_, _, rfl, _, rfl, x, C, dx, _, .int g, rfl, h1, U.cl, U.nG, rfl, _, _, rfl, rfl, .inl ⟨by omega, by omega⟩, _, _, rfl, rfl, ?_⟩
        · show atI _ ((b : Int) - ((qq : Int) + 1) * (p : Int)) = _
          rw [e2]
          exact atI_nat gi
        · have k' := k
          dsimp only at k'
          rw [hg] at k'
          exact k'
    | mkN s k' p g =>
      have lx : (s.map V.int ++ List.replicate (k' + 1) V.non).length = s.length + (k' + 1) := by rw [List.length_append, List.length_map, List.length_replicate]
      by_cases hl : b < s.length + (k' + 1)
      · refine ⟨_, rfl, _, rfl, _, _, rfl, rfl, true, bT (by rw [lx]; omega), iteT ⟨_, rfl, x, C, dx, _, .ref t, rfl, h1, U.cl, U.nS, rfl, _, rfl, t, _, _, FN s b, rfl, rfl, SqT.of h2, atI_nat ?_, k⟩⟩
        unfold FN
        by_cases c : b < s.length
        · rw [if_pos c, List.getElem?_append_left (by rw [List.length_map]; exact c), List.getElem?_map, List.getD_eq_getElem?_getD, List.getElem?_eq_getElem c]
          rfl
        · rw [if_neg c]
          exact nones_get b (by omega) hl
      · refine ⟨_, rfl, _, rfl, _, _, rfl, rfl, false, bF (by rw [lx]; omega), iteF ?_⟩
        refine ⟨_, rfl, x, _, _, _, _, rfl, cu, nones_get _ (by rw [lx]; omega) (by rw [lx]; omega), true, rfl, iteT ?_⟩
        unfold FN at k
        rw [if_neg (by omega)] at k
        exact k
end
end WW
end

section
set_option Elab.async false
set_option linter.all false
set_option maxRecDepth 100000
set_option maxHeartbeats 4000000
/-! lists made item by item, as one word -/
namespace LM
open PySem PySem.Spec PyProof.Rows L2
theorem sNew {H : Hp} {p : Addr} {o : HO} (h : H p = none) : Same H (upd H p o) := fun b u e => by rw [upd_ne (ne_of_none e h)]; exact e
theorem sPut {H H' : Hp} {p : Addr} {o : HO} (h : H p = none) (s : Same H H') : Same H (upd H' p o) := fun b u e => by rw [upd_ne (ne_of_none e h)]; exact s _ _ e
theorem cut_whole {xs : List V} {lo hi : Option Int} (h : HT.sIx xs.length 0 lo = 0 ∧ HT.sIx xs.length xs.length hi = xs.length) : cutV xs lo hi = xs := by
  unfold cutV
  rw [h.1, h.2, List.drop_zero, Nat.sub_zero, List.take_length]
/-- a part of a tuple, whether it is the tuple itself or a new one -/
theorem slT {K : PySem.W.Frag} {H : Hp} {a : Addr} {xs : List V} {lo hi : Option Int} {Q : VK} (h : SqT K H a xs) (k : ∀ a' H1, SqT K H1 a' (cutV xs lo hi) → Same H H1 → Q (.ref a') H1) :
    (HT.sIx xs.length 0 lo = 0 ∧ HT.sIx xs.length xs.length hi = xs.length → Q (.ref a) H) ∧ (¬ (HT.sIx xs.length 0 lo = 0 ∧ HT.sIx xs.length xs.length hi = xs.length) → ∀ p, H p = none → Q (.ref p) (upd H p (.tup (cutV xs lo hi)))) := by
  refine ⟨fun w => k a H ?_ (Same.refl _), fun _ p hp => k p _ (SqT.of upd_same) (sNew hp)⟩
  rw [cut_whole w]
  exact h
def rSlN (K : PySem.W.Frag) : V → Option Int → Option Int → Hp → VK → Prop := fun x lo hi H Q => ∃ a xs, x = .ref a ∧ SqT K H a xs ∧ ∀ a' H1, SqT K H1 a' (cutV xs lo hi) → Same H H1 → Q (.ref a') H1
theorem sl_tupN {X : Cx} : SlR X (rSlN X.K) := fun pins s σ H x v vl vu lo hi sl Q I rx hs pl pu ⟨a, xs, e, hx, k⟩ => sl_tupA pins s σ H x v vl vu lo hi sl Q I rx hs pl pu ⟨a, xs, e, hx, slT hx k⟩
section
variable {J : It} {n : Nat} {G : Hp → Prop} {Y : Nat → Hp → V → Hp → Prop}
/-- [e for .. in ..], each item F i -/
theorem lcM (w : Walk J n G Y) {g : TG} {tt : TT} {te : TE} {vs : List Nat} {σ : L2.St} {H1 : Hp} {D : Addr} {Qd : Hp → Prop} (F : Nat → V) (hD : H1 D = none) (hn : n ≤ 200000) (hG : ∀ H, Same H1 H → G H)
    (hs : ∀ i x H H', i < n → Same H1 H → Y i H x H' → ∀ (R : V → Hp → Prop) (N : Hp → Prop), (∀ H4, Same H H4 → R (F i) H4) → g x (wipe σ vs) H' fun σ2 H2 => wipe σ2 vs = wipe σ vs ∧ tt σ2 H2 fun b H3 => if b = true then te σ2 H3 R else N H3)
    (hd : ∀ H, H D = some (.lst ((List.range n).map F)) → Same H1 H → Qd H) :
    ∃ W : Nat → Nat → Hp → Prop, (∃ m, W 0 m (upd H1 D (.lst []))) ∧ ∀ i m H, W i m H →
      (J.stop i H ∧ Qd H) ∨ (J.go i H ∧ ∃ Nx : Hp → Prop, (∀ H', Nx H' → ∃ m', m' < m ∧ W (i + 1) m' H') ∧ ∀ x H', J.yld i H x H' → g x (wipe σ vs) H' fun σ2 H2 => wipe σ2 vs = wipe σ vs ∧ tt σ2 H2 fun b H3 =>
        if b = true then te σ2 H3 fun y H4 => ∃ acc, H4 D = some (.lst acc) ∧ acc.length < sizeLine ∧ Nx (upd H4 D (.lst (acc ++ [y]))) else Nx H3) := by
  refine lc_it w (fun i H => H D = some (.lst ((List.range i).map F)) ∧ Same H1 H) ⟨upd_same, sNew hD⟩ (fun i H _ h => hG H h.2) (fun i x H H' hi ⟨d, s⟩ y => ?_) (fun H ⟨d, s⟩ => hd H d s)
  refine hs i x H H' hi s y _ _ fun H4 s4 => ⟨_, s4 _ _ d, ?_, ?_, sPut hD (Same.trans s s4)⟩
  · rw [List.length_map, List.length_range]
    exact Nat.lt_of_lt_of_le (show i < 200001 by omega) (by decide)
  · rw [List.range_succ, List.map_append]
    exact upd_same
/-- any loop over heaps: what a turn does is B -/
theorem itB (w : Walk J n G Y) {Qd : Hp → Prop} {H0 : Hp} {B : (Hp → Prop) → V → Hp → Prop} (Pv : Nat → Hp → Prop) (h0 : Pv 0 H0) (hG : ∀ i H, i ≤ n → Pv i H → G H)
    (hs : ∀ i x H H', i < n → Pv i H → Y i H x H' → B (Pv (i + 1)) x H') (hd : ∀ H, Pv n H → Qd H) :
    ∃ W : Nat → Nat → Hp → Prop, (∃ m, W 0 m H0) ∧ ∀ i m H, W i m H →
      (J.stop i H ∧ Qd H) ∨ (J.go i H ∧ ∃ Nx : Hp → Prop, (∀ H', Nx H' → ∃ m', m' < m ∧ W (i + 1) m' H') ∧ ∀ x H', J.yld i H x H' → B Nx x H') := by
  refine ⟨fun i m H => m = n - i ∧ i ≤ n ∧ Pv i H, ⟨n, by simp, Nat.zero_le _, h0⟩, ?_⟩
  rintro i m H ⟨rfl, hi, p⟩
  have q := hG i H hi p
  by_cases hlt : i < n
  · exact .inr ⟨w.goes i H hlt q, Pv (i + 1), fun H' p' => ⟨n - (i + 1), by omega, rfl, hlt, p'⟩, fun x H' y => hs i x H H' hlt p (w.yields i H x H' hlt q y)⟩
  · have e : i = n := by omega
    subst e
    exact .inl ⟨w.stops H q, hd H p⟩
end
end LM
end

section
set_option linter.all false
/-! rows that never fall -/
namespace MF
def Mono (f : Nat → Int) : Prop := ∀ j, f j ≤ f (j + 1)
theorem Mono.le {f : Nat → Int} (h : Mono f) {i j : Nat} (l : i ≤ j) : f i ≤ f j := by
  induction j with
  | zero => rw [Nat.le_zero.mp l]; exact Int.le_refl _
  | succ j ih =>
    rcases Nat.lt_or_ge j i with q | q
    · rw [show i = j + 1 by omega]; exact Int.le_refl _
    · exact Int.le_trans (ih q) (h j)
/-- a row that never falls, and whose first value behind isn't below its last one -/
theorem mono_at {s : List Int} {p : Nat} {g : Int} (p0 : 0 < p) (pn : p ≤ s.length) (asc : s.Pairwise (· ≤ ·)) (fa : at_ s p g (s.length - 1) ≤ at_ s p g (s.length - p) + g) : Mono (at_ s p g) := by
  have QPf := at_qp (s := s) (g := g) p0 pn
  intro j
  induction j using Nat.strongRecOn with
  | ind j ih =>
    rcases Nat.lt_or_ge (j + 1) s.length with h | h
    · rw [at_low h, at_low (show j < s.length by omega), List.getD_eq_getElem?_getD, List.getD_eq_getElem?_getD, List.getElem?_eq_getElem h, List.getElem?_eq_getElem (show j < s.length by omega)]
      exact List.pairwise_iff_getElem.mp asc j (j + 1) (by omega) h (by omega)
    · rcases Nat.lt_or_ge s.length (j + 1) with h2 | h2
      · have q1 := QPf (j - p) (by omega)
        have q2 := QPf (j + 1 - p) (by omega)
        rw [show j - p + p = j by omega] at q1
        rw [show j + 1 - p + p = j + 1 by omega] at q2
        have i := ih (j - p) (by omega)
        rw [show j - p + 1 = j + 1 - p by omega] at i
        omega
      · have q1 := QPf (s.length - p) (Nat.le_refl _)
        rw [show s.length - p + p = s.length by omega] at q1
        rw [show j = s.length - 1 by omega, show s.length - 1 + 1 = s.length by omega]
        omega
theorem Mono.rise {f : Nat → Int} (h : Mono f) {q : Nat} {r : Int} {b : Nat} (Q : QP f q r b) : 0 ≤ r := by
  have a := Q b (Nat.le_refl _)
  have m := h.le (show b ≤ b + q by omega)
  omega
/-- a rise of 0 is that of the period 1 -/
theorem Mono.flat {f : Nat → Int} (h : Mono f) {q : Nat} {b : Nat} (F : IsForm f q 0 b) : q = 1 := by
  have l := F.least 1 (by omega) ⟨b, fun j hj => by
    have q0 := F.pos
    have key : ∀ i, b ≤ i → f (i + 1) = f i := fun i hi => by
      have a := F.qp i hi
      have m1 := h i
      have m2 := h.le (show i + 1 ≤ i + q by omega)
      omega
    unfold D
    rw [key (j + 1) (by omega), key j hj]⟩
  have := F.pos
  omega
theorem form_rise {f : Nat → Int} {p q : Nat} {g r : Int} {b c : Nat} (p0 : 0 < p) (P : QP f p g c) (F : IsForm f q r b) : (p : Int) * r = (q : Int) * g := by
  have m1 := P.mul (j := b + c) (by omega) q
  have m2 := F.qp.mul (j := b + c) (by omega) p
  rw [Nat.mul_comm q p] at m1
  omega
theorem form_le {f : Nat → Int} {p q : Nat} {g r : Int} {b c : Nat} (p0 : 0 < p) (g0 : 0 ≤ g) (P : QP f p g c) (F : IsForm f q r b) : r ≤ g ∧ q ≤ p := by
  have e := form_rise p0 P F
  have l := F.least p p0 ⟨c, P.dp⟩
  refine ⟨?_, l⟩
  have h : (q : Int) * g ≤ (p : Int) * g := Int.mul_le_mul_of_nonneg_right (by omega) g0
  exact Int.le_of_mul_le_mul_left (a := (p : Int)) (by omega) (by omega)
end MF
end

section
set_option Elab.async false
set_option linter.all false
set_option maxRecDepth 100000
set_option maxHeartbeats 4000000
namespace WW
open PySem L2 WO WG RZ
abbrev sFirst : Stmt := top 29
abbrev sBehind : Stmt := top 30
abbrev sRegular : Stmt := top 27
theorem RowF.get {xs : List V} {p : Nat} {g : Int} {F : Nat → V} (R : RowF xs p g F) {j : Nat} (h : j < xs.length) : xs[j]? = some (F j) := by
  cases R with
  | mkI s p g p0 pn pb => rw [List.length_map] at h; exact get_map h
  | mkN s k p g =>
    rw [List.length_append, List.length_map, List.length_replicate] at h
    unfold FN
    by_cases c : j < s.length
    · rw [if_pos c, List.getElem?_append_left (by rw [List.length_map]; exact c), List.getElem?_map, List.getD_eq_getElem?_getD, List.getElem?_eq_getElem c]
      rfl
    · rw [if_neg c]
      exact nones_get j (by omega) h
theorem RowF.take {xs : List V} {p : Nat} {g : Int} {F : Nat → V} (R : RowF xs p g F) {n : Nat} : xs.take n = (List.range (min n xs.length)).map F := by
  refine List.ext_getElem? fun i => ?_
  rw [List.getElem?_take, List.getElem?_map]
  by_cases h : i < n
  · by_cases h2 : i < xs.length
    · rw [if_pos h, R.get h2, List.getElem?_range (by omega)]
      rfl
    · rw [if_pos h, List.getElem?_eq_none (by omega), List.getElem?_eq_none (by rw [List.length_range]; omega)]
      rfl
  · rw [if_neg h, List.getElem?_eq_none (by rw [List.length_range]; omega)]
    rfl
theorem cutR' {xs : List V} {n : Nat} : cutV xs none (some (n : Int)) = xs.take n := by
  have e : HT.sIx xs.length xs.length (some (n : Int)) = min n xs.length := by
    unfold HT.sIx
    dsimp only
    rw [if_neg (by omega), Int.toNat_natCast]
  unfold cutV
  rw [e]
  show (xs.drop 0).take (min n xs.length - 0) = _
  rw [List.drop_zero, Nat.sub_zero, ← List.take_take, List.take_length]
theorem rep_flat (n : Nat) : (List.replicate n [V.non]).flatten = List.replicate n V.non := by
  induction n with
  | zero => rfl
  | succ n ih => rw [List.replicate_succ, List.flatten_cons, ih]; rfl
theorem line_of {n : Nat} (h : n ≤ 100000) : n ≤ sizeLine := Nat.le_trans h (by decide)
theorem line_of' {n : Nat} (h : n < 100000) : n < sizeLine := Nat.lt_of_lt_of_le h (by decide)
section
variable {P : Program} {w : World} {K : PySem.W.Frag} {mg : Str → Option Value} {base : Heap}
def spRegular (K : PySem.W.Frag) (C : Addr) : Sp := fun vs H Q _ => ∃ (x : Addr) (v : List V) (p : Nat) (r : Int), vs = [.ref x] ∧ CurveAt H C x v p r ∧ p ≤ v.length ∧ Q (.int ((v.length - p : Nat) : Int)) H
theorem scRegular : FnScope ["curve"] ["curve"] (defScope sRegular) := ⟨rfl, rfl, rfl, by decide +kernel, rfl, by decide +kernel, by decide +kernel⟩
theorem ok_regular {f fI fE C : Addr} {fd : FuncData} (F : Fun K "regular_from" "regular_from" sRegular f fd) (T : CurG mg) (U : CurT K mg C fI fE) : FnOk P w K mg base CX0 1 f fd ["curve"] (spRegular K C) := by
  refine F.ok scRegular (fun vs H Q E h => ?_) (fun cdv A outer s H vs Q E hr h => ?_)
  · obtain ⟨x, v, p, r, rfl, _⟩ := h
    rfl
  · obtain ⟨x, v, p, r, rfl, ⟨dx, t, h1, h2⟩, hp, k⟩ := h
    refine ⟨_, pss_one (ps_ret (pe_op op_sub (pe_callB call_len_seq (by rfl) T.len PySem.boot_len (pa_cons (pe_fld (pv 0) rfl) pa_nil)) (pe_fld (pv 0) rfl))), ?_⟩
    refine ⟨_, rfl, x, C, dx, _, .ref t, rfl, h1, U.cl, U.nS, rfl, t, v, rfl, .inr (SqT.of h2), _, rfl, x, C, dx, _, .int p, rfl, h1, U.cl, U.nP, rfl, _, _, rfl, rfl, ?_⟩
    rw [← show (v.length : Int) - (p : Int) = ((v.length - p : Nat) : Int) by omega] at k
    exact k
/-- the values behind the start, from the first one -/
def beh (s : List Int) (p : Nat) (g : Int) (n : Nat) : List Int := (List.range n).map fun j => MF.at_ s p g (s.length + j)
theorem beh_len {s : List Int} {p : Nat} {g : Int} {n : Nat} : (beh s p g n).length = n := by unfold beh; rw [List.length_map, List.length_range]
theorem beh_snoc {s : List Int} {p : Nat} {g : Int} (n : Nat) : (beh s p g n).map V.int ++ [.int (MF.at_ s p g (s.length + n))] = (beh s p g (n + 1)).map V.int := by
  unfold beh
  rw [List.range_succ, List.map_append, List.map_append]
  rfl
theorem beh_get {s : List Int} {p : Nat} {g : Int} {n i : Nat} (h : i < n) : ((beh s p g n).map V.int)[i]? = some (.int (MF.at_ s p g (s.length + i))) := by
  unfold beh
  rw [List.getElem?_map, List.getElem?_map, List.getElem?_range h]
  rfl
/-- n values in steps of L values that rise by G -/
theorem beh_add {s : List Int} {p L : Nat} {g G : Int} (h : MF.QP (MF.at_ s p g) L G (s.length - p)) (n m : Nat) (hm : m ≤ n) (hn : n ≤ m + L) (hL : L ≤ n) : MF.at_ s p g (s.length + n) = MF.at_ s p g (s.length + (n - L)) + G := by
  have := h (s.length + (n - L)) (by omega)
  rw [show s.length + (n - L) + L = s.length + n by omega] at this
  exact this
def spBehind (K : PySem.W.Frag) (C : Addr) : Sp := fun vs H Q _ => ∃ (x : Addr) (s : List Int) (p n : Nat) (g : Int), vs = [.ref x, .int n] ∧ CurveAt H C x (s.map V.int) p g ∧ 0 < p ∧ p ≤ s.length ∧ s.length ≤ 100000 ∧ 0 < n ∧ n ≤ 50000 ∧ 0 ≤ g ∧ g < 2 ^ 30 ∧ (∀ z ∈ s, -(2 ^ 50) ≤ z ∧ z < 2 ^ 50) ∧ (g = 0 → p = 1) ∧
  ∀ (z : Addr) (H' : Hp), H z = none → H' z = some (.lst ((beh s p g n).map V.int)) → Same H H' → Q (.ref z) H'
abbrev nBehind : List Str := ["curve", "many", "growth", "row", "rounds", "one", "lift"]
theorem scBehind : FnScope nBehind ["curve", "many"] (defScope sBehind) := ⟨rfl, rfl, rfl, by decide +kernel, rfl, by decide +kernel, by decide +kernel⟩
theorem ok_behind {f fR fI fE C : Addr} {fd dR : FuncData} (F : Fun K "values_behind" "values_behind" sBehind f fd) (T : CurG mg) (few : ∃ t, mg "FEW" = some (.int 12 t)) (U : CurT K mg C fI fE)
    (GR : FnOk P w K mg base CX0 1 fR dR ["curve"] (spRegular K C)) (kR : PySem.W.keepIn K (.ref fR) = true) (bR : Binds K dR ["curve"] []) (mR : mg "regular_from" = some (.ref fR)) :
    FnOk P w K mg base CX0 2 f fd ["curve", "many"] (spBehind K C) := by
  refine F.ok scBehind (fun vs H Q E h => ?_) (fun cdv A outer s H vs Q E hr h => ?_)
  · obtain ⟨x, s, p, n, g, rfl, _⟩ := h
    rfl
  · obtain ⟨x, sl, p, n, g, rfl, cu, p0, pn, n4, n0, n5, g0, g1, bd, gp, k⟩ := h
    obtain ⟨dx, t, h1, h2⟩ := id cu
    obtain ⟨tf, mF⟩ := few
    have hu := hr.units
    refine ⟨_, pss_cons (ps_set (i := 2) scBehind.nd rfl (Or.inr rfl) (pe_fld (pv 0) rfl))
      (C8.pss_cut (ps_set (i := 3) scBehind.nd rfl (Or.inr rfl) (pe_lc (own := [("one", 5)]) (g := gName 5) (tt := tYes) rfl scBehind.nd
          (pi_tup (pe_slice LM.sl_tupN (pe_fld (pv 0) rfl) (po_some (pe_call GR hr rfl mR kR bR .nil pass0 (pa_cons (pv 0) pa_nil))) po_none)) (blkOk_by (N := nBehind) (sc := defScope sBehind) (by decide +kernel))
          (fun _ _ _ _ _ => pg_name (i := 5) scBehind.nd rfl (Or.inl rfl)) (fun _ _ _ _ _ => pts_nil) (fun _ _ _ _ _ => pe_op op_add (pv 5) (pv 2))))
      (pss_cons (ps_if (pt_cmpR op_eq (pv 2) pe_int (nomark _)) (pss_one (ps_ret (pe_op op_rep (pv 3) (pv 1)))) pss_nil)
      (pss_cons (ps_if (pt_cmpR op_eq (pe_callB call_len_seq (by rfl) T.len PySem.boot_len (pa_cons (pv 3) pa_nil)) pe_int (nomark _))
        (pss_one (ps_ret (pe_listRgW rfl (by rfl) T.list (by rfl) T.range (pa_cons (pe_ix ix_list (pv 3) pe_int (fun _ _ => rfl)) (pa_cons (pe_op op_add (pe_ix ix_list (pv 3) pe_int (fun _ _ => rfl)) (pe_op op_mul (pv 2) (pv 1))) (pa_cons (pv 2) pa_nil)))))) pss_nil)
      (C8.pss_cut (ps_while PassesOwn.never (pt_cmpR op_lt (pe_callB call_len_seq (by rfl) T.len PySem.boot_len (pa_cons (pv 3) pa_nil)) (pe_glob (v := .int 12) rfl mF ⟨_, rfl⟩) (nomark _))
        (pss_cons (ps_set (i := 3) scBehind.nd rfl (Or.inr rfl) (pe_op op_cat (pv 3) (pe_lc (own := [("one", 5)]) (g := gName 5) (tt := tYes) rfl scBehind.nd (pi_list (pv 3)) (blkOk_by (N := nBehind) (sc := defScope sBehind) (by decide +kernel))
          (fun _ _ _ _ _ => pg_name (i := 5) scBehind.nd rfl (Or.inl rfl)) (fun _ _ _ _ _ => pts_nil) (fun _ _ _ _ _ => pe_op op_add (pv 5) (pv 2)))))
        (pss_one (ps_set (i := 2) scBehind.nd rfl (Or.inr rfl) (pe_op op_add (pv 2) (pv 2))))))
      (C8.pss_cut (ps_set (i := 4) scBehind.nd rfl (Or.inl rfl) (pe_un un_neg (pe_op op_fdivN (pe_un un_neg (pv 1)) (pe_callB call_len_seq (by rfl) T.len PySem.boot_len (pa_cons (pv 3) pa_nil)))))
      (pss_one (ps_ret (pe_slice sl_list (pe_lc2 (own := [("one", 5), ("lift", 6)]) (vs1 := [5]) (g := gName 6) (tt := tYes) (g1 := gName 5) (tt1 := tYes) (wi1 := iList K (tVar 3)) rfl scBehind.nd (pi_rangeW (by rfl) T.range (pa_cons pe_int (pa_cons (pe_op op_mul (pv 2) (pv 4)) (pa_cons (pv 2) pa_nil))))
          (blkOk_by (N := nBehind) (sc := defScope sBehind) (by decide +kernel)) (by decide) (fun _ _ _ _ _ => pg_name (i := 6) scBehind.nd rfl (Or.inl rfl)) (fun _ _ _ _ _ => pts_nil)
          (fun _ _ _ _ _ => pi_list (pv 3)) (fun _ _ _ _ _ => pg_name (i := 5) scBehind.nd rfl (Or.inl rfl)) (fun _ _ _ _ _ => pts_nil) (fun _ _ _ _ _ => pe_op op_add (pv 5) (pv 6))) po_none (po_some (pv 1)))))))))), ?_⟩
    have QP0 := MF.at_qp (s := sl) (g := g) p0 pn
    have lX := tail_len (s := sl) pn
    refine ⟨_, rfl, x, C, dx, _, .int g, rfl, h1, U.cl, U.nG, rfl, ?_⟩
    refine ⟨fun σ' H' => ∃ z, σ' = [some (.ref x), some (.int n), some (.int g), some (.ref z), none, none, none] ∧ H z = none ∧ H' z = some (.lst ((beh sl p g p).map V.int)) ∧ Same H H', ?_, ?_⟩
    · refine ⟨_, rfl, x, C, dx, _, .ref t, rfl, h1, U.cl, U.nS, rfl, _, rfl, x, _, p, g, rfl, cu, by rw [List.length_map]; exact pn, _, rfl, t, _, rfl, SqT.of h2, fun a' H1 ha s1 => ?_⟩
      rw [List.length_map, cutL (by rw [List.length_map]; omega)] at ha
      refine ⟨a', rfl, ⟨_, ha⟩, fun D hD => LM.lcM (walk_tup (K := K) (a := a') (xs := (sl.map V.int).drop (sl.length - p))) (fun i => V.int (MF.at_ sl p g (sl.length + i))) hD (by rw [lX]; omega) (fun H2 s2 => seqT s2 ha) ?_ ?_⟩
      · rintro i v H2 H3 hi s2 ⟨rfl, hv⟩ R N kk
        rw [lX] at hi
        rw [tail_get (g := g) pn hi] at hv
        cases hv
        have q := QP0 (sl.length - p + i) (by omega)
        rw [show sl.length - p + i + p = sl.length + i by omega] at q
        have kk' := kk _ (Same.refl _)
        rw [q] at kk'
        exact ⟨rfl, _, rfl, _, rfl, _, _, rfl, rfl, kk'⟩
      · intro H2 hd s2
        rw [lX] at hd
        refine ⟨D, rfl, s1.free hD, ?_, Same.trans s1 s2⟩
        rw [hd]
        unfold beh
        rw [List.map_map]
        rfl
    rintro σ1 H1 ⟨z, rfl, hz, f1, s1⟩
    refine ⟨_, rfl, rfl, decide (g = 0), (by show V.bl (decide (V.int g = V.int 0)) = _; congr 1; exact decide_eq_decide.mpr ⟨fun z => V.int.inj z, fun z => by rw [z]⟩), ?_⟩
    refine ite2 (fun c => ?_) (fun c => ?_)
    · have g0 : g = 0 := of_decide_eq_true c
      have p1 := gp g0
      subst p1 g0
      have e1 : (beh sl 1 0 1).map V.int = [V.int (MF.at_ sl 1 0 sl.length)] := rfl
      rw [e1] at f1
      refine ⟨_, rfl, _, rfl, z, n, _, rfl, rfl, f1, by omega, by omega, (by show 1 * _ ≤ sizeLine; exact line_le (by omega)), fun q hq => ?_⟩
      have e2 : (List.replicate (n : Int).toNat [V.int (MF.at_ sl 1 0 sl.length)]).flatten = (beh sl 1 0 n).map V.int := by
        rw [Int.toNat_natCast]
        unfold beh
        rw [List.map_map]
        refine List.ext_getElem? fun j => ?_
        have fl : ∀ m, (List.replicate m [V.int (MF.at_ sl 1 0 sl.length)]).flatten = List.replicate m (V.int (MF.at_ sl 1 0 sl.length)) := fun m => by
          induction m with
          | zero => rfl
          | succ m ih => rw [List.replicate_succ, List.flatten_cons, ih]; rfl
        rw [fl, List.getElem?_replicate, List.getElem?_map]
        by_cases hj : j < n
        · rw [if_pos hj, List.getElem?_range hj]
          have m := QP0.mul (j := sl.length) (by omega) j
          rw [Nat.mul_one, Int.mul_zero, Int.add_zero] at m
          show _ = some (V.int (MF.at_ sl 1 0 (sl.length + j)))
          rw [m]
        · rw [if_neg hj, List.getElem?_eq_none (by rw [List.length_range]; omega)]
          rfl
      rw [e2]
      exact k q _ (s1.free hq) upd_same (Same.trans s1 (same_new hq))
    have gpos : 0 < g := by
      have : g ≠ 0 := fun z => c (decide_eq_true z)
      omega
    have lb : ((beh sl p g p).map V.int).length = p := by rw [List.length_map, beh_len]
    refine ⟨_, rfl, z, _, rfl, .inl (SqL.of f1), rfl, decide (p = 1), (by rw [lb]; show V.bl (decide (V.int (p : Int) = V.int 1)) = _; congr 1; exact decide_eq_decide.mpr ⟨fun z => by have := V.int.inj z; omega, fun z => by rw [z]; rfl⟩), ?_⟩
    have vb : ∀ j, j < sl.length → -(2 ^ 50) ≤ MF.at_ sl p g j ∧ MF.at_ sl p g j < 2 ^ 50 := fun j hj => by
      rw [MF.at_low hj, List.getD_eq_getElem?_getD, List.getElem?_eq_getElem hj]
      exact bd _ (List.getElem_mem hj)
    have e0 : atI ((beh sl p g p).map V.int) 0 = some (.int (MF.at_ sl p g sl.length)) := atI_nat (j := 0) (beh_get p0)
    have w0 : -(2 ^ 50) ≤ MF.at_ sl p g sl.length ∧ MF.at_ sl p g sl.length < 2 ^ 51 := by
      have q := QP0 (sl.length - p) (by omega)
      rw [show sl.length - p + p = sl.length by omega] at q
      have v := vb (sl.length - p) (by omega)
      omega
    have gn : g * (n : Int) < 2 ^ 50 ∧ 0 < g * (n : Int) := by
      refine ⟨?_, Int.mul_pos gpos (by omega)⟩
      have h1 : g * (n : Int) ≤ 2 ^ 30 * (n : Int) := Int.mul_le_mul_of_nonneg_right (by omega) (by omega)
      omega
    refine ite2 (fun c1 => ?_) (fun c1 => ?_)
    · have p1 : p = 1 := of_decide_eq_true c1
      subst p1
      refine ⟨_, rfl, z, _, _, _, rfl, rfl, SqL.of f1, e0, _, rfl, z, _, _, _, rfl, rfl, SqL.of f1, e0, _, rfl, _, rfl, _, _, rfl, rfl, .inl ⟨by omega, by omega⟩, _, _, rfl, rfl, _, rfl, MF.at_ sl 1 g sl.length, _, g, n, rfl, RgW.up (by omega) (by omega) (by omega) (by omega) gpos (by omega) (by omega) ?_ ?_, by omega, fun q hq => ?_⟩
      · rw [Int.mul_comm g]
        omega
      · intro m hm
        have h1 : (m : Int) * g < (n : Int) * g := Int.mul_lt_mul_of_pos_right (by omega) gpos
        rw [Int.mul_comm g]
        omega
      · have e2 : rgC (MF.at_ sl 1 g sl.length) g n = (beh sl 1 g n).map V.int := by
          unfold rgC beh
          rw [List.map_map]
          refine List.map_congr_left fun j _ => ?_
          have m := QP0.mul (j := sl.length) (by omega) j
          rw [Nat.mul_one] at m
          show V.int _ = V.int (MF.at_ sl 1 g (sl.length + j))
          rw [m]
        rw [e2]
        exact k q _ (s1.free hq) upd_same (Same.trans s1 (same_new hq))
    have p2 : 2 ≤ p := by
      have : p ≠ 1 := fun z => c1 (decide_eq_true z)
      omega
    refine ⟨fun σ' H' => ∃ (z : Addr) (m : Nat), σ' = [some (.ref x), some (.int n), some (.int (m * g)), some (.ref z), none, none, none] ∧ H z = none ∧ H' z = some (.lst ((beh sl p g (m * p)).map V.int)) ∧ 1 ≤ m ∧ m ≤ 12 ∧ 12 ≤ m * p ∧ m * p ≤ 100024 ∧ Same H H', ?_, ?_⟩
    · refine while_by (fun σ' H' => ∃ (z : Addr) (m : Nat), σ' = [some (.ref x), some (.int n), some (.int (m * g)), some (.ref z), none, none, none] ∧ H z = none ∧ H' z = some (.lst ((beh sl p g (m * p)).map V.int)) ∧ 1 ≤ m ∧ m ≤ 12 ∧ m * p ≤ 100024 ∧ Same H H')
          (fun σ' H' => match σ' with
            | [_, _, _, some (.ref z), _, _, _] => (match H' z with
              | some (.lst l) => 12 - l.length
              | _ => 0)
            | _ => 0) ⟨z, 1, by rw [Int.ofNat_one, Int.one_mul], hz, by rw [Nat.one_mul]; exact f1, by omega, by omega, by omega, s1⟩ ?_ ?_
      · rintro σ' H2 ⟨z, m, rfl, hz, f2, m1, m12, mp, s2⟩
        have lm : ((beh sl p g (m * p)).map V.int).length = m * p := by rw [List.length_map, beh_len]
        by_cases c2 : m * p < 12
        · have m6 : m < 6 := by
            rcases Nat.lt_or_ge m 6 with h | h
            · exact h
            · have := Nat.mul_le_mul h p2
              omega
          refine ⟨_, rfl, z, _, rfl, .inl (SqL.of f2), _, _, rfl, rfl, true, bT (by rw [lm]; omega), iteT ?_⟩
          refine ⟨_, rfl, _, rfl, z, rfl, ⟨_, SqL.of f2⟩, fun D hD => LM.lcM (walk_list (K := K) (a := z) (xs := (beh sl p g (m * p)).map V.int)) (fun i => V.int (MF.at_ sl p g (sl.length + (m * p + i)))) hD (by rw [lm]; omega) (fun H3 s3 => SqL.of (s3 _ _ f2)) ?_ ?_⟩
          · rintro i v H3 H4 hi s3 ⟨rfl, hv⟩ R N kk
            rw [lm] at hi
            rw [beh_get hi] at hv
            cases hv
            have q := QP0.mul (j := sl.length + i) (by omega) m
            rw [show sl.length + i + m * p = sl.length + (m * p + i) by omega] at q
            have kk' := kk _ (Same.refl _)
            rw [q] at kk'
            exact ⟨rfl, _, rfl, _, rfl, _, _, rfl, rfl, kk'⟩
          · intro H3 hd s3
            rw [lm] at hd
            refine ⟨z, D, _, _, rfl, rfl, s3 _ _ f2, hd, (by rw [lm, List.length_map, List.length_range]; exact line_le (by omega)), fun q hq => ?_⟩
            have e3 : (beh sl p g (m * p)).map V.int ++ (List.range (m * p)).map (fun i => V.int (MF.at_ sl p g (sl.length + (m * p + i)))) = (beh sl p g ((m + m) * p)).map V.int := by
              unfold beh
              rw [Nat.add_mul, List.range_add, List.map_map, List.map_map, List.map_append, List.map_map]
              rfl
            rw [e3]
            have e4 : ((m + m : Nat) : Int) * g = (m : Int) * g + (m : Int) * g := by rw [Int.natCast_add, Int.add_mul]
            have e5 : (m + m) * p = m * p + m * p := Nat.add_mul ..
            refine ⟨_, rfl, _, rfl, _, _, rfl, rfl, ⟨q, m + m, by rw [e4]; rfl, s2.free (s3.free hq), upd_same, by omega, by omega, by omega, Same.trans s2 (Same.trans s3 (same_new hq))⟩, ?_⟩
            show (match (upd H3 q (HO.lst ((beh sl p g ((m + m) * p)).map V.int))) q with
              | some (.lst l) => 12 - l.length
              | _ => 0) < (match H2 z with
              | some (.lst l) => 12 - l.length
              | _ => 0)
            rw [upd_same, f2]
            show 12 - ((beh sl p g ((m + m) * p)).map V.int).length < 12 - ((beh sl p g (m * p)).map V.int).length
            rw [List.length_map, beh_len, lm]
            have : 0 < m * p := Nat.mul_pos m1 p0
            omega
        · refine ⟨_, rfl, z, _, rfl, .inl (SqL.of f2), _, _, rfl, rfl, false, bF (by rw [lm]; omega), iteF ⟨z, m, rfl, hz, f2, m1, m12, by omega, mp, s2⟩⟩
      · intro σ H Q Q' m h
        obtain ⟨w1, f1, w2, w3, f2, f3, i, j, f5, f6, b, eb, hQ⟩ := h
        exact ⟨w1, f1, w2, w3, f2, f3, i, j, f5, f6, b, eb, m _ _ hQ⟩
    rintro σ2 H2 ⟨z2, m, rfl, hz2, f2, m1, m12, L12, mp, s2⟩
    have lm : ((beh sl p g (m * p)).map V.int).length = m * p := by rw [List.length_map, beh_len]
    have QPL : MF.QP (MF.at_ sl p g) (m * p) (m * g) (sl.length - p) := fun j hj => QP0.mul hj m
    have mg : 0 < (m : Int) * g ∧ (m : Int) * g < 2 ^ 34 := by
      refine ⟨Int.mul_pos (by omega) gpos, ?_⟩
      have h1 : (m : Int) * g ≤ 12 * g := Int.mul_le_mul_of_nonneg_right (by omega) (by omega)
      omega
    generalize hL : m * p = L at *
    generalize hG : (m : Int) * g = G at *
    obtain ⟨R, eR, R1, R2⟩ : ∃ R : Nat, -(Int.fdiv (-(n : Int)) (L : Int)) = (R : Int) ∧ n ≤ R * L ∧ R * L < n + L := by
      rw [Int.fdiv_eq_ediv_of_nonneg _ (by omega)]
      have h1 := Int.mul_ediv_add_emod (-(n : Int)) (L : Int)
      have h2 := Int.emod_nonneg (-(n : Int)) (show (L : Int) ≠ 0 by omega)
      have h3 := Int.emod_lt_of_pos (-(n : Int)) (show (0 : Int) < L by omega)
      generalize hq : -(n : Int) / (L : Int) = q at *
      have hq0 : q ≤ 0 := by
        rcases Int.lt_or_le 0 q with h | h
        · have : (L : Int) * 1 ≤ (L : Int) * q := Int.mul_le_mul_of_nonneg_left h (by omega)
          omega
        · exact h
      obtain ⟨R, rfl⟩ : ∃ R : Nat, q = -(R : Int) := ⟨(-q).toNat, by omega⟩
      have e : (L : Int) * -(R : Int) = -((R * L : Nat) : Int) := by
        rw [Int.mul_neg, Int.mul_comm, Int.natCast_mul]
      exact ⟨R, by omega, by omega, by omega⟩
    refine ⟨fun σ' H' => σ' = [some (.ref x), some (.int n), some (.int G), some (.ref z2), some (.int R), none, none] ∧ H' = H2, ?_, ?_⟩
    · refine ⟨_, rfl, _, rfl, _, rfl, z2, _, rfl, .inl (SqL.of f2), _, _, rfl, rfl, ⟨by rw [lm]; omega, by rw [lm]; omega⟩, _, rfl, ?_, rfl⟩
      show [_, _, _, _, some (V.int (-(Int.fdiv (-(n : Int)) (((beh sl p g L).map V.int).length : Int)))), _, _] = _
      rw [lm, eR]
    rintro σ3 H3 ⟨rfl, rfl⟩
    have hR : R ≤ 200000 := by
      have : R * 12 ≤ R * L := Nat.mul_le_mul_left _ L12
      omega
    have GR : G * (R : Int) < 2 ^ 58 ∧ 0 ≤ G * (R : Int) := by
      refine ⟨?_, Int.mul_nonneg (by omega) (by omega)⟩
      have h1 : G * (R : Int) ≤ 2 ^ 34 * (R : Int) := Int.mul_le_mul_of_nonneg_right (by omega) (by omega)
      omega
    refine ⟨_, rfl, _, rfl, _, _, rfl, rfl, .inl ⟨by omega, by omega⟩, _, rfl, 0, _, G, R, rfl, RgW.up (by omega) (by omega) (by omega) (by omega) mg.1 (by omega) (by omega) (by rw [Int.mul_comm G]; omega) ?_, fun D hD => ?_⟩
    · intro i hi
      have h1 : (i : Int) * G < (R : Int) * G := Int.mul_lt_mul_of_pos_right (by omega) mg.1
      rw [Int.mul_comm G]
      omega
    refine LM.itB (walk_rangeC (lo := 0) (c := G) (n := R)) (fun i H' => H' D = some (.lst ((beh sl p g (i * L)).map V.int)) ∧ Same H3 H') ⟨by rw [Nat.zero_mul]; exact upd_same, LM.sNew hD⟩ (fun _ _ _ _ => trivial) ?_ ?_
    · rintro i v H4 H5 hi ⟨d4, s4⟩ ⟨rfl, rfl⟩
      have hiL : i * L + L ≤ R * L := by
        rw [← Nat.succ_mul]
        exact Nat.mul_le_mul_right _ hi
      refine ⟨rfl, _, rfl, z2, rfl, ⟨_, SqL.of (s4 _ _ f2)⟩, LM.itB (walk_list (K := K) (a := z2) (xs := (beh sl p g L).map V.int)) (fun j H' => H' D = some (.lst ((beh sl p g (i * L + j)).map V.int)) ∧ Same H3 H') ⟨d4, s4⟩ (fun _ _ _ h => SqL.of (h.2 _ _ f2)) ?_ ?_⟩
      · rintro j u H6 H7 hj ⟨d6, s6⟩ ⟨rfl, hu⟩
        rw [lm] at hj
        rw [beh_get hj] at hu
        cases hu
        have q := QPL.mul (j := sl.length + j) (by omega) i
        rw [show sl.length + j + i * L = sl.length + (i * L + j) by omega] at q
        refine ⟨rfl, _, rfl, _, rfl, _, _, rfl, rfl, _, d6, (by rw [List.length_map, beh_len]; exact line_lt (by omega)), ?_, LM.sPut hD s6⟩
        have e := beh_snoc (s := sl) (p := p) (g := g) (i * L + j)
        rw [q] at e
        rw [← Nat.add_assoc, ← e, Int.zero_add]
        exact upd_same
      · rintro H6 ⟨d6, s6⟩
        rw [lm, ← Nat.succ_mul] at d6
        exact ⟨d6, s6⟩
    · rintro H4 ⟨d4, s4⟩
      refine ⟨_, rfl, (n : Int), rfl, D, _, rfl, SqL.of d4, fun q hq => ?_⟩
      have e5 : cutV ((beh sl p g (R * L)).map V.int) none (some (n : Int)) = (beh sl p g n).map V.int := by
        rw [cutR', ← List.map_take]
        unfold beh
        rw [← List.map_take, List.take_range, Nat.min_eq_left R1]
      rw [e5]
      exact k q _ (s2.free (s4.free hq)) upd_same (Same.trans s2 (Same.trans s4 (same_new hq)))
/-- what is known of a curve's form beside its values: numbers of bounded size, growth 0 for a period of 1 alone -/
structure Calm (v : List V) (p : Nat) (g : Int) : Prop where
  g0 : 0 ≤ g
  g1 : g < 2 ^ 30
  bd : ∀ z : Int, V.int z ∈ v → -(2 ^ 50) ≤ z ∧ z < 2 ^ 50
  gp : g = 0 → p = 1
def spFirst (K : PySem.W.Frag) (C : Addr) : Sp := fun vs H Q _ => ∃ (x : Addr) (v : List V) (p n : Nat) (g : Int) (F : Nat → V), vs = [.ref x, .int n] ∧ CurveAt H C x v p g ∧ RowF v p g F ∧ Calm v p g ∧ 0 < v.length ∧ v.length ≤ 100000 ∧ n ≤ 50000 ∧
  ∀ (z : Addr) (H' : Hp), H z = none → H' z = some (.lst ((List.range n).map F)) → Same H H' → Q (.ref z) H'
abbrev nFirst : List Str := ["curve", "many", "row", "lack", "period"]
theorem scFirst : FnScope nFirst ["curve", "many"] (defScope sFirst) := ⟨rfl, rfl, rfl, by decide +kernel, rfl, by decide +kernel, by decide +kernel⟩
theorem ok_first {f fN fB fI fE C : Addr} {fd dN dB : FuncData} (F : Fun K "first_values" "first_values" sFirst f fd) (T : CurG mg) (few : ∃ t, mg "FEW" = some (.int 12 t)) (U : CurT K mg C fI fE)
    (GN : FnOk P w K mg base CX0 1 fN dN ["curve"] (spHas K C)) (kN : PySem.W.keepIn K (.ref fN) = true) (bN : Binds K dN ["curve"] []) (mN : mg "has_none" = some (.ref fN))
    (GB : FnOk P w K mg base CX0 2 fB dB ["curve", "many"] (spBehind K C)) (kB : PySem.W.keepIn K (.ref fB) = true) (bB : Binds K dB ["curve", "many"] []) (mB : mg "values_behind" = some (.ref fB)) :
    FnOk P w K mg base CX0 3 f fd ["curve", "many"] (spFirst K C) := by
  refine F.ok scFirst (fun vs H Q E h => ?_) (fun cdv A outer s H vs Q E hr h => ?_)
  · obtain ⟨x, v, p, n, g, F, rfl, _⟩ := h
    rfl
  · obtain ⟨x, v, p, n, g, F, rfl, cu, R, CM, v0, v4, hn, k⟩ := h
    obtain ⟨dx, t, h1, h2⟩ := id cu
    obtain ⟨tf, mF⟩ := few
    have hr1 := hr.mono (show 1 ≤ 2 by decide)
    refine ⟨_, C8.pss_cut (ps_set (i := 2) scFirst.nd rfl (Or.inl rfl) (pe_callTy call_list_of (by rfl) T.list (by decide +kernel) (pa_cons (pe_slice sl_tupA (pe_fld (pv 0) rfl) po_none (po_some (pv 1))) pa_nil)))
      (C8.pss_cut (ps_set (i := 3) scFirst.nd rfl (Or.inl rfl) (pe_op op_sub (pv 1) (pe_callB call_len_seq (by rfl) T.len PySem.boot_len (pa_cons (pv 2) pa_nil))))
      (pss_cons (ps_if (pt_cmpR op_le (pv 3) pe_int (nomark _)) (pss_one (ps_ret (pv 2))) pss_nil)
      (pss_cons (ps_if (pt_val (pe_call GN hr1 rfl mN kN bN .nil pass0 (pa_cons (pv 0) pa_nil))) (pss_one (ps_ret (pe_op op_cat (pv 2) (pe_op op_rep (pe_lst (pa_cons pe_non pa_nil)) (pv 3))))) pss_nil)
      (pss_cons (ps_if (pt_cmpR op_gt (pv 3) (pe_glob (v := .int 12) rfl mF ⟨_, rfl⟩) (nomark _)) (pss_one (ps_ret (pe_op op_cat (pv 2) (pe_call GB hr rfl mB kB bB .nil pass0 (pa_cons (pv 0) (pa_cons (pv 3) pa_nil)))))) pss_nil)
      (pss_cons (ps_set (i := 4) scFirst.nd rfl (Or.inl rfl) (pe_fld (pv 0) rfl))
      (C8.pss_cut (ps_while PassesOwn.never (pt_cmpR op_lt (pe_callB call_len_seq (by rfl) T.len PySem.boot_len (pa_cons (pv 2) pa_nil)) (pv 1) (nomark _))
          (pss_one (ps_expr (pe_bm PySem.F.plainAttrs_list PySem.F.slot_list_append PySem.F.type_list_append mt_append (pv 2) (pa_cons (pe_op op_add (pe_ix ix_list (pv 2) (pe_op op_sub (pe_callB call_len_seq (by rfl) T.len PySem.boot_len (pa_cons (pv 2) pa_nil)) (pv 4)) (fun _ _ => rfl)) (pe_fld (pv 0) rfl)) pa_nil)))))
      (pss_one (ps_ret (pv 2))))))))), ?_⟩
    refine ⟨fun σ H' => ∃ z, σ = [some (.ref x), some (.int n), some (.ref z), none, none] ∧ H z = none ∧ H' z = some (.lst ((List.range (min n v.length)).map F)) ∧ Same H H', ?_, ?_⟩
    · refine ⟨_, rfl, x, C, dx, _, .ref t, rfl, h1, U.cl, U.nS, rfl, _, rfl, _, rfl, t, v, rfl, SqT.of h2, ?_, ?_⟩
      · rintro ⟨_, e⟩
        have e' : min n v.length = v.length := by
          unfold HT.sIx at e
          dsimp only at e
          rw [if_neg (by omega), Int.toNat_natCast] at e
          exact e
        refine ⟨t, v, rfl, .inr (SqT.of h2), fun z hz => ⟨z, rfl, hz, ?_, same_new hz⟩⟩
        have tk := R.take (n := n)
        rw [List.take_of_length_le (by omega)] at tk
        rw [← tk]
        exact upd_same
      · intro _ q hq
        rw [cutR', R.take]
        generalize g3 : upd H q _ = H1
        obtain ⟨s1, f1⟩ := alloc g3 hq
        exact ⟨q, _, rfl, .inr (SqT.of f1), fun z hz => ⟨z, rfl, s1.free hz, upd_same, Same.trans s1 (same_new hz)⟩⟩
    rintro σ H1 ⟨z, rfl, hz, h3, s1⟩
    have lr : ((List.range (min n v.length)).map F).length = min n v.length := by rw [List.length_map, List.length_range]
    refine ⟨fun σ H' => σ = [some (.ref x), some (.int n), some (.ref z), some (.int ((n - min n v.length : Nat) : Int)), none] ∧ H' = H1, ?_, ?_⟩
    · refine ⟨_, rfl, _, rfl, z, _, rfl, .inl (SqL.of h3), _, _, rfl, rfl, ?_, rfl⟩
      show [_, _, _, some (V.int ((n : Int) - (((List.range (min n v.length)).map F).length : Int))), _] = _
      rw [lr, show (n : Int) - ((min n v.length : Nat) : Int) = ((n - min n v.length : Nat) : Int) by omega]
    rintro σ H0 ⟨rfl, rfl⟩
    have cu1 := cu.same s1
    have gl : v[v.length - 1]? = some (F (v.length - 1)) := R.get (by omega)
    by_cases c0 : n ≤ v.length
    · refine ⟨_, rfl, _, _, rfl, rfl, true, bT (by omega), iteT ⟨_, rfl, ?_⟩⟩
      rw [Nat.min_eq_left c0] at h3
      exact k z _ hz h3 s1
    have mn : min n v.length = v.length := by omega
    rw [mn] at h3 lr ⊢
    refine ⟨_, rfl, _, _, rfl, rfl, false, bF (by omega), iteF ?_⟩
    refine ⟨_, rfl, x, v, _, _, _, rfl, cu1, gl, ?_⟩
    cases R with
    | mkN s k' p g =>
      have lx : (s.map V.int ++ List.replicate (k' + 1) V.non).length = s.length + (k' + 1) := by rw [List.length_append, List.length_map, List.length_replicate]
      refine ⟨true, ?_, iteT ?_⟩
      · have : FN s ((s.map V.int ++ List.replicate (k' + 1) V.non).length - 1) = .non := by
          unfold FN
          rw [if_neg (by rw [lx]; omega)]
        exact bT this
      refine ⟨_, rfl, (by show 1 ≤ sizeLine; decide), fun u hu => ?_⟩
      generalize g4 : upd H0 u _ = H2
      obtain ⟨s2, f2⟩ := alloc g4 hu
      have h3' := s2 _ _ h3
      refine ⟨_, rfl, u, _, [.non], rfl, rfl, f2, by omega, by omega, ?_, fun y hy => ?_⟩
      · show 1 * _ ≤ sizeLine
        exact line_of (by omega)
      rw [rep_flat, Int.toNat_natCast]
      generalize g5 : upd H2 y _ = H3
      obtain ⟨s3, f3⟩ := alloc g5 hy
      refine ⟨z, y, _, _, rfl, rfl, s3 _ _ h3', f3, ?_, fun o ho => ?_⟩
      · rw [lr, List.length_replicate]
        exact line_of (by omega)
      have e : (List.range (s.map V.int ++ List.replicate (k' + 1) V.non).length).map (FN s) ++ List.replicate (n - (s.map V.int ++ List.replicate (k' + 1) V.non).length) V.non = (List.range n).map (FN s) := by
        refine List.ext_getElem? fun i => ?_
        by_cases c : i < (s.map V.int ++ List.replicate (k' + 1) V.non).length
        · rw [List.getElem?_append_left (by rw [lr]; exact c), List.getElem?_map, List.getElem?_map, List.getElem?_range c, List.getElem?_range (by omega)]
        · rw [List.getElem?_append_right (by rw [lr]; omega), lr, List.getElem?_replicate, List.getElem?_map]
          by_cases c2 : i < n
          · rw [if_pos (by omega), List.getElem?_range c2]
            have : FN s i = .non := by
              unfold FN
              rw [if_neg (by rw [lx] at c; omega)]
            rw [Option.map_some, this]
          · rw [if_neg (by omega), List.getElem?_eq_none (by rw [List.length_range]; omega)]
            rfl
      rw [e]
      have ss := Same.trans s1 (Same.trans s2 s3)
      exact k o _ (ss.free ho) upd_same (Same.trans ss (same_new ho))
    | mkI s p g p0 pn pb =>
      have QP := MF.at_qp (s := s) (g := g) p0 pn
      rw [List.length_map] at v0 v4 lr c0 mn
      rw [List.length_map] at h3 ⊢
      refine ⟨false, bF (by intro z; cases z), iteF ?_⟩
      have sp : (List.range n).map (fun j => V.int (MF.at_ s p g j)) = (List.range s.length).map (fun j => V.int (MF.at_ s p g j)) ++ (beh s p g (n - s.length)).map V.int := by
        unfold beh
        rw [show n = s.length + (n - s.length) by omega, List.range_add, List.map_append, List.map_map, List.map_map]
        rw [show s.length + (n - s.length) - s.length = n - s.length by omega]
        rfl
      by_cases c3 : 12 < n - s.length
      · refine ⟨_, rfl, _, _, rfl, rfl, true, bT (by omega), iteT ?_⟩
        refine ⟨_, rfl, _, rfl, _, rfl, x, s, p, n - s.length, g, rfl, cu1, p0, pn, v4, by omega, by omega, CM.g0, CM.g1, fun z hz => CM.bd z (List.mem_map.mpr ⟨z, hz, rfl⟩), CM.gp, fun y H2 hy f2 s2 => ?_⟩
        refine ⟨z, y, _, _, rfl, rfl, s2 _ _ h3, f2, (by rw [List.length_map, List.length_range, List.length_map, beh_len]; exact line_of (by omega)), fun o ho => ?_⟩
        rw [← sp]
        exact k o _ (s1.free (s2.free ho)) upd_same (Same.trans s1 (Same.trans s2 (same_new ho)))
      refine ⟨_, rfl, _, _, rfl, rfl, false, bF (by omega), iteF ?_⟩
      refine ⟨_, rfl, x, C, dx, _, .int p, rfl, s1 _ _ h1, U.cl, U.nP, rfl, ?_⟩
      refine ⟨fun σ H' => σ = [some (.ref x), some (.int n), some (.ref z), some (.int ((n - s.length : Nat) : Int)), some (.int p)] ∧ H' z = some (.lst ((List.range n).map fun j => V.int (MF.at_ s p g j))) ∧ Same H H', ?_, ?_⟩
      · refine while_by (fun σ H' => ∃ c : Nat, σ = [some (.ref x), some (.int n), some (.ref z), some (.int ((n - s.length : Nat) : Int)), some (.int p)] ∧ H' z = some (.lst ((List.range c).map fun j => V.int (MF.at_ s p g j))) ∧ c ≤ n ∧ (c < n → s.length ≤ c) ∧ Same H H')
          (fun _ H' => match H' z with
            | some (.lst l) => n - l.length
            | _ => 0) ⟨s.length, rfl, h3, by omega, fun c => by omega, s1⟩ ?_ ?_
        · rintro σ H2 ⟨c, rfl, hz2, cn, cs, s2⟩
          have lc : ((List.range c).map fun j => V.int (MF.at_ s p g j)).length = c := by rw [List.length_map, List.length_range]
          by_cases c1 : c < n
          · have cs' := cs c1
            have q := QP (c - p) (by omega)
            rw [show c - p + p = c by omega] at q
            refine ⟨_, rfl, z, _, rfl, .inl (SqL.of hz2), _, rfl, _, _, rfl, rfl, true, bT (by rw [lc]; omega), iteT ?_⟩
            refine ⟨_, rfl, .inl ⟨rfl, _, SqL.of hz2⟩, _, rfl, _, rfl, z, _, rfl, .inl (SqL.of hz2), _, rfl, _, _, rfl, rfl, z, _, _, .int (MF.at_ s p g (c - p)), rfl, rfl, SqL.of hz2, ?_, _, rfl, x, C, dx, _, .int g, rfl, s2 _ _ h1, U.cl, U.nG, rfl, _, _, rfl, rfl, z, _, _, rfl, rfl, hz2, by rw [lc]; exact line_of' (by omega), ?_⟩
            · rw [lc, show (c : Int) - (p : Int) = ((c - p : Nat) : Int) by omega]
              refine atI_nat ?_
              rw [List.getElem?_map, List.getElem?_range (by omega)]
              rfl
            · have e : (List.range c).map (fun j => V.int (MF.at_ s p g j)) ++ [V.int (MF.at_ s p g (c - p) + g)] = (List.range (c + 1)).map fun j => V.int (MF.at_ s p g j) := by
                rw [List.range_succ, List.map_append, ← q]
                rfl
              refine ⟨⟨c + 1, rfl, by rw [← e]; exact upd_same, by omega, fun _ => by omega, fun b o h => by rw [upd_ne (ne_of_none h hz)]; exact s2 _ _ h⟩, ?_⟩
              rw [hz2, upd_same]
              show n - ((List.range c).map (fun j => V.int (MF.at_ s p g j)) ++ [V.int (MF.at_ s p g (c - p) + g)]).length < n - ((List.range c).map fun j => V.int (MF.at_ s p g j)).length
              rw [e, lc, List.length_map, List.length_range]
              omega
          · refine ⟨_, rfl, z, _, rfl, .inl (SqL.of hz2), _, rfl, _, _, rfl, rfl, false, bF (by rw [lc]; omega), iteF ⟨rfl, ?_, s2⟩⟩
            rw [show n = c by omega]
            exact hz2
        · intro σ H Q Q' m h
          obtain ⟨w1, f1, w2, w3, f2, f3, w4, f4, i, j, f5, f6, b, eb, hQ⟩ := h
          exact ⟨w1, f1, w2, w3, f2, f3, w4, f4, i, j, f5, f6, b, eb, m _ _ hQ⟩
      · rintro σ H2 ⟨rfl, hz2, s2⟩
        exact ⟨_, rfl, k z H2 hz hz2 s2⟩
/-- what Curve(..) makes -/
theorem calm_of {xs vals : List V} {p : Nat} {g q r : Int} (M : MakeOk xs p g) (fv : FormV xs p g vals q r) : ∃ q' : Nat, q = q' ∧ Calm vals q' r := by
  have ok : ∀ (z : Int), V.int z ∈ xs → 0 ≤ z ∧ z ≤ 1000000000 := fun z hz => by
    obtain ⟨n, hn⟩ := List.getElem?_of_mem hz
    rcases M.st.el n _ hn with e | ⟨i, e, q1, q2⟩
    · cases e
    · cases e; exact ⟨q1, q2⟩
  cases fv with
  | mkI s p g q r b p0 pn h l =>
    obtain ⟨ex, ey, hx, hy, fa⟩ := M.fa
    have S := M.st
    have asc : s.Pairwise (· ≤ ·) := by
      obtain ⟨ns, j, e, pw, _⟩ := startOk_row S.el S.asc
      have e' : s = ns := by
        have := row_inj (ns := s) (ms := ns) (j := 0) (k := j) (by rw [List.replicate_zero, List.append_nil]; exact e)
        exact this
      rw [e']
      exact pw
    have fall : MF.at_ s p g (s.length - 1) ≤ MF.at_ s p g (s.length - p) + g := by
      have gx : atI (s.map V.int) (((s.map V.int).length : Int) - (p : Int)) = some (.int (MF.at_ s p g (s.length - p))) := by
        rw [List.length_map, show (s.length : Int) - (p : Int) = ((s.length - p : Nat) : Int) by omega]
        exact atI_nat (get_map (by omega))
      have gy : atI (s.map V.int) (-1) = some (.int (MF.at_ s p g (s.length - 1))) := last_get (by rw [List.length_map]; exact get_map (by omega))
      rw [gx] at hx
      rw [gy] at hy
      cases hx
      cases hy
      rcases fa with ⟨i, j, e1, e2, l⟩ | ⟨e1, _⟩
      · cases e1
        cases e2
        exact l
      · cases e1
    have mono := MF.mono_at p0 pn asc fall
    have QPf := MF.at_qp (s := s) (g := g) p0 pn
    have le := MF.form_le p0 M.g0 QPf h
    refine ⟨q, rfl, mono.rise h.qp, by have := M.g1; omega, fun z hz => ?_, fun e => ?_⟩
    · obtain ⟨j, hj, e⟩ := List.mem_map.mp hz
      have hj' := List.mem_range.mp hj
      have := ok z (by rw [← e]; exact List.mem_of_getElem? (get_map (s := s) (p := p) (g := g) (j := j) (by omega)))
      omega
    · subst e
      exact mono.flat h
  | mkN s k p g =>
    refine ⟨1, rfl, by omega, by omega, fun z hz => ?_, fun _ => rfl⟩
    rcases List.mem_append.mp hz with h | h
    · have := ok z (List.mem_append.mpr (.inl h))
      omega
    · cases List.mem_singleton.mp h
end
end WW
end

section
set_option Elab.async false
set_option linter.all false
set_option maxRecDepth 100000
set_option maxHeartbeats 4000000
namespace WW
open PySem L2 WO WG RZ WQ WT
/-! ### curves as functions of their beats -/
/-- the least form of L -/
inductive FormG : (Nat → V) → List V → Nat → Int → Prop
  | mkI (f : Nat → Int) (q : Nat) (r : Int) (b : Nat) (h : MF.IsForm f q r b) : FormG (fun j => .int (f j)) ((List.range (b + q)).map fun j => V.int (f j)) q r
  | mkN (s : List Int) : FormG (FN s) (s.map V.int ++ [.non]) 1 0
theorem fn_low {s : List Int} {j : Nat} (h : j < s.length) : FN s j = .int (s.getD j 0) := by unfold FN; rw [if_pos h]
theorem fn_high {s : List Int} {j : Nat} (h : s.length ≤ j) : FN s j = .non := by unfold FN; rw [if_neg (by omega)]
theorem fn_inj {s t : List Int} (h : ∀ j, FN s j = FN t j) : s = t := by
  have key : ∀ {s t : List Int}, (∀ j, FN s j = FN t j) → s.length ≤ t.length := fun {s t} h => by
    rcases Nat.lt_or_ge t.length s.length with q | q
    · have e := h t.length
      rw [fn_low q, fn_high (Nat.le_refl _)] at e
      cases e
    · exact q
  have l := Nat.le_antisymm (key h) (key fun j => (h j).symm)
  refine List.ext_getElem l fun i h1 h2 => ?_
  have e := h i
  rw [fn_low h1, fn_low h2] at e
  have e2 := V.int.inj e
  rw [List.getD_eq_getElem?_getD, List.getD_eq_getElem?_getD, List.getElem?_eq_getElem h1, List.getElem?_eq_getElem h2] at e2
  exact e2
theorem FormG.cases' {L : Nat → V} {v : List V} {q : Nat} {r : Int} (h : FormG L v q r) :
    (∃ (f : Nat → Int) (b : Nat), (∀ j, L j = .int (f j)) ∧ MF.IsForm f q r b ∧ v = (List.range (b + q)).map fun j => V.int (f j)) ∨ (∃ s : List Int, (∀ j, L j = FN s j) ∧ v = s.map V.int ++ [.non] ∧ q = 1 ∧ r = 0) := by
  cases h with
  | mkI f q r b h => exact .inl ⟨f, b, fun _ => rfl, h, rfl⟩
  | mkN s => exact .inr ⟨s, fun _ => rfl, rfl, rfl, rfl⟩
theorem FormG.uniq {L : Nat → V} {v v' : List V} {q q' : Nat} {r r' : Int} (h : FormG L v q r) (h' : FormG L v' q' r') : v = v' ∧ q = q' ∧ r = r' := by
  rcases h.cases' with ⟨f, b, e, hf, rfl⟩ | ⟨s, e, rfl, rfl, rfl⟩ <;> rcases h'.cases' with ⟨f', b', e', hf', rfl⟩ | ⟨s', e', rfl, rfl, rfl⟩
  · have ff : ∀ j, f j = f' j := fun j => V.int.inj ((e j).symm.trans (e' j))
    obtain ⟨rfl, rfl, rfl⟩ := (hf.same ff).uniq hf'
    have : f = f' := funext ff
    rw [this]
    exact ⟨rfl, rfl, rfl⟩
  · have z := (e s'.length).symm.trans (e' s'.length)
    rw [fn_high (Nat.le_refl _)] at z
    cases z
  · have z := (e' s.length).symm.trans (e s.length)
    rw [fn_high (Nat.le_refl _)] at z
    cases z
  · have := fn_inj fun j => (e j).symm.trans (e' j)
    rw [this]
    exact ⟨rfl, rfl, rfl⟩
theorem FormG.flat {L : Nat → V} {v : List V} {q : Nat} {r : Int} (h : FormG L v q r) : FlatR v := by
  rcases h.cases' with ⟨f, b, e, hf, rfl⟩ | ⟨s, e, rfl, rfl, rfl⟩
  · intro x hx
    obtain ⟨j, _, rfl⟩ := List.mem_map.mp hx
    exact .inr ⟨_, rfl⟩
  · intro x hx
    rcases List.mem_append.mp hx with hx | hx
    · obtain ⟨z, _, rfl⟩ := List.mem_map.mp hx
      exact .inr ⟨_, rfl⟩
    · exact .inl (List.mem_singleton.mp hx)
theorem FormG.len {L : Nat → V} {v : List V} {q : Nat} {r : Int} (h : FormG L v q r) : 0 < q ∧ q ≤ v.length := by
  rcases h.cases' with ⟨f, b, e, hf, rfl⟩ | ⟨s, e, rfl, rfl, rfl⟩
  · rw [List.length_map, List.length_range]
    have := hf.pos
    omega
  · rw [List.length_append]
    show 0 < 1 ∧ 1 ≤ _ + 1
    omega
theorem row_int {f : Nat → Int} {n p : Nat} {g : Int} (p0 : 0 < p) (pn : p ≤ n) (pb : p ≤ 1000000) (h : MF.QP f p g (n - p)) : RowF ((List.range n).map fun j => V.int (f j)) p g (fun j => .int (f j)) := by
  have e1 : ((List.range n).map fun j => V.int (f j)) = ((List.range n).map f).map V.int := by rw [List.map_map]; rfl
  have ls : ((List.range n).map f).length = n := by simp
  have e2 : (fun j => V.int (f j)) = fun j => V.int (MF.at_ ((List.range n).map f) p g j) := by
    funext j
    congr 1
    have Q2 := MF.at_qp (s := (List.range n).map f) (g := g) p0 (by rw [ls]; omega)
    rw [ls] at Q2
    refine MF.QP.ext p0 h Q2 (fun j hj => ?_) j
    rw [MF.at_low (s := (List.range n).map f) (by rw [ls]; omega), List.getD_eq_getElem?_getD, List.getElem?_map, List.getElem?_range (by omega)]
    rfl
  rw [e1, e2]
  exact .mkI _ p g p0 (by rw [ls]; omega) pb
theorem range_fn {s : List Int} {n : Nat} (h : s.length ≤ n) : (List.range n).map (FN s) = s.map V.int ++ List.replicate (n - s.length) V.non := by
  refine List.ext_getElem? fun i => ?_
  rw [List.getElem?_map]
  by_cases c : i < s.length
  · rw [List.getElem?_range (by omega), List.getElem?_append_left (by rw [List.length_map]; exact c), List.getElem?_map, List.getElem?_eq_getElem c, Option.map_some, Option.map_some, fn_low c, List.getD_eq_getElem?_getD, List.getElem?_eq_getElem c]
    rfl
  · rw [List.getElem?_append_right (by rw [List.length_map]; omega), List.length_map, List.getElem?_replicate]
    by_cases c2 : i < n
    · rw [List.getElem?_range c2, Option.map_some, fn_high (by omega), if_pos (by omega)]
    · rw [List.getElem?_eq_none (by rw [List.length_range]; omega), if_neg (by omega)]
      rfl
theorem row_non {s : List Int} {n p : Nat} {g : Int} (h : s.length < n) : RowF ((List.range n).map (FN s)) p g (FN s) := by
  rw [range_fn (Nat.le_of_lt h), show n - s.length = n - s.length - 1 + 1 by omega]
  exact .mkN s _ p g
theorem in_int {f : Nat → Int} {n p : Nat} {g : Int} (p0 : 0 < p) (pn : p ≤ n) (n4 : n ≤ 100000) (g0 : 0 ≤ g) (g1 : g ≤ 1000000000000000000) : FormIn ((List.range n).map fun j => V.int (f j)) p g := by
  have e1 : ((List.range n).map fun j => V.int (f j)) = ((List.range n).map f).map V.int := by rw [List.map_map]; rfl
  rw [e1]
  exact .mkI _ p g p0 (by simpa using pn) (by simpa using n4) g0 g1
theorem in_non {s : List Int} {n p : Nat} {g : Int} (h : s.length < n) (n4 : n ≤ 100000) : FormIn ((List.range n).map (FN s)) p g := by
  rw [range_fn (Nat.le_of_lt h), show n - s.length = n - s.length - 1 + 1 by omega]
  exact .mkN s _ p g (by omega)
/-- the least form of a row's function -/
theorem form_g {xs v : List V} {p : Nat} {g q r : Int} {L : Nat → V} (h : FormV xs p g v q r) (R : RowF xs p g L) : ∃ q' : Nat, q = q' ∧ FormG L v q' r := by
  cases h with
  | mkI s p g q r b p0 pn hf l =>
    generalize hx : s.map V.int = ys at R
    cases R with
    | mkI s2 p g p02 pn2 pb =>
      have e : s = s2 := (List.map_inj_right fun a b h => V.int.inj h).mp hx
      subst e
      exact ⟨q, rfl, .mkI _ q r b hf⟩
    | mkN s2 k p g =>
      have hm : V.non ∈ s.map V.int := by rw [hx]; simp
      obtain ⟨z, _, e⟩ := List.mem_map.mp hm
      cases e
  | mkN s k p g =>
    generalize hx : s.map V.int ++ List.replicate (k + 1) V.non = ys at R
    cases R with
    | mkI s2 p g p02 pn2 pb =>
      have hm : V.non ∈ s2.map V.int := by rw [← hx]; simp
      obtain ⟨z, _, e⟩ := List.mem_map.mp hm
      cases e
    | mkN s2 k2 p g =>
      have e := row_inj hx
      subst e
      exact ⟨1, rfl, .mkN s⟩
theorem formV_len {xs v : List V} {p : Nat} {g q r : Int} (h : FormV xs p g v q r) : v.length ≤ xs.length := by
  cases h with
  | mkI s p g q r b p0 pn hf l => rw [List.length_map, List.length_range, List.length_map]; exact l
  | mkN s k p g => rw [List.length_append, List.length_append, List.length_replicate]; show _ + 1 ≤ _; omega
theorem FormG.rowF {L : Nat → V} {v : List V} {q : Nat} {r : Int} (h : FormG L v q r) (hq : q ≤ 1000000) : RowF v q r L := by
  cases h with
  | mkI f q r b h => exact row_int h.pos (by omega) hq (by rw [Nat.add_sub_cancel]; exact h.qp)
  | mkN s =>
    have e := range_fn (s := s) (n := s.length + 1) (by omega)
    rw [show s.length + 1 - s.length = 1 by omega] at e
    have e2 : s.map V.int ++ [V.non] = (List.range (s.length + 1)).map (FN s) := e.symm
    rw [e2]
    exact row_non (by omega)
/-- each row has a least form -/
theorem form_ex {xs : List V} {p : Nat} {g : Int} (fi : FormIn xs p g) : ∃ (v : List V) (q r : Int), FormV xs p g v q r := by
  cases fi with
  | mkI s p g p0 pn n4 g0 g1 =>
    have QPf := MF.at_qp (s := s) (g := g) p0 pn
    -- the least right step
    obtain ⟨q, q0, qp, qA, qm⟩ : ∃ q, 0 < q ∧ q ≤ p ∧ MF.A (MF.at_ s p g) (s.length - p) p q ∧ ∀ t, 0 < t → t < q → ¬ MF.A (MF.at_ s p g) (s.length - p) p t := by
      have key : ∀ n : Nat, (∃ q, 0 < q ∧ q ≤ p ∧ q < n ∧ MF.A (MF.at_ s p g) (s.length - p) p q ∧ ∀ t, 0 < t → t < q → ¬ MF.A (MF.at_ s p g) (s.length - p) p t) ∨ ∀ t, 0 < t → t < n → t ≤ p → ¬ MF.A (MF.at_ s p g) (s.length - p) p t := by
        intro n
        induction n with
        | zero => exact .inr fun t _ h => absurd h (Nat.not_lt_zero t)
        | succ n ih =>
          rcases ih with ⟨q, h1, h2, h3, h4, h5⟩ | h
          · exact .inl ⟨q, h1, h2, by omega, h4, h5⟩
          · by_cases c : 0 < n ∧ n ≤ p ∧ MF.A (MF.at_ s p g) (s.length - p) p n
            · exact .inl ⟨n, c.1, c.2.1, by omega, c.2.2, fun t h1 h2 => h t h1 h2 (by omega)⟩
            · refine .inr fun t h1 h2 h3 => ?_
              by_cases e : t = n
              · subst e
                exact fun z => c ⟨h1, h3, z⟩
              · exact h t h1 (by omega) h3
      rcases key (p + 1) with ⟨q, h1, h2, h3, h4, h5⟩ | h
      · exact ⟨q, h1, h2, h4, h5⟩
      · exact absurd MF.A.self (h p p0 (by omega) (Nat.le_refl _))
    have IF := MF.form_of p0 QPf q0 qp qA qm
    refine ⟨_, _, _, .mkI s p g q _ _ p0 pn IF ?_⟩
    have := MF.down_le (fun j => decide (MF.at_ s p g (j + q) = MF.at_ s p g j + (MF.at_ s p g (s.length - p + q) - MF.at_ s p g (s.length - p)))) (s.length - p)
    omega
  | mkN s k p g n4 => exact ⟨_, _, _, .mkN s k p g⟩
/-- the ends of a right row and of its form -/
theorem form_last {xs v : List V} {p : Nat} {g q r : Int} (M : MakeOk xs p g) (fv : FormV xs p g v q r) : ∃ qn rn : Nat, q = qn ∧ r = rn ∧ 0 < qn ∧ qn ≤ p ∧ rn ≤ 1000000000 ∧
    ((∃ i i' : Int, xs[xs.length - 1]? = some (.int i) ∧ v[v.length - 1]? = some (.int i')) ∨ (xs[xs.length - 1]? = some .non ∧ v[v.length - 1]? = some .non ∧ qn = 1 ∧ rn = 0)) := by
  obtain ⟨qn, rfl, CM⟩ := calm_of M fv
  obtain ⟨rn, hr⟩ : ∃ rn : Nat, r = rn := ⟨r.toNat, by have := CM.g0; omega⟩
  have M1 := M.p1
  have M3 := M.p3
  have M0 := M.g0
  cases fv with
  | mkI s p g q r b p0 pn hf l =>
    have QPf := MF.at_qp (s := s) (g := g) p0 pn
    have le := MF.form_le p0 M0 QPf hf
    have pos := hf.pos
    refine ⟨qn, rn, rfl, hr, pos, le.2, by have := M.g1; omega, .inl ⟨MF.at_ s p g (s.length - 1), MF.at_ s p g (b + qn - 1), ?_, ?_⟩⟩
    · rw [List.length_map]
      exact get_map (by omega)
    · rw [List.length_map, List.length_range, List.getElem?_map, List.getElem?_range (by omega)]
      rfl
  | mkN s k p g =>
    refine ⟨1, rn, rfl, hr, by omega, M1, by omega, .inr ⟨?_, ?_, rfl, by omega⟩⟩
    · rw [List.length_append, List.length_map, List.length_replicate]
      exact nones_get _ (by omega) (by omega)
    · rw [List.length_append, List.length_map, List.getElem?_append_right (by rw [List.length_map]; show _ ≤ _ + 1 - 1; omega), List.length_map]
      show ([V.non] : List V)[s.length + 1 - 1 - s.length]? = _
      rw [show s.length + 1 - 1 - s.length = 0 by omega]
      rfl
/-- x is a curve, that of L -/
def IsCur (H : Hp) (C x : Addr) (L : Nat → V) : Prop := ∃ (v : List V) (q : Nat) (r : Int), CurveAt H C x v q r ∧ FormG L v q r
theorem IsCur.same {H H' : Hp} {C x : Addr} {L : Nat → V} (h : IsCur H C x L) (s : Same H H') : IsCur H' C x L := by
  obtain ⟨v, q, r, h1, h2⟩ := h
  exact ⟨v, q, r, h1.same s, h2⟩
end WW
end

section
set_option Elab.async false
set_option linter.all false
set_option maxRecDepth 100000
set_option maxHeartbeats 4000000
namespace WW
open PySem L2 WO WG RZ WQ WT
/-! ### texts of rows and forms fit -/
def SmallI (i : Int) : Prop := i.natAbs < 2 ^ 64
def SmallV (v : V) : Prop := v = .non ∨ ∃ i : Int, v = .int i ∧ SmallI i
theorem small_log {i : Int} (h : SmallI i) : i.natAbs.log2 < 64 := by
  rcases Nat.eq_zero_or_pos i.natAbs with z | z
  · rw [z]; decide
  · exact (Nat.log2_lt (by omega)).mpr h
theorem small_text {i : Int} (h : SmallI i) : (Str.ofString (toString i)).length ≤ 65 := by
  rw [ofString_length]
  exact int_text_length_le (by decide) (small_log h)
theorem shown_small {v : V} (h : SmallV v) : (PyData.shown (vD v)).length ≤ 65 ∧ (vD v).showable = true ∧ (vD v).hasDict = false := by
  rcases h with rfl | ⟨i, rfl, hi⟩
  · refine ⟨?_, ?_, ?_⟩
    · show (PyData.shown .none).length ≤ 65
      rw [PyData.shown.eq_1]
      decide
    · simp [vD, PyData.showable]
    · simp [vD, PyData.hasDict]
  · refine ⟨?_, ?_, ?_⟩
    · have e : PyData.shown (vD (.int i)) = Str.ofString (toString i) := by simp [vD, PyData.shown]
      rw [e]
      exact small_text hi
    · simp only [vD, PyData.showable, decide_eq_true_eq]
      have := small_log hi
      omega
    · simp [vD, PyData.hasDict]
theorem shownAll_small : ∀ vs : List V, (∀ v ∈ vs, SmallV v) → (∀ t ∈ PyData.shownAll (vs.map vD), t.length ≤ 65) ∧ (PyData.shownAll (vs.map vD)).length = vs.length ∧ PyData.showableAll (vs.map vD) = true ∧ PyData.hasDictAll (vs.map vD) = false
  | [], _ => by simp [PyData.shownAll, PyData.showableAll, PyData.hasDictAll]
  | v :: r, h => by
    obtain ⟨h1, h2, h3⟩ := shown_small (h v (List.mem_cons_self ..))
    obtain ⟨i1, i2, i3, i4⟩ := shownAll_small r fun x hx => h x (List.mem_cons_of_mem _ hx)
    simp only [List.map_cons, PyData.shownAll, PyData.showableAll, PyData.hasDictAll, List.length_cons]
    refine ⟨fun t ht => ?_, by rw [i2], by rw [h2, i3]; rfl, by rw [h3, i4]; rfl⟩
    rcases List.mem_cons.mp ht with rfl | ht
    · exact h1
    · exact i1 t ht
theorem join_len (sep : Str) : ∀ ts : List Str, (∀ t ∈ ts, t.length ≤ 65) → (Str.join sep ts).length ≤ ts.length * (65 + sep.length)
  | [], _ => by rw [Str.join.eq_1]; exact Nat.zero_le _
  | [a], h => by
    rw [Str.join.eq_2]
    have := h a (List.mem_cons_self ..)
    simp only [List.length_cons, List.length_nil]
    omega
  | a :: b :: r, h => by
    rw [Str.join.eq_3 _ _ _ (by intro z; cases z), Str.length_append, Str.length_append]
    have h1 := h a (List.mem_cons_self ..)
    have h2 := join_len sep (b :: r) fun t ht => h t (List.mem_cons_of_mem _ ht)
    rw [List.length_cons (a := a), Nat.succ_mul]
    omega
theorem tuple_len {ts : List Str} {n : Nat} (h : (Str.join (Str.ofString ", ") ts).length ≤ n) : (tupleText ts).length ≤ n + 3 := by
  unfold tupleText
  rw [Str.length_append, Str.length_append]
  have h1 : (Str.ofString "(").length = 1 := by decide
  have h2 : (Str.ofString (if (ts.length == 1) = true then ",)" else ")")).length ≤ 2 := by
    split
    · decide
    · decide
  omega
theorem text_len : ∀ (ts : List Str) (k : Nat) (acc : Str), (∀ t ∈ ts, t.length ≤ 65) → (textFrom k acc ts).length ≤ acc.length + 67 * ts.length
  | [], k, acc, _ => Nat.le_refl _
  | t :: r, k, acc, h => by
    have ih := text_len r (k + 1) (acc ++ (if k > 0 then ", " else "" : String) ++ t) fun x hx => h x (List.mem_cons_of_mem _ hx)
    have ht := h t (List.mem_cons_self ..)
    have hs : (Str.ofString (if k > 0 then ", " else "" : String)).length ≤ 2 := by
      split
      · decide
      · decide
    rw [Str.length_append, Str.length_append] at ih
    rw [List.length_cons]
    show (textFrom (k + 1) (acc ++ (if k > 0 then ", " else "" : String) ++ t) r).length ≤ _
    omega
theorem big_line {n : Nat} (h : n ≤ 16000000) : n ≤ sizeLine := Nat.le_trans h (by decide)
structure GoodD (d : PyData) : Prop where
  sh : d.showable = true
  dp : d.depth ≤ 60
  le : d.shown.length ≤ sizeLine
  hd : d.hasDict = false
theorem good_list {v : List V} (h : ∀ x ∈ v, SmallV x) (l : v.length ≤ 200000) : GoodD (.list (v.map vD)) := by
  obtain ⟨i1, i2, i3, i4⟩ := shownAll_small v h
  refine ⟨?_, ?_, ?_, ?_⟩
  · simp only [PyData.showable, i3]
  · simp [PyData.depth, depth_row]
  · have e : (PyData.list (v.map vD)).shown = listText (PyData.shownAll (v.map vD)) := by simp [PyData.shown]
    rw [e]
    unfold listText
    rw [Str.length_append]
    have q := text_len (PyData.shownAll (v.map vD)) 0 "[" i1
    have c1 : (Str.ofString "[").length = 1 := by decide
    have c2 : (Str.ofString "]").length = 1 := by decide
    rw [i2, c1] at q
    exact big_line (by omega)
  · simp only [PyData.hasDict, i4]
theorem good_tup {v : List V} (h : ∀ x ∈ v, SmallV x) (l : v.length ≤ 200000) : GoodD (.tuple (v.map vD)) := by
  obtain ⟨i1, i2, i3, i4⟩ := shownAll_small v h
  refine ⟨?_, ?_, ?_, ?_⟩
  · simp only [PyData.showable, i3]
  · simp [PyData.depth, depth_row]
  · have e : (PyData.tuple (v.map vD)).shown = tupleText (PyData.shownAll (v.map vD)) := by simp [PyData.shown]
    rw [e]
    have l1 : (tupleText (PyData.shownAll (v.map vD))).length ≤ v.length * 67 + 3 := by
      refine tuple_len (Nat.le_trans (join_len _ _ i1) ?_)
      rw [i2]
      have : (Str.ofString ", ").length = 2 := by decide
      rw [this]
      omega
    exact big_line (by omega)
  · simp only [PyData.hasDict, i4]
structure GoodC (v : List V) (q r : Int) : Prop where
  sh : (curD v q r).showable = true
  dp : (curD v q r).depth ≤ 60
  le : (curD v q r).shown.length ≤ sizeLine
  hd : (curD v q r).hasDict = false
theorem good_of {v : List V} {q r : Int} (h : ∀ x ∈ v, SmallV x) (l : v.length ≤ 200000) (hq : SmallI q) (hr : SmallI r) : GoodC v q r := by
  obtain ⟨i1, i2, i3, i4⟩ := shownAll_small v h
  obtain ⟨a1, a2, a3⟩ := shown_small (.inr ⟨q, rfl, hq⟩ : SmallV (.int q))
  obtain ⟨b1, b2, b3⟩ := shown_small (.inr ⟨r, rfl, hr⟩ : SmallV (.int r))
  refine ⟨?_, ?_, ?_, ?_⟩
  · simp only [curD, PyData.showable, PyData.showableAll, i3]
    simp only [vD, PyData.showable] at a2 b2
    rw [a2, b2]
    rfl
  · simp [curD, PyData.depth, PyData.depthAll, depth_row]
  · have e : (curD v q r).shown = tupleText [tupleText (PyData.shownAll (v.map vD)), PyData.shown (.int q), PyData.shown (.int r)] := by
      simp [curD, PyData.shown, PyData.shownAll]
    rw [e]
    have l1 : (tupleText (PyData.shownAll (v.map vD))).length ≤ v.length * 67 + 3 := by
      refine tuple_len (Nat.le_trans (join_len _ _ i1) ?_)
      rw [i2]
      have : (Str.ofString ", ").length = 2 := by decide
      rw [this]
      omega
    have l2 : (tupleText [tupleText (PyData.shownAll (v.map vD)), PyData.shown (.int q), PyData.shown (.int r)]).length ≤ v.length * 67 + 3 + 150 + 3 := by
      refine tuple_len ?_
      rw [Str.join.eq_3 _ _ _ (by intro z; cases z), Str.join.eq_3 _ _ _ (by intro z; cases z), Str.join.eq_2]
      simp only [Str.length_append]
      have c : (Str.ofString ", ").length = 2 := by decide
      have a1' : (PyData.shown (.int q)).length ≤ 65 := a1
      have b1' : (PyData.shown (.int r)).length ≤ 65 := b1
      omega
    exact big_line (by omega)
  · simp only [curD, PyData.hasDict, PyData.hasDictAll, i4]
    rfl
/-- the least form of a row of such numbers -/
theorem good_form {xs v : List V} {p : Nat} {g q r : Int} {L : Nat → V} (fi : FormIn xs p g) (R : RowF xs p g L) (fv : FormV xs p g v q r) (sm : ∀ j, j < xs.length → SmallV (L j)) : GoodC v q r := by
  cases fi with
  | mkI s p g p0 pn n4 g0 g1 =>
    generalize hx : s.map V.int = ys at fv R sm
    cases fv with
    | mkI s2 p g q r b p02 pn2 hf l =>
      have e : s = s2 := (List.map_inj_right fun a b h => V.int.inj h).mp hx
      subst e
      have QPf := MF.at_qp (s := s) (g := g) p0 pn
      have le := MF.form_le p0 g0 QPf hf
      have r0 : -(g + 1) ≤ r → r ≤ g → SmallI r := fun h1 h2 => by unfold SmallI; omega
      have e1 := MF.form_rise p0 QPf hf
      have rn : 0 ≤ r := by
        have h1 : (0 : Int) ≤ (p : Int) * r := by
          rw [e1]
          exact Int.mul_nonneg (by omega) g0
        rcases Int.lt_or_le r 0 with h | h
        · have h2 : (p : Int) * r ≤ (p : Int) * -1 := Int.mul_le_mul_of_nonneg_left (by omega) (by omega)
          omega
        · exact h
      refine good_of (fun x hx2 => ?_) (by rw [List.length_map, List.length_range]; omega) (by unfold SmallI; omega) (r0 (by omega) le.1)
      obtain ⟨j, hj, rfl⟩ := List.mem_map.mp hx2
      have hj2 := List.mem_range.mp hj
      have hjl : j < (s.map V.int).length := by rw [List.length_map]; omega
      have g1 := R.get hjl
      rw [get_map (p := p) (g := g) (by omega)] at g1
      have e3 := Option.some.inj g1
      rw [e3]
      exact sm j hjl
    | mkN s2 k p g =>
      have hm : V.non ∈ s.map V.int := by rw [hx]; simp
      obtain ⟨z, _, e⟩ := List.mem_map.mp hm
      cases e
  | mkN s k p g n4 =>
    generalize hx : s.map V.int ++ List.replicate (k + 1) V.non = ys at fv R sm
    cases fv with
    | mkI s2 p g q r b p02 pn2 hf l =>
      have hm : V.non ∈ s2.map V.int := by rw [← hx]; simp
      obtain ⟨z, _, e⟩ := List.mem_map.mp hm
      cases e
    | mkN s2 k2 p g =>
      have e := row_inj hx
      subst e
      refine good_of (fun x hx2 => ?_) (by rw [List.length_append, List.length_map]; show s.length + 1 ≤ _; omega) (by unfold SmallI; decide) (by unfold SmallI; decide)
      rcases List.mem_append.mp hx2 with h | h
      · obtain ⟨z, hz, rfl⟩ := List.mem_map.mp h
        obtain ⟨j, hj⟩ := List.getElem?_of_mem hz
        have hjs := (List.getElem?_eq_some_iff.mp hj).1
        have hjl : j < (s.map V.int ++ List.replicate (k2 + 1) V.non).length := by rw [List.length_append, List.length_map]; omega
        have g1 := R.get hjl
        rw [List.getElem?_append_left (by rw [List.length_map]; exact hjs), List.getElem?_map, hj] at g1
        have e3 := Option.some.inj g1
        rw [e3]
        exact sm j hjl
      · exact .inl (List.mem_singleton.mp h)
end WW
end

section
set_option Elab.async false
set_option linter.all false
set_option maxRecDepth 100000
set_option maxHeartbeats 4000000
namespace WW
open PySem L2 WO WG RZ WQ WT
abbrev sNeedNum : Stmt := top 11
abbrev sNeedCur : Stmt := top 24
abbrev sValue : Stmt := top 31
section
variable {P : Program} {w : World} {K : PySem.W.Frag} {mg : Str → Option Value} {base : Heap}
def spNeedNum (K : PySem.W.Frag) (CN : Addr) : Sp := fun vs H Q E => ∃ (x : V) (lo hi : Int) (part : Str), vs = [x, .int lo, .int hi, .str part] ∧
  ((∃ i : Int, x = .int i ∧ lo ≤ i ∧ i ≤ hi ∧ Q .non H) ∨ (badFrom K H x lo hi ∧ ∀ d H', Raised H "part" (.str part) d H' → E (.ref CN) (some d) H'))
theorem scNeedNum : FnScope ["thing", "low", "high", "part"] ["thing", "low", "high", "part"] (defScope sNeedNum) := ⟨rfl, rfl, rfl, by decide +kernel, rfl, by decide +kernel, by decide +kernel⟩
theorem ok_needNum {f fF fI CN : Addr} {fd dF dI : FuncData} (F : Fun K "need_number" "need_number" sNeedNum f fd) (B : ErrT P w K mg base "BadNumber" "part" CN fI dI)
    (GF : FnOk P w K mg base CX0 2 fF dF ["thing", "low", "high"] (spFrom K)) (kF : PySem.W.keepIn K (.ref fF) = true) (bF : Binds K dF ["thing", "low", "high"] []) (mF : mg "is_from" = some (.ref fF)) :
    FnOk P w K mg base (L2.CX P w) 4 f fd ["thing", "low", "high", "part"] (spNeedNum K CN) := by
  refine F.okX scNeedNum (fun vs H Q E h => ?_) (fun cdv A outer s H vs Q E hr h => ?_)
  · obtain ⟨x, lo, hi, part, rfl, _⟩ := h
    rfl
  · obtain ⟨x, lo, hi, part, rfl, h⟩ := h
    have hr2 := hr.mono (show 2 ≤ 3 by decide)
    refine ⟨_, pss_one (ps_if (pt_not (pt_val (pe_call GF hr2 rfl mF kF bF .nil pass0 (pa_cons (pv 0) (pa_cons (pv 1) (pa_cons (pv 2) pa_nil))))))
        (pss_one (ps_raise rfl (takes_of rfl rfl rfl rfl) (pmk_oex B.ox B.iC B.tI B.fn hr2 B.bd .nil pass0 rfl B.gC (pa_cons (pv 3) pa_nil)))) pss_nil), ?_⟩
    rcases h with ⟨i, rfl, h1, h2, k⟩ | ⟨bad, k⟩
    · refine ⟨_, rfl, _, rfl, _, rfl, _, _, _, rfl, .inl ⟨i, lo, hi, rfl, rfl, rfl, _, rfl, ?_⟩⟩
      rw [decide_eq_true ⟨h1, h2⟩]
      exact iteF k
    · rcases bad with n | ⟨i, rfl, no⟩
      · exact ⟨_, rfl, _, rfl, _, rfl, _, _, _, rfl, .inr ⟨n, false, rfl, iteT ⟨_, rfl, mkO_post B k⟩⟩⟩
      · refine ⟨_, rfl, _, rfl, _, rfl, _, _, _, rfl, .inl ⟨i, lo, hi, rfl, rfl, rfl, _, rfl, ?_⟩⟩
        rw [decide_eq_false no]
        exact iteT ⟨_, rfl, mkO_post B k⟩
/-- no curve -/
def NoCur (K : PySem.W.Frag) (H : Hp) (C : Addr) (x : V) : Prop := ∃ t : Value, TyX K H x t ∧ PySem.W.kitOne K t (.ref C) = some false
def spNeedCur (K : PySem.W.Frag) (C CB : Addr) : Sp := fun vs H Q E => ∃ x : V, vs = [x] ∧
  ((∃ (a : Addr) (vals : List V) (q r : Int), x = .ref a ∧ CurveAt H C a vals q r ∧ Q .non H) ∨ (NoCur K H C x ∧ ∀ d H', Raised H "part" .non d H' → E (.ref CB) (some d) H'))
theorem scNeedCur : FnScope ["thing"] ["thing"] (defScope sNeedCur) := ⟨rfl, rfl, rfl, by decide +kernel, rfl, by decide +kernel, by decide +kernel⟩
theorem ok_needCur {f fI fE fX C CB : Addr} {fd dI : FuncData} (F : Fun K "need_curve" "need_curve" sNeedCur f fd) (T : CurG mg) (U : CurT K mg C fX fE) (B : ErrT P w K mg base "BadCurve" "part" CB fI dI) :
    FnOk P w K mg base (L2.CX P w) 3 f fd ["thing"] (spNeedCur K C CB) := by
  refine F.okX scNeedCur (fun vs H Q E h => ?_) (fun cdv A outer s H vs Q E hr h => ?_)
  · obtain ⟨x, rfl, _⟩ := h
    rfl
  · obtain ⟨x, rfl, h⟩ := h
    refine ⟨_, pss_one (ps_if (pt_not (pt_val (pe_callB call_isi (by rfl) T.isi (by decide +kernel) (pa_cons (pv 0) (pa_cons (pe_glob (v := .ref C) rfl U.mC rfl) pa_nil)))))
        (pss_one (ps_raise rfl (takes_of rfl rfl rfl rfl) (pmk_oex B.ox B.iC B.tI B.fn hr B.bd .nil pass0 rfl B.gC (pa_cons pe_non pa_nil)))) pss_nil), ?_⟩
    rcases h with ⟨a, vals, q, r, rfl, ⟨dx, t, h1, h2⟩, k⟩ | ⟨⟨t, ty, kt⟩, k⟩
    · exact ⟨_, rfl, .ref a, .ref C, .ref C, .ref C, true, rfl, .own C, .base (.ins h1 U.cl U.cc U.cg U.ct U.co), U.kC, true, rfl, iteF k⟩
    · exact ⟨_, rfl, x, .ref C, t, .ref C, false, rfl, .own C, ty, kt, false, rfl, iteT (mkO_post B k)⟩
/-! ### value, values, rate -/
def spValue (K : PySem.W.Frag) (C CB CN : Addr) : Sp := fun vs H Q E => ∃ x y : V, vs = [x, y] ∧
  ((∃ (a : Addr) (v : List V) (p b : Nat) (g : Int) (F : Nat → V), x = .ref a ∧ y = .int b ∧ CurveAt H C a v p g ∧ RowF v p g F ∧ b ≤ 1000000000000 ∧ Q (F b) H) ∨
   (NoCur K H C x ∧ ∀ d H', Raised H "part" .non d H' → E (.ref CB) (some d) H') ∨
   (∃ (a : Addr) (v : List V) (q r : Int), x = .ref a ∧ CurveAt H C a v q r ∧ badFrom K H y 0 1000000000000 ∧ ∀ d H', Raised H "part" (.str "beat") d H' → E (.ref CN) (some d) H'))
theorem scValue : FnScope ["curve", "beat"] ["curve", "beat"] (defScope sValue) := ⟨rfl, rfl, rfl, by decide +kernel, rfl, by decide +kernel, by decide +kernel⟩
theorem ok_value {f fC fN fA C CB CN : Addr} {fd dC dN dA : FuncData} (F : Fun K "value" "value" sValue f fd)
    (GC : FnOk P w K mg base (L2.CX P w) 3 fC dC ["thing"] (spNeedCur K C CB)) (kC : PySem.W.keepIn K (.ref fC) = true) (bC : Binds K dC ["thing"] []) (mC : mg "need_curve" = some (.ref fC))
    (GN : FnOk P w K mg base (L2.CX P w) 4 fN dN ["thing", "low", "high", "part"] (spNeedNum K CN)) (kN : PySem.W.keepIn K (.ref fN) = true) (bN : Binds K dN ["thing", "low", "high", "part"] []) (mN : mg "need_number" = some (.ref fN))
    (GA : FnOk P w K mg base CX0 2 fA dA ["curve", "beat"] (spCat K C)) (kA : PySem.W.keepIn K (.ref fA) = true) (bA : Binds K dA ["curve", "beat"] []) (mA : mg "at" = some (.ref fA)) :
    FnOk P w K mg base (L2.CX P w) 5 f fd ["curve", "beat"] (spValue K C CB CN) := by
  refine F.okX scValue (fun vs H Q E h => ?_) (fun cdv A outer s H vs Q E hr h => ?_)
  · obtain ⟨x, y, rfl, _⟩ := h
    rfl
  · obtain ⟨x, y, rfl, h⟩ := h
    have hr2 := hr.mono (show 2 ≤ 4 by decide)
    have hr3 := hr.mono (show 3 ≤ 4 by decide)
    refine ⟨_, pss_cons (ps_expr (pe_call GC hr3 rfl mC kC bC .nil (passX (E := E) (takes_of rfl rfl rfl rfl) (fun _ _ _ _ h => h)) (pa_cons (pv 0) pa_nil)))
      (pss_cons (ps_expr (pe_call GN hr rfl mN kN bN .nil (passX (E := E) (takes_of rfl rfl rfl rfl) (fun _ _ _ _ h => h)) (pa_cons (pv 1) (pa_cons pe_int (pa_cons (pe_op op_pow pe_int pe_int) (pa_cons pe_str pa_nil))))))
      (pss_one (ps_ret (pe_call GA hr2 rfl mA kA bA .nil pass0 (pa_cons (pv 0) (pa_cons (pv 1) pa_nil)))))), ?_⟩
    rcases h with ⟨a, v, p, b, g, F, rfl, rfl, cu, R, hb, k⟩ | ⟨no, k⟩ | ⟨a, v, q, r, rfl, cu, bad, k⟩
    · refine ⟨_, rfl, _, rfl, .inl ⟨a, v, _, _, rfl, cu, ?_⟩⟩
      refine ⟨_, rfl, _, _, rfl, rfl, ⟨by decide, by decide⟩, .int b, 0, 1000000000000, "beat", rfl, .inl ⟨_, rfl, by omega, by omega, ?_⟩⟩
      exact ⟨_, rfl, _, rfl, a, v, p, b, g, F, rfl, cu, R, by omega, k⟩
    · exact ⟨_, rfl, _, rfl, .inr ⟨no, k⟩⟩
    · refine ⟨_, rfl, _, rfl, .inl ⟨a, v, _, _, rfl, cu, ?_⟩⟩
      exact ⟨_, rfl, _, _, rfl, rfl, ⟨by decide, by decide⟩, y, 0, 1000000000000, "beat", rfl, .inr ⟨bad, k⟩⟩
end
end WW
end

section
set_option Elab.async false
set_option linter.all false
set_option maxRecDepth 100000
set_option maxHeartbeats 4000000
/-! calls with keywords alone; a law's body told its code -/
namespace WL
open PySem PySem.Spec PyProof.Rows L2 WG
section
variable {X : Cx} {CX : CXT} {k : Nat} {f : Addr} {fd : FuncData} {ps ks : List Str} {sp : Sp} {E : XK} {x : Str} {p pos : Pos} {kws : List Keyword} {tk : TA} {g : List Value → List Value → List Value} {gV : List V → List V → List V}
/-- f(k = v, ..) -/
theorem pe_callK0 (F : FnOk X.prog X.w X.K X.mg X.base CX k f fd ps sp) (hr : Room k X.A) (hg : Gl X x) (hm : X.mg x = some (.ref f)) (hk : PySem.W.keepIn X.K (.ref f) = true) (hb : KBinds X.K fd ps ks g gV) (hx : Passes CX X E)
    (hkw : PK X kws tk) (hall : (backToKw pos (keywordEach kws X.env)).all (·.1.isSome) = true := by rfl) (hks : (backToKw pos (keywordEach kws X.env)).filterMap (·.1) = ks := by rfl)
    (hdb : (x == ("__debug__" : Str)) = false := by decide)
    (hpl : ((backTo pos (starEach [] X.env)).any (·.1) || (backToKw pos (keywordEach kws X.env)).any (·.1.isNone)) = false := by rfl) :
    PE X (.Call (.Name x p) [] kws pos) (tCallK sp gV E tNil tk) := by
  refine ⟨fun pins s σ H Q I h => ?_⟩
  refine wpAny_Call_Name_kw (ld_glob I hg hm ?_ hdb)
  refine PySem.W.callWith_KW0 (h₀ := X.base) I.ok.mod.kin hk hall ?_ hpl
  refine thn (hkw.run pos pins s σ H _ I h) fun ws s2 ⟨zs, H2, I2, rz, q2⟩ => ⟨I2.kIn, ?_⟩
  rw [hks]
  exact run_fnk (us := []) (vs := []) F hr hb hx I2 .nil rz q2
theorem kb1 {K : PySem.W.Frag} {x qual y : Str} {st : Stmt} {f : Addr} {fd : FuncData} (F : Fun K x qual st f fd)
    (h0 : ∀ (kV doc pm : Value) (an : Option Addr) (cdv ct v : Value), bindArgs (PySem.W.fnOf x qual (defArgs st) (defBody st) (defScope st) .none kV doc pm an cdv ct) ⟨[v], []⟩ = pure [(y, v)])
    (h1 : ∀ (kV doc pm : Value) (an : Option Addr) (cdv ct v : Value), bindArgs (PySem.W.fnOf x qual (defArgs st) (defBody st) (defScope st) .none kV doc pm an cdv ct) ⟨[], [(y, v)]⟩ = pure [(y, v)]) :
    KBinds K fd [y] [y] (fun us ws => us ++ ws) (fun vs zs => vs ++ zs) := by
  obtain ⟨oc, od, kV, doc, pm, an, cdv, ct, osl, rfl, lk, hcd⟩ := F.ex
  refine ⟨fun s us ws _ hl => ?_, fun r rz => r.append rz⟩
  match us, ws, hl with
  | [v], [], _ => exact .of_eq (h0 _ _ _ _ _ _ v)
  | [], [v], _ => exact .of_eq (h1 _ _ _ _ _ _ v)
end
section
variable {P : Program} {w : World} {K : PySem.W.Frag} {mg : Str → Option Value} {base : Heap} {CX : CXT}
variable {k : Nat} {f : Addr} {fd : FuncData} {ps : List Str} {sp : Sp}
/-- as okG, the body told which code object is its own -/
theorem okC {x qual : Str} {st : Stmt} {N : List Str} {c : Addr} (F : Fun K x qual st f fd) (hc : fd.code = .ref c) (S : FnScope N ps (defScope st))
    (len : ∀ vs H Q E, sp vs H Q E → vs.length = ps.length)
    (body : ∀ (A : Around) (outer : List Env) (s : Shared) (H : Hp) (vs : List V) (Q : VK) (E : XK),
      Room k (A.deeper (envOfC qual (defScope st) s.heap.objs.size f (.ref c))) →
      (A.deeper (envOfC qual (defScope st) s.heap.objs.size f (.ref c))).guards = some [] → sp vs H Q E →
      ∃ t, PSs (cxOf CX P w K mg base N qual (defScope st) f (.ref c) A outer s H E).nox (defBody st) t ∧
        t { nx := fun _ H' => Q .non H', rt := Q } (start N vs) H) :
    FnG P w K mg base CX (k + 1) f fd ps sp := by
  obtain ⟨oc, od, kV, doc, pm, an, cdv, ct, osl, rfl, lk, hcd⟩ := F.ex
  cases (show cdv = Value.ref c from hc)
  refine ⟨len, fun A outer s H args us vs Q E hr hga e0 hb r hsp => ?_⟩
  have hl := len _ _ _ _ hsp
  have KX : K.In s.heap := e0.mod.kin.keeps
    fun b o e => (e0.bs b o e).1
  have lim : s.heap.NoLimit := e0.mod.nolimit.keeps
    fun b o e => (e0.bs b o e).1
  have hkind : ∀ y ∈ ps.zip us, (defScope st).names.lookup y.1 = some .local ∨
      ((defScope st).names.lookup y.1 = some .cell ∧
        ((cellsFrom (s.heap.objs.size + 1) (defScope st).names []).lookup y.1).isSome = true) := by
    rintro ⟨n, v⟩ hy
    rcases S.par n (List.of_mem_zip hy).1 with q | q
    · exact .inl q
    · exact .inr ⟨q, PySem.W.cellsFrom_some _ _ _ (.inl q)⟩
  refine codeAny_call_function hr.depth (KX _ _ lk) rfl S.co S.gen rfl
    (PySem.W.codeRec_of KX hcd) (hb _ _ _ _ ?_)
  refine wpAny_newFunctionEnv_cells S.kind hkind
    fun env he s1 x => ?_
  subst he
  refine ⟨lim.keeps x.toInCall.keep,
    codeAny_func ?_⟩
  obtain ⟨t, ht, hq⟩ := body A outer s H vs Q E (hr.deeper _) hga hsp
  have I := inv_start (CX := CX) (E := E) S hr.hd e0 hl r x
  refine wpAny_mono (ht.nox.run [] s1 (start N vs) H _ I hq)
    (fun fl s' hs => ?_) fun e s' hs => hs
  have fin : ∀ {σ' : L2.St} {H' : Hp} {v : V} {u : Value},
      Inv (cxOf CX P w K mg base N qual (defScope st) f (.ref c) A outer s H E) [] σ' H' s' →
      RelV v u → Q v H' → CE outer P w H s Q u s' :=
    fun J rv q => ⟨_, _, J.os, J.bare, J.base, J.hok, rv, q⟩
  cases fl with
  | ret u =>
    obtain ⟨v, σ', H', J, rv, q⟩ := hs
    exact fin J rv q
  | next =>
    obtain ⟨σ', H', J, q⟩ := hs
    exact fin (v := V.non) (u := Value.none) J rfl q
  | brk =>
    obtain ⟨_, _, _, q⟩ := hs
    exact False.elim q
  | cont =>
    obtain ⟨_, _, _, q⟩ := hs
    exact False.elim q
end
end WL
end

section
set_option Elab.async false
set_option linter.all false
set_option maxRecDepth 100000
set_option maxHeartbeats 4000000
/-! lambdas as values: made, kept in lists, handed by a name -/
namespace WV
open PySem PySem.Spec PyProof.Rows L2 LamX WT
/-- the lambda at f -/
def LamO (f : Addr) (q : Str) (pr : Arguments) (bd : Expr) (sc : Scope) (cl : List (Str × Addr)) (c : Addr) : HO :=
  .ext fun h => ∃ pm ctv : Value, h.get? f = some (PySem.W.kla_obj "<lambda>" q pr bd sc cl pm c ctv)
theorem lamO_ne {f c : Addr} {q : Str} {pr : Arguments} {bd : Expr} {sc : Scope} {cl : List (Str × Addr)} (ps : Array Value) : LamO f q pr bd sc cl c ≠ .tbl ps := fun z => by
  unfold LamO at z
  cases z
section
variable {X : Cx} {pins : List (Addr × Obj)} {σ : L2.St} {H : Hp} {s : Shared}
theorem lam_known {q : Str} {pr : Arguments} {bd : Expr} {sc : Scope} {cl : List (Str × Addr)} {c : Addr} {pm ctv : Value} {t' : Nat} (I : Inv X pins σ H s) :
    Inv X pins σ (upd H s.heap.objs.size (LamO s.heap.objs.size q pr bd sc cl c)) { s with heap := s.heap.push (PySem.W.kla_obj "<lambda>" q pr bd sc cl pm c ctv), toks := t' } := by
  refine I.laid (a := s.heap.objs.size) (fun b u e => Heap.get?_push_of_some _ e) (Nat.le_refl _) ?_
  have e : (s.heap.push (PySem.W.kla_obj "<lambda>" q pr bd sc cl pm c ctv)).get? s.heap.objs.size = some (PySem.W.kla_obj "<lambda>" q pr bd sc cl pm c ctv) := Heap.get?_push_size _ rfl
  exact ⟨⟨pm, ctv, e⟩, ⟨_, e⟩, fun h1 h2 ⟨p, t, z⟩ st => ⟨p, t, st _ z⟩⟩
/-- the tables behind a new code object of the name q in the table P -/
theorem tabs_more {T : List (Addr × Str)} {P c : Addr} {q : Str} {ps : Array Value} {pos : Pos} (hT : Tabs T H) (hP : H P = some (.tbl ps)) (ht : TriplesOk ps.toList) (hc : H c = none) (hu : ∀ p ∈ T, p.1 = P → p.2 = q)
    (ha : ∀ (pos : Pos) (cv : Value), codeAmong pos ps.toList = some cv → ∃ c, cv = .ref c ∧ H c = some (CodeO c q)) :
    ExtN H (upd (upd H P (.tbl (ps ++ #[rawInt pos.line, rawInt pos.col, .ref c]))) c (CodeO c q)) ∧ Tabs T (upd (upd H P (.tbl (ps ++ #[rawInt pos.line, rawInt pos.col, .ref c]))) c (CodeO c q)) := by
  have nPc : P ≠ c := ne_of_none hP hc
  have up : ∀ (b : Addr) (o : HO), H b = some o → b ≠ P → upd (upd H P (.tbl (ps ++ #[rawInt pos.line, rawInt pos.col, .ref c]))) c (CodeO c q) b = some o := by
    intro b o e nb
    rw [upd_ne (ne_of_none e hc), upd_ne nb]
    exact e
  have notP : ∀ (b : Addr) (o : HO), H b = some o → (∀ r, o ≠ .tbl r) → b ≠ P := by
    intro b o e n z
    subst z
    rw [hP] at e
    exact n _ (Option.some.inj e).symm
  refine ⟨fun b o e n => up b o e (notP b o e n), fun p hp => ?_⟩
  by_cases hb : p.1 = P
  · rw [hb, hu p hp hb]
    have eL : (ps ++ #[rawInt pos.line, rawInt pos.col, .ref c]).toList = ps.toList ++ [rawInt pos.line, rawInt pos.col, .ref c] := by simp
    refine ⟨_, by rw [upd_ne nPc, upd_same], ?_, ?_⟩
    · rw [eL]
      exact PySem.TriplesOk_snoc _ _ _ _ ht
    · intro p' cv hcv
      rw [eL] at hcv
      rcases among_app _ ht hcv with z | z
      · obtain ⟨c0, e1, e2⟩ := ha p' cv z
        exact ⟨c0, e1, up _ _ e2 (notP _ _ e2 codeO_ne)⟩
      · exact ⟨c, z, upd_same⟩
  · obtain ⟨r, a1, a2, a3⟩ := hT p hp
    refine ⟨r, up _ _ a1 hb, a2, ?_⟩
    intro p' cv hcv
    obtain ⟨c0, e1, e2⟩ := a3 p' cv hcv
    exact ⟨c0, e1, up _ _ e2 (notP _ _ e2 codeO_ne)⟩
end
/-- the reading of a lambda as a value -/
def tLamV (T : List (Addr × Str)) (q : Str) (pr : Arguments) (bd : Expr) (sc : Scope) (cl : List (Str × Addr)) : TE := fun _ H Q => Tabs T H ∧ ∀ (f c : Addr) (H1 : Hp), ExtN H H1 → Tabs T H1 → H1 f = none → H1 c = some (CodeO c q) → Q (.ref f) (upd H1 f (LamO f q pr bd sc cl c))
section
variable {X : Cx}
theorem pe_lamV {T : List (Addr × Str)} {c P : Addr} {pr : Arguments} {bd : Expr} {sc : Scope} {pos : Pos} (TB : TabB X.base X.mg c P) (hcode : X.env.code = .ref c) (hm : (P, X.env.qual ++ "<lambda>") ∈ T) (hu : ∀ p ∈ T, p.1 = P → p.2 = X.env.qual ++ "<lambda>")
    (hdef : defaultsOf pr X.env = ([], [])) (L : LamS X.env.scope sc) : PE X (.Lambda pr bd sc pos) (tLamV T (X.env.qual ++ "<lambda>") pr bd sc (cloFrom X.env.cells sc.names [])) := by
  refine ⟨fun pins s σ H Q I h => ?_⟩
  obtain ⟨hT, h⟩ := h
  obtain ⟨ps, hP, ht, ha⟩ := hT _ hm
  have bP := TB.bm.keeps I.bk
  have hP' : s.heap.get? P = some { cls := .none, data := .fields ps } := I.hok P _ hP
  refine PySem.W.kla_eval hdef ?_
  cases hc : codeAmong pos ps.toList with
  | none =>
    refine PySem.W.kla_makeFunction (mg := X.mg) (c := c) (P := P) (ps := ps) (closure_ok (L.has I.ok)) I.ok.glob (I.mod.glob.keeps I.bk) hcode (TB.code.keeps I.bk) hP' ht hc TB.gP bP ?_
    intro c' ctv h' tk hx hge hlt hrec htb
    obtain ⟨c2, oc, vs, t, e2, hoc, hd, hv⟩ := hrec
    cases e2
    have nC : H c' = none := I.hok.fresh hge
    obtain ⟨x1, x2⟩ := tabs_more (pos := pos) hT hP ht nC hu ha
    have I0 := inv_table (q := X.env.qual ++ "<lambda>") (t' := tk) (more := #[rawInt pos.line, rawInt pos.col, .ref c']) I hP (fun b o hb e => hx b o hb e) htb hge ⟨oc, vs, t, hoc, hd, hv⟩
    have fr : (upd (upd H P (.tbl (ps ++ #[rawInt pos.line, rawInt pos.col, .ref c']))) c' (CodeO c' (X.env.qual ++ "<lambda>"))) h'.objs.size = none := I0.hok.fresh (Nat.le_refl _)
    exact ⟨.ref h'.objs.size, _, lam_known (t' := tk) (pm := (X.mg "__name__").getD .none) (ctv := ctv) I0, rfl, h h'.objs.size c' _ x1 x2 fr upd_same⟩
  | some cv =>
    obtain ⟨c', e, hco⟩ := ha pos cv hc
    subst e
    refine PySem.W.kla_makeFunctionHit (mg := X.mg) (c := c) (P := P) (ps := ps) (closure_ok (L.has I.ok)) I.ok.glob (I.mod.glob.keeps I.bk) hcode (TB.code.keeps I.bk) hP' ht hc bP ?_
    intro ctv h' tk hx hsz
    have I0 : Inv X pins σ H { s with heap := h', toks := tk } := I.kept hx
    exact ⟨.ref h'.objs.size, _, lam_known (t' := tk) (pm := (X.mg "__name__").getD .none) (ctv := ctv) I0, rfl, h h'.objs.size c' _ (ExtN.refl H) hT (I0.hok.fresh (Nat.le_refl _)) hco⟩
/-! ### handed by a name -/
/-- what the def that calls it does, the lambda told too -/
def GivesV (X : Cx) (Ng : List Str) (x : Str) (sg : Scope) (g : Addr) (cdg : Value) (bg : List Stmt) (a : Str) (q : Str) (L : Addr → Addr → HO) (TT : (XK → Hp → VK → Prop) → Hp → VK → Prop) : Prop :=
  ∀ (f c' : Addr) (s : Shared) (H : Hp) (Q : VK) (tl : XK → Hp → VK → Prop),
    (∀ (W : WX) (pn : List (Addr × Obj)) (xe : Value → Shared → Prop) (E : XK) (p1 p2 : Pos), Takes ((cxOf C8.CX0 X.prog X.w X.K X.mg X.base Ng x sg g cdg X.A X.stack s H C8.E0).tr pn xe) W → (∀ cls d σ' H', E cls d H' → W cls d σ' H') →
      PE ((cxOf C8.CX0 X.prog X.w X.K X.mg X.base Ng x sg g cdg X.A X.stack s H C8.E0).tr pn xe) (.Call (.Name a p1) [] [] p2) (fun σZ HZ Q => σZ[0]? = some (some (.ref f)) ∧ HZ f = some (L f c') ∧ HZ c' = some (CodeO c' q) ∧ tl E HZ Q)) →
    H f = some (L f c') → H c' = some (CodeO c' q) → TT tl H Q →
    ∃ t, PSs (cxOf C8.CX0 X.prog X.w X.K X.mg X.base Ng x sg g cdg X.A X.stack s H C8.E0).nox bg t ∧ t { nx := fun _ H' => Q .non H', rt := Q } (L2.start Ng [.ref f]) H
theorem caught_givesV {q : Str} {sg : Scope} {g W : Addr} {cdg : Value} {L : Addr → Addr → HO} {j1 : Nat} {p1 p2 p3 p4 p5 p6 p7 p8 p9 p10 p11 p12 p13 p14 : Pos}
    (hge : sg.names.lookup ("WaitError" : Str) = some .globalImplicit) (hme : X.mg "WaitError" = some (.ref W)) (hl0 : sg.names.lookup ("work" : Str) = some .local) (hl1 : sg.names.lookup ("caught" : Str) = some .local) (hl2 : sg.names.lookup ("error" : Str) = some .local) :
    GivesV X nCaught "_law_caught" sg g cdg [.Assign [.Name "caught" p1] (.Constant .none j1 p2) p3,
      .Try [.Expr (.Call (.Name "work" p4) [] [] p5) p6] [.ExceptHandler (some (.Name "WaitError" p7)) (some "error") [.Assign [.Name "caught" p8] (.Name "error" p9) p10] p11] [] [] p12,
      .Return (some (.Name "caught" p13)) p14] "work" q L (TTc X.K W) := by
  intro f c' s H Q tl act hf hc h
  have nd : nCaught.Nodup := by decide +kernel
  refine ⟨_, pss_cons (ps_set (i := 1) nd rfl (Or.inl hl1) pe_non)
    (pss_cons (ps_try_err (X := (cxOf C8.CX0 X.prog X.w X.K X.mg X.base nCaught "_law_caught" sg g cdg X.A X.stack s H C8.E0).nox) (c := .ref W) (i := 2)
        (tb := fun W' D σ H => ∃ Ech : XK, (∀ cls d σ' H', Ech cls d H' → W' cls d σ' H') ∧ σ[0]? = some (some (.ref f)) ∧ H f = some (L f c') ∧ H c' = some (LamX.CodeO c' q) ∧ tl Ech H (fun _ H' => D.nx σ H'))
        rfl rfl rfl nd rfl hl2 ⟨hge, by decide, .inl hme⟩ (fun W' pn xe tk => ?_) (fun a pn => pss_one (ps_set (i := 1) nd rfl (Or.inl hl1) (pe_var (i := 2) rfl (Or.inl hl2)))))
    (pss_one (ps_ret (pe_var (i := 1) rfl (Or.inl hl1))))), ?_⟩
  · refine ⟨fun pins s' σ H' D I h' => ?_⟩
    obtain ⟨Ech, hW, h1, h0, h2, h3⟩ := h'
    exact (pss_one (ps_expr (pos := p6) (act W' pn xe Ech p4 p5 tk hW))).run pins s' σ H' D I ⟨h1, h0, h2, h3⟩
  · refine ⟨_, fun cls d σ' H' h' => ?_, rfl, hf, hc, h⟩
    obtain ⟨e1, e2⟩ := h'
    refine ⟨e1, fun hl a ha => ?_⟩
    match σ', hl with
    | [x0, x1, x2], _ => exact ⟨.ref a, rfl, .ref a, rfl, e2 a ha⟩
/-- a(), a lambda that is told by the heap -/
theorem pe_actV {CXg : CXT} {Eg : XK} {Ng : List Str} {qg : Str} {sg : Scope} {g f c' : Addr} {cdg : Value} {pr : Arguments} {bd : Expr} {sc : Scope} {k i : Nat} {a : Str} {pn : List (Addr × Obj)} {xe : Value → Shared → Prop} {W : WX} {E : XK} {tb : TE} {p1 p2 : Pos}
    {pins : List (Addr × Obj)} {σ : L2.St} {H : Hp} {s : Shared} (I : Inv X pins σ H s) (L : LamS X.env.scope sc)
    (hbind : ∀ (q : Str) (cl : List (Str × Addr)) (pm cv ctv : Value), bindArgs (PySem.W.kla_fn "<lambda>" q pr bd sc cl pm cv ctv) ⟨[], []⟩ = pure [])
    (tk : Takes ((cxOf CXg X.prog X.w X.K X.mg X.base Ng qg sg g cdg X.A X.stack s H Eg).tr pn xe) W) (hW : ∀ cls d σ' H', E cls d H' → W cls d σ' H') (hr : Room (k + 1) (X.A.deeper (envOfC qg sg s.heap.objs.size g cdg)))
    (hbody : ∀ (A : Around) (outer : List Env) (s : Shared) (H : Hp), Room k (A.deeper (lamEnv X sc s.heap.objs.size f c')) → PE (lamCx X A outer s H E sc f c') bd tb)
    (hN : Ng[i]? = some a) (hv : Vis sg a) (hd : (a == ("__debug__" : Str)) = false := by decide) (hcd : (a == ("__classdict__" : Str)) = false := by decide) :
    PE ((cxOf CXg X.prog X.w X.K X.mg X.base Ng qg sg g cdg X.A X.stack s H Eg).tr pn xe) (.Call (.Name a p1) [] [] p2)
      (fun σZ HZ Q => σZ[i]? = some (some (.ref f)) ∧ HZ f = some (LamO f (X.env.qual ++ "<lambda>") pr bd sc (cloFrom X.env.cells sc.names []) c') ∧ HZ c' = some (CodeO c' (X.env.qual ++ "<lambda>")) ∧ tb σ HZ Q) := by
  refine ⟨fun pinsZ sZ σZ HZ Q IZ h => ?_⟩
  obtain ⟨hs, hf, hc, ht⟩ := h
  refine wpAny_Call_Name_kw (thn ((pe_var (pos := p1) (i := i) hN hv hd hcd).run pinsZ sZ σZ HZ (fun v H1 => v = .ref f ∧ H1 = HZ) IZ ⟨.ref f, hs, rfl, rfl⟩) ?_)
  rintro u s1 ⟨v, H1, I1, r1, rfl, rfl⟩
  obtain rfl : u = Value.ref f := r1
  obtain ⟨⟨pm, ctv, of1⟩, _, _⟩ := I1.hok f _ hf
  refine PySem.W.callWith_F0 ⟨_, _, _, _, of1⟩ ?_
  have un : Un (frs X.stack) [] H H1 s.heap s1.heap := I1.base
  obtain ⟨⟨oc, vs, t, hoc, hdc, hvc⟩, _, _⟩ := I1.hok c' _ hc
  have rc : codeAny (model X.prog X.w) (X.A.deeper (envOfC qg sg s.heap.objs.size g cdg)) (.call (.ref f) ⟨[], []⟩) (CR (L2.CX X.prog X.w) (envOfC qg sg s.heap.objs.size g cdg :: X.stack) X.prog X.w H1 s1 Q E) s1 := by
    refine PySem.W.kla_callFunE hr.depth of1 rfl L.co L.gen rfl ⟨c', oc, vs, t, rfl, hoc, hdc, hvc⟩ ?_
    rw [hbind]
    refine wpAny_pure (wpAny_newFunctionEnv (fun y hy => (L.own y hy).2) (fun y hy => absurd hy (by simp)) ?_ L.kind)
    intro h₁ hns hsb
    refine ⟨I1.nolimit.fresh _ hsb, ?_⟩
    have kp : ∀ b o, s1.heap.get? b = some o → h₁.get? b = some o := by
      intro b o e
      exact hsb.extBut b o (Nat.ne_of_lt (Heap.lt_size e)) (Heap.get?_push_of_some _ e)
    have J := lam_start2 (E := E) (f := f) (c' := c') (tk := s1.toks + ([] : List (Str × Value)).length) I L I1.env0 hr.hd un hns kp
    refine PySem.W.kla_codeExpr (wpAny_mono ((hbody _ _ s1 H1 (hr.deeper _)).run [] _ _ H1 Q J ht) ?_ fun e s' hq => hq)
    rintro v s' ⟨w', H', J', rv, q⟩
    exact ⟨w', H', J'.os, J'.bare, J'.base, J'.hok, rv, q⟩
  have hx := passes_call tk hW
  refine wpAny_call (codeAny_mono rc ?_)
  intro r s' hq
  cases r with
  | error e => exact hx pinsZ σZ H1 s1 e s' I1 hq
  | ok fl =>
    cases fl with
    | ret u => exact I1.after hq
    | next => exact False.elim hq
    | brk => exact False.elim hq
    | cont => exact False.elim hq
def tHand (ta : TA) (TT : (XK → Hp → VK → Prop) → Hp → VK → Prop) (q : Str) (L : Addr → Addr → HO) (t : XK → TE) : TE := fun σ H Q => ta σ H fun vs H1 => ∃ f c : Addr, vs = [.ref f] ∧ H1 f = some (L f c) ∧ H1 c = some (CodeO c q) ∧ TT (fun E H' Q' => t E σ H' Q') H1 Q
/-- x(e), e a lambda that is told by the heap -/
theorem pe_hand {TT : (XK → Hp → VK → Prop) → Hp → VK → Prop} {x a : Str} {g : Addr} {k : Nat} {pg : Arguments} {bg : List Stmt} {sg : Scope} {dV kV doc pm cdv ct oc : Value} {an od : Option Addr} {osl : Array (Option Value)} {Ng : List Str}
    {pr : Arguments} {bd e : Expr} {sc : Scope} {t : XK → TE} {ta : TA} {p pos : Pos} (hg : Gl X x) (hm : X.mg x = some (.ref g)) (hk : PySem.W.keepIn X.K (.ref g) = true)
    (lk : X.K.lookup g = some ⟨oc, od, .func (PySem.W.fnOf x x pg bg sg dV kV doc pm an cdv ct), osl⟩) (hcg : PySem.W.codeIn X.K cdv x = true) (hb : L2.Binds X.K (PySem.W.fnOf x x pg bg sg dV kV doc pm an cdv ct) [a] []) (Sg : FnScope Ng [a] sg) (hNg : Ng[0]? = some a) (hva : Vis sg a)
    (hG : GivesV X Ng x sg g cdv bg a (X.env.qual ++ "<lambda>") (fun f c => LamO f (X.env.qual ++ "<lambda>") pr bd sc (cloFrom X.env.cells sc.names []) c) TT)
    (ha : PA X [e] ta) (hr : Room (k + 2) X.A) (L : LamS X.env.scope sc)
    (hbind : ∀ (q : Str) (cl : List (Str × Addr)) (pm cv ctv : Value), bindArgs (PySem.W.kla_fn "<lambda>" q pr bd sc cl pm cv ctv) ⟨[], []⟩ = pure [])
    (hbody : ∀ (A : Around) (outer : List Env) (s : Shared) (H : Hp) (E : XK) (f c' : Addr), Room k (A.deeper (lamEnv X sc s.heap.objs.size f c')) → PE (lamCx X A outer s H E sc f c') bd (t E))
    (hdb : (x == ("__debug__" : Str)) = false := by decide) (hd : (a == ("__debug__" : Str)) = false := by decide) (hcd : (a == ("__classdict__" : Str)) = false := by decide)
    (he : starEach [e] X.env = (false, eval e X.env) :: starEach [] X.env := by rfl) (hpl : (backTo pos (starEach [] X.env)).any (·.1) = false := by rfl) :
    PE X (.Call (.Name x p) [e] [] pos) (tHand ta TT (X.env.qual ++ "<lambda>") (fun f c => LamO f (X.env.qual ++ "<lambda>") pr bd sc (cloFrom X.env.cells sc.names []) c) t) := by
  refine ⟨fun pins s σ H Q I h => ?_⟩
  refine wpAny_Call_Name_kw (ld_glob I hg hm ?_ hdb)
  refine PySem.W.callWith_K (h₀ := X.base) I.ok.mod.kin hk (thn (ha.run pos pins s σ H _ I h) ?_) he hpl
  rintro us s1 ⟨vs, H1, I1, r, f, c', rfl, hf, hco, hq⟩
  refine ⟨I1.kIn, ?_⟩
  obtain ⟨u, rfl, ru⟩ := vals1 r
  obtain rfl : u = Value.ref f := ru
  have rc : codeAny (model X.prog X.w) X.A (.call (.ref g) ⟨[.ref f], []⟩) (CR C8.CX0 X.stack X.prog X.w H1 s1 Q C8.E0) s1 := by
    refine run_ofS (N := Ng) (ps := [a]) (us := [.ref f]) (vs := [.ref f]) lk hcg Sg hr I1.env0 (hb s1 [.ref f] I1.kIn rfl) (.cons rfl .nil) rfl ?_
    intro hr'
    obtain ⟨t', ht', hq'⟩ := hG f c' s1 H1 Q (fun E H' Q' => t E σ H' Q') (fun W pn xe E p1 p2 tk hW => pe_actV (i := 0) I1 L hbind tk hW hr' (fun A outer s H hr2 => hbody A outer s H E f c' hr2) hNg hva hd hcd) hf hco hq
    exact ⟨t', ht'.nox, hq'⟩
  refine wpAny_call (codeAny_mono rc ?_)
  intro r s2 hq
  cases r with
  | error e => exact (show False from hq).elim
  | ok fl =>
    cases fl with
    | ret u => exact I1.after hq
    | next => exact False.elim hq
    | brk => exact False.elim hq
    | cont => exact False.elim hq
theorem pe_either {e : Expr} {t u : TE} (h1 : PE X e t) (h2 : PE X e u) : PE X e (fun σ H Q => t σ H Q ∨ u σ H Q) := by
  refine ⟨fun pins s σ H Q I h => ?_⟩
  rcases h with h | h
  · exact h1.run pins s σ H Q I h
  · exact h2.run pins s σ H Q I h
/-! ### texts of numbers and None -/
def textV : V → Str
  | .int i => toString i
  | _ => "None"
def rReprV : List V → Hp → VK → Prop := fun xs H Q => ∃ v, xs = [v] ∧ (v = .non ∨ ∃ i : Int, v = .int i ∧ i.natAbs.log2 < 1920) ∧ Q (.str (textV v)) H
theorem call_reprV : CallR X (.builtin "repr") rReprV := by
  intro pins s σ H xs us Q I r h
  obtain ⟨v, rfl, h, q⟩ := h
  rcases h with rfl | ⟨i, rfl, hi⟩
  · obtain ⟨u, rfl, ru⟩ := vals1 r
    obtain rfl : u = Value.none := ru
    exact PySem.P.repr_of_none ⟨.str _, H, I.tok _, ⟨_, rfl⟩, q⟩
  · exact SkE.call_repr_int pins s σ H _ us Q I r ⟨i, rfl, hi, q⟩
end
end WV
end

section
set_option Elab.async false
set_option linter.all false
set_option maxRecDepth 100000
set_option maxHeartbeats 4000000
/-! a def that is called by its name, in one word -/
namespace WC
open PySem PySem.Spec PyProof.Rows L2
structure Cal (P : Program) (w : World) (K : PySem.W.Frag) (mg : Str → Option Value) (base : Heap) (CX : CXT) (k : Nat) (x : Str) (ps : List Str) (sp : Sp) : Prop where
  ex : ∃ f fd, FnOk P w K mg base CX k f fd ps sp ∧ PySem.W.keepIn K (.ref f) = true ∧ Binds K fd ps [] ∧ mg x = some (.ref f)
/-- .. by keywords alone -/
structure CalK (P : Program) (w : World) (K : PySem.W.Frag) (mg : Str → Option Value) (base : Heap) (CX : CXT) (k : Nat) (x : Str) (ps ks : List Str) (g : List Value → List Value → List Value) (gV : List V → List V → List V) (sp : Sp) : Prop where
  ex : ∃ f fd, FnOk P w K mg base CX k f fd ps sp ∧ PySem.W.keepIn K (.ref f) = true ∧ KBinds K fd ps ks g gV ∧ mg x = some (.ref f)
/-- .. under no guard -/
structure CalG (P : Program) (w : World) (K : PySem.W.Frag) (mg : Str → Option Value) (base : Heap) (CX : CXT) (k : Nat) (x : Str) (ps : List Str) (sp : Sp) : Prop where
  ex : ∃ f fd, WG.FnG P w K mg base CX k f fd ps sp ∧ PySem.W.keepIn K (.ref f) = true ∧ Binds K fd ps [] ∧ mg x = some (.ref f)
section
variable {X : Cx} {CX : CXT} {k : Nat} {ps ks : List Str} {sp : Sp} {x : Str} {p pos : Pos} {e : Expr} {es : List Expr} {t tk : TA} {E : XK} {kws : List Keyword} {g : List Value → List Value → List Value} {gV : List V → List V → List V}
theorem pe_callC (c : Cal X.prog X.w X.K X.mg X.base CX k x ps sp) (hr : Room k X.A) (hg : Gl X x) (hx : Passes CX X E)
    (ha : PA X (e :: es) t) (hdb : (x == ("__debug__" : Str)) = false := by decide) (he : starEach (e :: es) X.env = (false, eval e X.env) :: starEach es X.env := by rfl) (hpl : (backTo pos (starEach es X.env)).any (·.1) = false := by rfl) :
    PE X (.Call (.Name x p) (e :: es) [] pos) (tCall sp [] E t) := by
  obtain ⟨f, fd, G, kp, b, m⟩ := c.ex
  exact pe_call G hr hg m kp b .nil hx ha hdb he hpl
theorem pe_callC0 (c : Cal X.prog X.w X.K X.mg X.base CX k x ps sp) (hr : Room k X.A) (hg : Gl X x) (hx : Passes CX X E) (hdb : (x == ("__debug__" : Str)) = false := by decide) :
    PE X (.Call (.Name x p) [] [] pos) (tCall sp [] E tNil) := by
  obtain ⟨f, fd, G, kp, b, m⟩ := c.ex
  exact pe_call0 G hr hg m kp b .nil hx hdb
theorem pe_callKC (c : CalK X.prog X.w X.K X.mg X.base CX k x ps ks g gV sp) (hr : Room k X.A) (hg : Gl X x) (hx : Passes CX X E)
    (hkw : PK X kws tk) (hall : (backToKw pos (keywordEach kws X.env)).all (·.1.isSome) = true := by rfl) (hks : (backToKw pos (keywordEach kws X.env)).filterMap (·.1) = ks := by rfl)
    (hdb : (x == ("__debug__" : Str)) = false := by decide)
    (hpl : ((backTo pos (starEach [] X.env)).any (·.1) || (backToKw pos (keywordEach kws X.env)).any (·.1.isNone)) = false := by rfl) :
    PE X (.Call (.Name x p) [] kws pos) (tCallK sp gV E tNil tk) := by
  obtain ⟨f, fd, G, kp, b, m⟩ := c.ex
  exact WL.pe_callK0 G hr hg m kp b hx hkw hall hks hdb hpl
theorem pe_callCG (c : CalG X.prog X.w X.K X.mg X.base CX k x ps sp) (hgu : X.A.guards = some []) (hr : Room k X.A) (hg : Gl X x) (hx : Passes CX X E)
    (ha : PA X (e :: es) t) (hdb : (x == ("__debug__" : Str)) = false := by decide) (he : starEach (e :: es) X.env = (false, eval e X.env) :: starEach es X.env := by rfl) (hpl : (backTo pos (starEach es X.env)).any (·.1) = false := by rfl) :
    PE X (.Call (.Name x p) (e :: es) [] pos) (tCall sp [] E t) := by
  obtain ⟨f, fd, G, kp, b, m⟩ := c.ex
  exact WG.pe_callG G hgu hr hg m kp b .nil hx ha hdb he hpl
end
end WC
end

section
set_option Elab.async false
set_option linter.all false
set_option maxRecDepth 100000
set_option maxHeartbeats 4000000
/-! math.lcm; lists made with a test -/
namespace LM
open PySem PySem.Spec PyProof.Rows L2
section
variable {X : Cx}
def rLcm : List V → Hp → VK → Prop := fun vs H Q => ∃ a b : Nat, vs = [.int a, .int b] ∧ a < 2 ^ 60 ∧ b < 2 ^ 60 ∧ Q (.int ((Nat.lcm a b : Nat) : Int)) H
theorem cr_lcm : CallR X (.builtin "math.lcm") rLcm := by
  intro pins s σ H vs us Q I r h
  obtain ⟨a, b, rfl, ha, hb, q⟩ := h
  obtain ⟨t, u, rfl⟩ := Vals.int2 r
  refine PySem.W.mc_lcm (by rw [Int.natAbs_natCast]; omega) (by rw [Int.natAbs_natCast]; omega) fun _ => ⟨.int _, H, I.tok _, ⟨_, rfl⟩, ?_⟩
  rw [Int.natAbs_natCast, Int.natAbs_natCast]
  exact q
end
section
variable {J : It} {n : Nat} {G : Hp → Prop} {Y : Nat → Hp → V → Hp → Prop}
/-- [e for .. in .. if t]: t of i is p i, each item F i -/
theorem lcF (w : Walk J n G Y) {g : TG} {tt : TT} {te : TE} {vs : List Nat} {σ : L2.St} {H1 : Hp} {D : Addr} {Qd : Hp → Prop} (p : Nat → Bool) (F : Nat → V) (hD : H1 D = none) (hn : n ≤ 200000) (hG : ∀ H, Same H1 H → G H)
    (hs : ∀ i x H H', i < n → Same H1 H → Y i H x H' → ∀ (R : V → Hp → Prop) (N : Hp → Prop), (p i = true → ∀ H4, Same H H4 → R (F i) H4) → (p i = false → ∀ H4, Same H H4 → N H4) → g x (wipe σ vs) H' fun σ2 H2 => wipe σ2 vs = wipe σ vs ∧ tt σ2 H2 fun b H3 => if b = true then te σ2 H3 R else N H3)
    (hd : ∀ H, H D = some (.lst (((List.range n).filter p).map F)) → Same H1 H → Qd H) :
    ∃ W : Nat → Nat → Hp → Prop, (∃ m, W 0 m (upd H1 D (.lst []))) ∧ ∀ i m H, W i m H →
      (J.stop i H ∧ Qd H) ∨ (J.go i H ∧ ∃ Nx : Hp → Prop, (∀ H', Nx H' → ∃ m', m' < m ∧ W (i + 1) m' H') ∧ ∀ x H', J.yld i H x H' → g x (wipe σ vs) H' fun σ2 H2 => wipe σ2 vs = wipe σ vs ∧ tt σ2 H2 fun b H3 =>
        if b = true then te σ2 H3 fun y H4 => ∃ acc, H4 D = some (.lst acc) ∧ acc.length < sizeLine ∧ Nx (upd H4 D (.lst (acc ++ [y]))) else Nx H3) := by
  refine lc_it w (fun i H => H D = some (.lst (((List.range i).filter p).map F)) ∧ Same H1 H) ⟨upd_same, sNew hD⟩ (fun i H _ h => hG H h.2) (fun i x H H' hi ⟨d, s⟩ y => ?_) (fun H ⟨d, s⟩ => hd H d s)
  refine hs i x H H' hi s y _ _ (fun hp H4 s4 => ⟨_, s4 _ _ d, ?_, ?_, sPut hD (Same.trans s s4)⟩) (fun hp H4 s4 => ⟨?_, Same.trans s s4⟩)
  · rw [List.length_map]
    refine Nat.lt_of_le_of_lt (List.length_filter_le ..) ?_
    rw [List.length_range]
    exact Nat.lt_of_lt_of_le (show i < 200001 by omega) (by decide)
  · rw [List.range_succ, List.filter_append, List.map_append]
    simp only [List.filter_cons, hp, List.filter_nil, if_true, List.map_cons, List.map_nil]
    exact upd_same
  · rw [List.range_succ, List.filter_append, List.map_append]
    simp only [List.filter_cons, hp, List.filter_nil, Bool.false_eq_true, if_false, List.map_nil, List.append_nil]
    exact s4 _ _ d
end
end LM
namespace MF
/-! ### the first place at which one is above the other -/
/-- the least number of a range -/
theorem least_below {P : Nat → Prop} [DecidablePred P] {n : Nat} (h : ∃ j, j < n ∧ P j) : ∃ t, t < n ∧ P t ∧ ∀ j, j < t → ¬ P j := by
  induction n with
  | zero => obtain ⟨j, h, _⟩ := h; omega
  | succ n ih =>
    by_cases c : ∃ j, j < n ∧ P j
    · obtain ⟨t, h1, h2, h3⟩ := ih c
      exact ⟨t, by omega, h2, h3⟩
    · obtain ⟨j, h1, h2⟩ := h
      have : j = n := Classical.byContradiction fun z => c ⟨j, by omega, h2⟩
      subst this
      exact ⟨j, by omega, h2, fun i hi hp => c ⟨i, hi, hp⟩⟩
theorem dec_add {s j c : Nat} (s0 : 0 < s) (h : c ≤ j) : ∃ k i, j = c + i + k * s ∧ i < s := by
  refine ⟨(j - c) / s, (j - c) % s, ?_, Nat.mod_lt _ s0⟩
  have := Nat.mod_add_div (j - c) s
  rw [Nat.mul_comm] at this
  omega
/-- a difference that goes on by a period: spare is g - f -/
theorem never_neg {d : Nat → Int} {s c : Nat} {G : Int} (s0 : 0 < s) (Q : QP d s (-G) c) (h : ∀ j, j < c + s → 0 ≤ d j) (hG : G ≤ 0) : ∀ j, 0 ≤ d j := fun j => by
  by_cases l : j < c
  · exact h j (by omega)
  · obtain ⟨k, i, e, hi⟩ := dec_add s0 (show c ≤ j by omega)
    have m := Q.mul (j := c + i) (by omega) k
    rw [← e] at m
    have h0 := h (c + i) (by omega)
    have : 0 ≤ (k : Int) * (-G) := Int.mul_nonneg (by omega) (by omega)
    omega
theorem first_neg {d : Nat → Int} {s c : Nat} {G : Int} (s0 : 0 < s) (Q : QP d s (-G) c) (h : ∀ j, j < c + s → 0 ≤ d j) (hG : 0 < G) {m : Int} (m0 : ∃ i, i < s ∧ d (c + i) = m) (m1 : ∀ i, i < s → m ≤ d (c + i)) :
    ∃ t, t < s ∧ d (c + t) < (m / G + 1) * G ∧ ∀ j, j < t → (m / G + 1) * G ≤ d (c + j) := by
  obtain ⟨i, hi, e⟩ := m0
  have h0 : 0 ≤ m := by rw [← e]; exact h _ (by omega)
  have dm := Int.emod_add_mul_ediv m G
  have ml := Int.emod_lt_of_pos m hG
  have hx : m < (m / G + 1) * G := by
    have : (m / G + 1) * G = G * (m / G) + G := by rw [Int.add_mul, Int.one_mul, Int.mul_comm]
    omega
  obtain ⟨t, h1, h2, h3⟩ := least_below (P := fun j => d (c + j) < (m / G + 1) * G) (n := s) ⟨i, hi, by rw [e]; exact hx⟩
  exact ⟨t, h1, h2, fun j hj => Int.not_lt.mp (h3 j hj)⟩
theorem first_is {d : Nat → Int} {s c : Nat} {G : Int} (s0 : 0 < s) (Q : QP d s (-G) c) (h : ∀ j, j < c + s → 0 ≤ d j) (hG : 0 < G) {m : Int} (h0 : 0 ≤ m) (m1 : ∀ i, i < s → m ≤ d (c + i)) {t : Nat} (ht : t < s) (h2 : d (c + t) < (m / G + 1) * G) (h3 : ∀ j, j < t → (m / G + 1) * G ≤ d (c + j)) :
    d (c + t + (m / G + 1).toNat * s) < 0 ∧ ∀ j, j < c + t + (m / G + 1).toNat * s → 0 ≤ d j := by
  have r0 : 0 ≤ m / G := Int.ediv_nonneg h0 (by omega)
  have er : ((m / G + 1).toNat : Int) = m / G + 1 := by omega
  have mlow : (m / G) * G ≤ m := by rw [Int.mul_comm]; have := Int.emod_add_mul_ediv m G; have := Int.emod_nonneg m (show G ≠ 0 by omega); omega
  generalize hR : (m / G + 1).toNat = R at *
  have neg : ∀ k : Nat, (k : Int) * (-G) = -((k : Int) * G) := fun k => Int.mul_neg ..
  refine ⟨?_, fun j hj => ?_⟩
  · rw [Q.mul (j := c + t) (by omega) R, neg, er]
    omega
  · by_cases l : j < c
    · exact h j (by omega)
    · obtain ⟨k, i, e, hi⟩ := dec_add s0 (show c ≤ j by omega)
      have mm := Q.mul (j := c + i) (by omega) k
      rw [← e, neg] at mm
      rcases Nat.lt_or_ge k R with c1 | c1
      · have a := m1 i hi
        have b : (k : Int) * G ≤ (m / G) * G := Int.mul_le_mul_of_nonneg_right (by omega) (by omega)
        omega
      · rcases Nat.lt_or_ge R k with c2 | c2
        · exfalso
          have : (R + 1) * s ≤ k * s := Nat.mul_le_mul_right _ c2
          rw [Nat.succ_mul] at this
          omega
        · have : k = R := by omega
          subst this
          have a := h3 i (by omega)
          rw [er] at mm
          omega
/-- one above is seen ahead of some bound -/
theorem seen {d : Nat → Int} {s c : Nat} {G gap : Int} (s0 : 0 < s) (Q : QP d s G c) (g0 : ∀ j, j < c + s → -gap ≤ d j) (p0 : 0 ≤ gap) {j : Nat} (hj : 0 < d j) :
    ∃ t, 0 < d t ∧ t < c + s + (if 0 < G then s * (gap / G + 1).toNat else 0) := by
  by_cases l : j < c + s
  · exact ⟨j, hj, by omega⟩
  · obtain ⟨k, i, e, hi⟩ := dec_add s0 (show c ≤ j by omega)
    have mm := Q.mul (j := c + i) (by omega) k
    rw [← e] at mm
    by_cases hG : 0 < G
    · rw [if_pos hG]
      refine ⟨c + i + (gap / G + 1).toNat * s, ?_, ?_⟩
      · rw [Q.mul (j := c + i) (by omega)]
        have r0 : 0 ≤ gap / G := Int.ediv_nonneg p0 (by omega)
        have er : ((gap / G + 1).toNat : Int) = gap / G + 1 := by omega
        rw [er]
        have a := g0 (c + i) (by omega)
        have dm := Int.emod_add_mul_ediv gap G
        have ml := Int.emod_lt_of_pos gap hG
        have : (gap / G + 1) * G = G * (gap / G) + G := by rw [Int.add_mul, Int.one_mul, Int.mul_comm]
        omega
      · rw [Nat.mul_comm s]
        omega
    · rw [if_neg hG]
      refine ⟨c + i, ?_, by omega⟩
      have : (k : Int) * G ≤ 0 := Int.mul_nonpos_of_nonneg_of_nonpos (by omega) (by omega)
      omega
theorem QP.to {f : Nat → Int} {q : Nat} {r : Int} {b c : Nat} (h : QP f q r b) (l : b ≤ c) : QP f q r c := fun j hj => h j (by omega)
theorem QP.up {f : Nat → Int} {q : Nat} {r : Int} {b : Nat} (h : QP f q r b) (k : Nat) : QP f (k * q) (k * r) b := fun j hj => h.mul hj k
theorem QP.sub {f g : Nat → Int} {q : Nat} {r r' : Int} {b : Nat} (h : QP f q r b) (h' : QP g q r' b) : QP (fun j => f j - g j) q (r - r') b := fun j hj => by
  have := h j hj
  have := h' j hj
  show f (j + q) - g (j + q) = f j - g j + (r - r')
  omega
end MF
end

section
set_option Elab.async false
set_option linter.all false
set_option maxRecDepth 100000
set_option maxHeartbeats 4000000
namespace WW
open PySem L2 WO WG RZ WQ WT WC
abbrev sFno : Stmt := top 26
abbrev sTwo : Stmt := top 35
abbrev sPer : Stmt := top 36
abbrev sGai : Stmt := top 37
abbrev sGap : Stmt := top 40
abbrev sFbe : Stmt := top 41
abbrev sSho : Stmt := top 47
section
variable {P : Program} {w : World} {K : PySem.W.Frag} {mg : Str → Option Value} {base : Heap}
abbrev nFno : List Str := ["curve"]
theorem scFno : FnScope nFno ["curve"] (defScope sFno) := ⟨rfl, rfl, rfl, by decide +kernel, rfl, by decide +kernel, by decide +kernel⟩
def spFno (K : PySem.W.Frag) (C : Addr) : Sp := fun vs H Q _ => ∃ (x : Addr) (v : List V) (q r : Int), vs = [.ref x] ∧ CurveAt H C x v q r ∧ 0 < v.length ∧ Q (.int ((v.length - 1 : Nat) : Int)) H
theorem ok_fno {f fI fE C : Addr} {fd : FuncData} (F : Fun K "first_none" "first_none" sFno f fd) (T : CurG mg) (U : CurT K mg C fI fE) : FnOk P w K mg base CX0 1 f fd ["curve"] (spFno K C) := by
  refine F.ok scFno (fun vs H Q E h => ?_) (fun cdv A outer s H vs Q E hr h => ?_)
  · obtain ⟨x, v, p, r, rfl, _⟩ := h
    rfl
  · obtain ⟨x, v, p, r, rfl, ⟨dx, t, h1, h2⟩, hp, k⟩ := h
    refine ⟨_, (pss_one
 (ps_ret (pe_op op_sub (pe_callB call_len_seq (by rfl) T.len PySem.boot_len (pa_cons (pe_fld (pv 0) rfl) pa_nil)) pe_int))), ?_⟩
    refine ⟨_, rfl, x, C, dx, _, .ref t, rfl, h1, U.cl, U.nS, rfl, t, v, rfl, .inr (SqT.of h2), _, _, rfl, rfl, ?_⟩
    rw [← show (v.length : Int) - 1 = ((v.length - 1 : Nat) : Int) by omega] at k
    exact k
def HasCur (H : Hp) (C a : Addr) : Prop := ∃ (v : List V) (q r : Int), CurveAt H C a v q r
abbrev nTwo : List Str := ["curve", "other"]
theorem scTwo : FnScope nTwo ["curve", "other"] (defScope sTwo) := ⟨rfl, rfl, rfl, by decide +kernel, rfl, by decide +kernel, by decide +kernel⟩
def spTwo (K : PySem.W.Frag) (C CB : Addr) : Sp := fun vs H Q E => ∃ x y : V, vs = [x, y] ∧
  ((∃ a b : Addr, x = .ref a ∧ y = .ref b ∧ HasCur H C a ∧ HasCur H C b ∧ Q .non H) ∨
   ((NoCur K H C x ∨ ((∃ a : Addr, x = .ref a ∧ HasCur H C a) ∧ NoCur K H C y)) ∧ ∀ d H', Raised H "part" .non d H' → E (.ref CB) (some d) H'))
theorem ok_two {f C CB : Addr} {fd : FuncData} (F : Fun K "need_two" "need_two" sTwo f fd)
    (c_ncu : Cal P w K mg base (L2.CX P w) 3 "need_curve" ["thing"] (spNeedCur K C CB)) :
    FnOk P w K mg base (L2.CX P w) 4 f fd ["curve", "other"] (spTwo K C CB) := by
  refine F.okX scTwo (fun vs H Q E h => ?_) (fun cdv A outer s H vs Q E hr h => ?_)
  · obtain ⟨x, y, rfl, _⟩ := h
    rfl
  · obtain ⟨x, y, rfl, h⟩ := h
    refine ⟨_, (pss_cons (ps_expr (pe_callC c_ncu (hr.mono (by decide)) rfl (passX (E := E) (takes_of rfl rfl rfl rfl) fun _ _ _ _ h => h) (pa_cons (pv 0) pa_nil)))
 (pss_one
 (ps_expr (pe_callC c_ncu (hr.mono (by decide)) rfl (passX (E := E) (takes_of rfl rfl rfl rfl) fun _ _ _ _ h => h) (pa_cons (pv 1) pa_nil))))), ?_⟩
    rcases h with ⟨a, b, rfl, rfl, ⟨v, q, r, ca⟩, ⟨v', q', r', cb⟩, k⟩ | ⟨no | ⟨⟨a, rfl, ⟨v, q, r, ca⟩⟩, no⟩, k⟩
    · exact ⟨_, rfl, _, rfl, .inl ⟨a, _, _, _, rfl, ca, _, rfl, _, rfl, .inl ⟨b, _, _, _, rfl, cb, k⟩⟩⟩
    · exact ⟨_, rfl, _, rfl, .inr ⟨no, k⟩⟩
    · exact ⟨_, rfl, _, rfl, .inl ⟨a, _, _, _, rfl, ca, _, rfl, _, rfl, .inr ⟨no, k⟩⟩⟩
abbrev nPer : List Str := ["curve", "other", "step"]
theorem scPer : FnScope nPer ["curve", "other"] (defScope sPer) := ⟨rfl, rfl, rfl, by decide +kernel, rfl, by decide +kernel, by decide +kernel⟩
def spPer (K : PySem.W.Frag) (C CT : Addr) : Sp := fun vs H Q E => ∃ (x y : Addr) (v v' : List V) (q q' : Nat) (r r' : Int), vs = [.ref x, .ref y] ∧ CurveAt H C x v q r ∧ CurveAt H C y v' q' r' ∧ q ≤ 1000000 ∧ q' ≤ 1000000 ∧
  (Nat.lcm q q' ≤ 4000 → Q (.int ((Nat.lcm q q' : Nat) : Int)) H) ∧ (4000 < Nat.lcm q q' → ∀ d H', Raised H "most" (.int 4000) d H' → E (.ref CT) (some d) H')
theorem ok_per {f fI fE fT C CT : Addr} {fd dT : FuncData} (F : Fun K "common_period" "common_period" sPer f fd) (MM : ∃ t, mg "MOST_MADE" = some (.int 4000 t)) (ilcm : mg "lcm" = some (.builtin "math.lcm")) (U : CurT K mg C fI fE) (B_TooMany : ErrT P w K mg base "TooMany" "most" CT fT dT) :
    FnOk P w K mg base (L2.CX P w) 3 f fd ["curve", "other"] (spPer K C CT) := by
  refine F.okX scPer (fun vs H Q E h => ?_) (fun cdv A outer s H vs Q E hr h => ?_)
  · obtain ⟨x, y, v, v', q, q', r, r', rfl, _⟩ := h
    rfl
  · obtain ⟨x, y, v, v', q, q', r, r', rfl, ⟨dx, t, x1, x2⟩, ⟨dy, u, y1, y2⟩, hq, hq', k1, k2⟩ := h
    obtain ⟨tmm, mMOST_MADE⟩ := MM
    refine ⟨_, (pss_cons (ps_set (i := 2) scPer.nd rfl (Or.inl rfl) (pe_callBfun LM.cr_lcm (by rfl) ilcm (pa_cons (pe_fld (pv 0) rfl) (pa_cons (pe_fld (pv 1) rfl) pa_nil))))
 (pss_cons (ps_if (pt_cmpR op_gt (pv 2) (pe_glob (v := .int 4000) rfl mMOST_MADE ⟨_, rfl⟩) (nomark _)) (pss_one
 (ps_raise rfl (takes_of rfl rfl rfl rfl) (pmk_oex B_TooMany.ox B_TooMany.iC B_TooMany.tI B_TooMany.fn (hr.mono (by decide)) B_TooMany.bd .nil pass0 rfl B_TooMany.gC (pa_cons (pe_glob (v := .int 4000) rfl mMOST_MADE ⟨_, rfl⟩) pa_nil)))) pss_nil)
 (pss_one
 (ps_ret (pv 2))))), ?_⟩
    refine ⟨_, rfl, x, C, dx, _, .int q, rfl, x1, U.cl, U.nP, rfl, _, rfl, y, C, dy, _, .int q', rfl, y1, U.cl, U.nP, rfl, q, q', rfl, by omega, by omega, ?_⟩
    by_cases c : Nat.lcm q q' ≤ 4000
    · exact ⟨_, rfl, _, _, rfl, rfl, false, bF (by omega), iteF ⟨_, rfl, k1 c⟩⟩
    · exact ⟨_, rfl, _, _, rfl, rfl, true, bT (by omega), iteT (mkO_post B_TooMany (k2 (by omega)))⟩
abbrev nGai : List Str := ["curve", "other", "step"]
theorem scGai : FnScope nGai ["curve", "other", "step"] (defScope sGai) := ⟨rfl, rfl, rfl, by decide +kernel, rfl, by decide +kernel, by decide +kernel⟩
def spGai (K : PySem.W.Frag) (C : Addr) : Sp := fun vs H Q _ => ∃ (x y : Addr) (v v' : List V) (q q' s : Nat) (r r' : Int), vs = [.ref x, .ref y, .int s] ∧ CurveAt H C x v q r ∧ CurveAt H C y v' q' r' ∧ 0 < q ∧ 0 < q' ∧ q ≤ 1000000 ∧ q' ≤ 1000000 ∧ s ≤ 1000000 ∧ Q (.int (((s / q : Nat) : Int) * r - ((s / q' : Nat) : Int) * r')) H
theorem ok_gai {f fI fE C : Addr} {fd : FuncData} (F : Fun K "gain_in" "gain_in" sGai f fd) (U : CurT K mg C fI fE) : FnOk P w K mg base CX0 1 f fd ["curve", "other", "step"] (spGai K C) := by
  refine F.ok scGai (fun vs H Q E h => ?_) (fun cdv A outer s H vs Q E hr h => ?_)
  · obtain ⟨x, y, v, v', q, q', s, r, r', rfl, _⟩ := h
    rfl
  · obtain ⟨x, y, v, v', q, q', st, r, r', rfl, ⟨dx, t, x1, x2⟩, ⟨dy, u, y1, y2⟩, hq, hq', hq2, hq3, hst, k⟩ := h
    refine ⟨_, (pss_one
 (ps_ret (pe_op op_sub (pe_op op_mul (pe_op op_fdivN (pv 2) (pe_fld (pv 0) rfl)) (pe_fld (pv 0) rfl)) (pe_op op_mul (pe_op op_fdivN (pv 2) (pe_fld (pv 1) rfl)) (pe_fld (pv 1) rfl))))), ?_⟩
    have e : ∀ q : Nat, Int.fdiv (st : Int) (q : Int) = ((st / q : Nat) : Int) := fun q => by
      rw [Int.fdiv_eq_ediv_of_nonneg _ (by omega)]
      rfl
    have d1 : st / q ≤ st := Nat.div_le_self _ _
    have d2 : st / q' ≤ st := Nat.div_le_self _ _
    have e1 := e q
    have e2 := e q'
    have p1 : 0 ≤ Int.fdiv (st : Int) (q : Int) := by rw [e1]; exact Int.natCast_nonneg _
    have p2 : 0 ≤ Int.fdiv (st : Int) (q' : Int) := by rw [e2]; exact Int.natCast_nonneg _
    rw [← e q, ← e q'] at k
    refine ⟨_, rfl, _, rfl, x, C, dx, _, .int q, rfl, x1, U.cl, U.nP, rfl, _, _, rfl, rfl, ⟨by omega, by omega⟩, ?_⟩
    refine ⟨_, rfl, x, C, dx, _, .int r, rfl, x1, U.cl, U.nG, rfl, _, _, rfl, rfl, .inl ⟨by omega, by omega⟩, ?_⟩
    refine ⟨_, rfl, _, rfl, y, C, dy, _, .int q', rfl, y1, U.cl, U.nP, rfl, _, _, rfl, rfl, ⟨by omega, by omega⟩, ?_⟩
    exact ⟨_, rfl, y, C, dy, _, .int r', rfl, y1, U.cl, U.nG, rfl, _, _, rfl, rfl, .inl ⟨by omega, by omega⟩, _, _, rfl, rfl, k⟩
abbrev nGap : List Str := ["row", "other_row", "one", "two"]
theorem scGap : FnScope nGap ["row", "other_row"] (defScope sGap) := ⟨rfl, rfl, rfl, by decide +kernel, rfl, by decide +kernel, by decide +kernel⟩
def spGap (K : PySem.W.Frag) : Sp := fun vs H Q _ => ∃ (a b : Addr) (n : Nat) (f g : Nat → Int), vs = [.ref a, .ref b] ∧ H a = some (.lst ((List.range n).map fun j => V.int (f j))) ∧ H b = some (.lst ((List.range n).map fun j => V.int (g j))) ∧ n ≤ 100000 ∧
  ∀ (z : Addr) (H' : Hp), H z = none → H' z = some (.lst ((List.range n).map fun j => V.int (f j - g j))) → Same H H' → Q (.ref z) H'
theorem ok_gap {f : Addr} {fd : FuncData} (F : Fun K "gaps_of" "gaps_of" sGap f fd) (T : CurG mg) : FnOk P w K mg base CX0 1 f fd ["row", "other_row"] (spGap K) := by
  refine F.ok scGap (fun vs H Q E h => ?_) (fun cdv A outer s H vs Q E hr h => ?_)
  · obtain ⟨a, b, n, f, g, rfl, _⟩ := h
    rfl
  · obtain ⟨a, b, n, f, g, rfl, ha, hb, hn, k⟩ := h
    refine ⟨_, (pss_one
 (ps_ret (pe_lc (own := [("one", 2), ("two", 3)]) (g := (gTup K 2 (gCons (gName 2) (gCons (gName 3) gNil)))) (tt := tYes) rfl scGap.nd (pi_zip (by rfl) T.zip (pa_cons (pv 0) (pa_cons (pv 1) pa_nil))) (blkOk_by (N := nGap) (sc := defScope sGap) (by decide +kernel)) (fun _ _ _ _ _ => (pg_tup rfl (pgs_cons (pg_name (i := 2) scGap.nd rfl (Or.inl rfl)) (pgs_cons (pg_name (i := 3) scGap.nd rfl (Or.inl rfl)) pgs_nil)))) (fun _ _ _ _ _ => pts_nil) (fun _ _ _ _ _ => (pe_op op_sub (pv 2) (pv 3)))))), ?_⟩
    have la : ((List.range n).map fun j => V.int (f j)).length = n := by rw [List.length_map, List.length_range]
    have lb : ((List.range n).map fun j => V.int (g j)).length = n := by rw [List.length_map, List.length_range]
    refine ⟨_, rfl, _, rfl, a, b, _, _, rfl, SqL.of ha, SqL.of hb, fun D hD => LM.lcM (walk_zip (xs := (List.range n).map fun j => V.int (f j)) (ys := (List.range n).map fun j => V.int (g j)) (n := n) (by rw [la, lb, Nat.min_self])) (fun i => V.int (f i - g i)) hD (by omega) (fun H2 s2 => ⟨SqL.of (s2 _ _ ha), SqL.of (s2 _ _ hb)⟩) ?_ fun H2 hd s2 => k D H2 hD hd s2⟩
    rintro i x H2 H3 hi s2 ⟨T, x1, y1, rfl, hT, rfl, gx, gy⟩ R N kk
    dsimp only at gx gy
    rw [List.getElem?_map, List.getElem?_range hi] at gx gy
    cases gx
    cases gy
    exact ⟨T, _, rfl, SqT.of upd_same, rfl, _, _, rfl, _, _, rfl, rfl, rfl, _, rfl, _, rfl, _, _, rfl, rfl, kk _ (LM.sNew hT)⟩
abbrev nFbe : List Str := ["row", "number", "place"]
theorem scFbe : FnScope nFbe ["row", "number"] (defScope sFbe) := ⟨rfl, rfl, rfl, by decide +kernel, rfl, by decide +kernel, by decide +kernel⟩
def spFbe (K : PySem.W.Frag) : Sp := fun vs H Q _ => ∃ (a : Addr) (n t : Nat) (f : Nat → Int) (m : Int), vs = [.ref a, .int m] ∧ H a = some (.lst ((List.range n).map fun j => V.int (f j))) ∧ t < n ∧ f t < m ∧ (∀ j, j < t → m ≤ f j) ∧ Q (.int t) H
theorem ok_fbe {f : Addr} {fd : FuncData} (F : Fun K "first_below" "first_below" sFbe f fd) : FnOk P w K mg base CX0 1 f fd ["row", "number"] (spFbe K) := by
  refine F.ok scFbe (fun vs H Q E h => ?_) (fun cdv A outer s H vs Q E hr h => ?_)
  · obtain ⟨a, n, t, f, m, rfl, _⟩ := h
    rfl
  · obtain ⟨a, n, t, f, m, rfl, ha, ht, h1, h2, k⟩ := h
    refine ⟨_, (pss_cons (ps_set (i := 2) scFbe.nd rfl (Or.inl rfl) pe_int)
 (pss_cons (ps_while PassesOwn.never (pt_cmpR op_ge (pe_ix ix_list (pv 0) (pv 2) (fun _ _ => rfl)) (pv 1) (nomark _)) (pss_one
 (ps_aug (i := 2) scFbe.nd rfl (Or.inl rfl) pe_int ip_add)))
 (pss_one
 (ps_ret (pv 2))))), ?_⟩
    have gm : ∀ j, j < n → ((List.range n).map fun j => V.int (f j))[j]? = some (V.int (f j)) := fun j hj => by
      rw [List.getElem?_map, List.getElem?_range hj]
      rfl
    refine while_by (fun σ H' => ∃ c : Nat, σ = [some (.ref a), some (.int m), some (.int c)] ∧ c ≤ t ∧ H' = H)
      (fun σ _ => match σ with
        | [_, _, some (.int c)] => t - c.toNat
        | _ => 0) ⟨0, rfl, Nat.zero_le _, rfl⟩ ?_ ?_
    · rintro σ H2 ⟨c, rfl, hc, rfl⟩
      refine ⟨_, rfl, _, rfl, a, _, _, _, rfl, rfl, SqL.of ha, atI_nat (gm c (by omega)), _, rfl, _, _, rfl, rfl, ?_⟩
      rcases Nat.lt_or_ge c t with l | l
      · refine ⟨true, bT (h2 c l), iteT ⟨_, rfl, _, _, rfl, rfl, ⟨c + 1, rfl, by omega, rfl⟩, ?_⟩⟩
        show t - ((c : Int) + 1).toNat < t - (c : Int).toNat
        omega
      · have e : c = t := by omega
        subst e
        exact ⟨false, bF (by omega), iteF ⟨_, rfl, k⟩⟩
    · intro σ H Q Q' m h
      obtain ⟨w1, f1, w2, f2, pp, xs, ii, vv, k1, k2, k3, k4, w4, f4, i2, j2, g3, g4, b, eb, hQ⟩ := h
      exact ⟨w1, f1, w2, f2, pp, xs, ii, vv, k1, k2, k3, k4, w4, f4, i2, j2, g3, g4, b, eb, m _ _ hQ⟩
end
end WW
end

section
set_option Elab.async false
set_option linter.all false
set_option maxRecDepth 100000
set_option maxHeartbeats 4000000
namespace WW
open PySem L2 WO WG RZ WQ WT WC
/-! ### one curve above another -/
def KCur (H : Hp) (C x : Addr) (L : Nat → V) (q : Nat) : Prop := ∃ (v : List V) (r : Int), CurveAt H C x v q r ∧ FormG L v q r ∧ Calm v q r ∧ v.length ≤ 4000
theorem KCur.same {H H' : Hp} {C x : Addr} {L : Nat → V} {q : Nat} (h : KCur H C x L q) (s : Same H H') : KCur H' C x L q := by
  obtain ⟨v, r, h1, h2, h3, h4⟩ := h
  exact ⟨v, r, h1.same s, h2, h3, h4⟩
def ival : V → Int
  | .int i => i
  | _ => 0
def Ab (a b : V) : Prop := (a = .non ∧ b ≠ .non) ∨ ∃ i k : Int, a = .int i ∧ b = .int k ∧ k < i
def IsFst (L M : Nat → V) (d : V) : Prop := (d = .non ∧ ∀ j, ¬ Ab (L j) (M j)) ∨ ∃ t : Nat, d = .int t ∧ Ab (L t) (M t) ∧ ∀ j, j < t → ¬ Ab (L j) (M j)
theorem IsFst.uniq {L M : Nat → V} {d e : V} (h : IsFst L M d) (h' : IsFst L M e) : d = e := by
  rcases h with ⟨rfl, h⟩ | ⟨t, rfl, h1, h2⟩ <;> rcases h' with ⟨rfl, k⟩ | ⟨u, rfl, k1, k2⟩
  · rfl
  · exact absurd k1 (h u)
  · exact absurd h1 (k t)
  · have a : ¬ u < t := fun l => h2 u l k1
    have b : ¬ t < u := fun l => k2 t l h1
    have : t = u := by omega
    rw [this]
theorem FormG.flatL {L : Nat → V} {v : List V} {q : Nat} {r : Int} (h : FormG L v q r) (j : Nat) : L j = .non ∨ L j = .int (ival (L j)) := by
  rcases h.cases' with ⟨f, b, e, _, _⟩ | ⟨s, e, _⟩
  · rw [e]; exact .inr rfl
  · rw [e]
    by_cases c : j < s.length
    · rw [fn_low c]; exact .inr rfl
    · rw [fn_high (by omega)]; exact .inl rfl
theorem ab_int {a b : V} (ha : a = .int (ival a)) (hb : b = .int (ival b)) : Ab a b ↔ ival b - ival a < 0 := by
  obtain ⟨i, rfl⟩ : ∃ i, a = .int i := ⟨_, ha⟩
  obtain ⟨k, rfl⟩ : ∃ k, b = .int k := ⟨_, hb⟩
  show _ ↔ k - i < 0
  constructor
  · rintro (⟨z, _⟩ | ⟨i', k', h1, h2, h3⟩)
    · cases z
    · have h1 := V.int.inj h1
      have h2 := V.int.inj h2
      omega
  · intro h
    exact .inr ⟨_, _, rfl, rfl, by omega⟩
/-- the end of a curve -/
theorem FormG.ends {L : Nat → V} {v : List V} {q : Nat} {r : Int} (h : FormG L v q r) : 0 < v.length ∧ ∃ lv, v[v.length - 1]? = some lv ∧
    ((lv = .non ∧ (∀ j, L j = .non ↔ v.length - 1 ≤ j)) ∨ (lv ≠ .non ∧ ∀ j, L j ≠ .non)) := by
  rcases h.cases' with ⟨f, b, e, hf, rfl⟩ | ⟨s, e, rfl, rfl, rfl⟩
  · have := hf.pos
    refine ⟨by rw [List.length_map, List.length_range]; omega, .int (f (b + q - 1)), ?_, .inr ⟨fun z => (by cases z), fun j z => (by rw [e] at z; cases z)⟩⟩
    rw [List.length_map, List.length_range, List.getElem?_map, List.getElem?_range (by omega)]
    rfl
  · refine ⟨by rw [List.length_append]; show 0 < _ + 1; omega, .non, ?_, .inl ⟨rfl, fun j => ?_⟩⟩
    · rw [List.length_append, List.length_map, List.getElem?_append_right (by rw [List.length_map]; show _ ≤ _ + 1 - 1; omega), List.length_map]
      show ([V.non] : List V)[s.length + 1 - 1 - s.length]? = _
      rw [show s.length + 1 - 1 - s.length = 0 by omega]
      rfl
    · rw [List.length_append, List.length_map, e]
      show _ ↔ s.length + 1 - 1 ≤ j
      by_cases c : j < s.length
      · rw [fn_low c]; exact ⟨fun z => (by cases z), fun z => (by omega)⟩
      · rw [fn_high (by omega)]; exact ⟨fun _ => by omega, fun _ => rfl⟩
/-- where the first of two ends -/
def IsEnd (L M : Nat → V) (m : Nat) : Prop := (L m = .non ∨ M m = .non) ∧ ∀ j, j < m → L j ≠ .non ∧ M j ≠ .non
section
variable {P : Program} {w : World} {K : PySem.W.Frag} {mg : Str → Option Value} {base : Heap}
abbrev nSho : List Str := ["curve", "other", "one"]
theorem scSho : FnScope nSho ["curve", "other"] (defScope sSho) := ⟨rfl, rfl, rfl, by decide +kernel, rfl, by decide +kernel, by decide +kernel⟩
def spSho (K : PySem.W.Frag) (C : Addr) : Sp := fun vs H Q _ => ∃ (x y : Addr) (L M : Nat → V) (q q' : Nat), vs = [.ref x, .ref y] ∧ KCur H C x L q ∧ KCur H C y M q' ∧ (∃ j, L j = .non ∨ M j = .non) ∧
  ∀ m, IsEnd L M m → m + 1 ≤ 4000 → ∀ H', Same H H' → Q (.int m) H'
theorem ok_sho {f C : Addr} {fd : FuncData} (F : Fun K "shorter_end" "shorter_end" sSho f fd) (T : CurG mg)
    (c_has : Cal P w K mg base CX0 1 "has_none" ["curve"] (spHas K C)) (c_fno : Cal P w K mg base CX0 1 "first_none" ["curve"] (spFno K C)) :
    FnOk P w K mg base CX0 2 f fd ["curve", "other"] (spSho K C) := by
  refine F.ok scSho (fun vs H Q E h => ?_) (fun cdv A outer s H vs Q E hr h => ?_)
  · obtain ⟨x, y, L, M, q, q', rfl, _⟩ := h
    rfl
  · obtain ⟨x, y, L, M, q, q', rfl, ⟨v, r, cx, fx, _, lx⟩, ⟨v', r', cy, fy, _, ly⟩, hne, k⟩ := h
    refine ⟨_, (pss_one
 (ps_ret (pe_callB (cr_min rfl) (by rfl) T.min (by decide +kernel) (pa_cons (pe_lc (own := [("one", 2)]) (g := (gName 2)) rfl scSho.nd (pi_tup (pe_tup (pa_cons (pv 0) (pa_cons (pv 1) pa_nil)))) (blkOk_by (N := nSho) (sc := defScope sSho) (by decide +kernel)) (fun _ _ _ _ _ => (pg_name (i := 2) scSho.nd rfl (Or.inl rfl))) (fun _ _ _ _ _ => pts_one (pt_val (pe_callC c_has (hr.mono (by decide)) rfl pass0 (pa_cons (pv 2) pa_nil)))) (fun _ _ _ _ _ => (pe_callC c_fno (hr.mono (by decide)) rfl pass0 (pa_cons (pv 2) pa_nil)))) pa_nil)))), ?_⟩
    obtain ⟨v0, lv, gv, ev⟩ := fx.ends
    obtain ⟨v0', lv', gv', ev'⟩ := fy.ends
    refine ⟨_, rfl, _, rfl, (by show 2 ≤ sizeLine; decide), fun u hu => ?_⟩
    generalize g1 : upd H u _ = H1
    obtain ⟨s1, f1⟩ := alloc g1 hu
    refine ⟨u, rfl, ⟨_, SqT.of f1⟩, fun D hD => LM.lcF (walk_tup (xs := [V.ref x, V.ref y])) (fun i => decide ((if i = 0 then lv else lv') = V.non)) (fun i => V.int (if i = 0 then ((v.length - 1 : Nat) : Int) else ((v'.length - 1 : Nat) : Int))) hD (by show 2 ≤ 200000; decide) (fun H2 s2 => SqT.of (s2 _ _ f1)) ?_ ?_⟩
    · rintro i z H2 H3 hi s2 ⟨rfl, hz⟩ R N k1 k2
      have hs := Same.trans s1 s2
      match i, hi, hz with
      | 0, _, hz =>
        cases hz
        refine ⟨rfl, _, rfl, x, v, _, _, lv, rfl, cx.same hs, gv, _, rfl, ?_⟩
        by_cases c : lv = .non
        · rw [decide_eq_true c]
          exact iteT ⟨_, rfl, x, v, _, _, rfl, cx.same hs, v0, k1 (decide_eq_true (by rw [if_pos rfl]; exact c)) _ (Same.refl _)⟩
        · rw [decide_eq_false c]
          exact iteF (k2 (decide_eq_false (by rw [if_pos rfl]; exact c)) _ (Same.refl _))
      | 1, _, hz =>
        cases hz
        refine ⟨rfl, _, rfl, y, v', _, _, lv', rfl, cy.same hs, gv', _, rfl, ?_⟩
        by_cases c : lv' = .non
        · rw [decide_eq_true c]
          exact iteT ⟨_, rfl, y, v', _, _, rfl, cy.same hs, v0', k1 (decide_eq_true c) _ (Same.refl _)⟩
        · rw [decide_eq_false c]
          exact iteF (k2 (decide_eq_false c) _ (Same.refl _))
    · intro H2 hd s2
      refine ⟨D, ((List.range [V.ref x, V.ref y].length).filter fun i => decide ((if i = 0 then lv else lv') = V.non)).map (fun i => if i = 0 then ((v.length - 1 : Nat) : Int) else ((v'.length - 1 : Nat) : Int)), rfl, ?_, ?_, fun m hm hle => ?_⟩
      · rw [List.map_map]
        exact SqL.of hd
      · rw [List.length_map]
        obtain ⟨j, hj⟩ := hne
        have : ∃ i, i < 2 ∧ (if i = 0 then lv else lv') = V.non := by
          rcases hj with hj | hj
          · rcases ev with ⟨e, _⟩ | ⟨_, e⟩
            · exact ⟨0, by omega, e⟩
            · exact absurd hj (e j)
          · rcases ev' with ⟨e, _⟩ | ⟨_, e⟩
            · exact ⟨1, by omega, e⟩
            · exact absurd hj (e j)
        obtain ⟨i, hi, e⟩ := this
        exact List.length_pos_of_mem (List.mem_filter.mpr ⟨List.mem_range.mpr hi, decide_eq_true e⟩)
      · obtain ⟨i, hi, e⟩ := List.mem_map.mp hm
        have hi := List.mem_filter.mp hi
        have hp := of_decide_eq_true hi.2
        have hi2 : i < 2 := List.mem_range.mp hi.1
        have low0 : lv = .non → m ≤ ((v.length - 1 : Nat) : Int) := fun c => hle _ (List.mem_map.mpr ⟨0, List.mem_filter.mpr ⟨List.mem_range.mpr (by show 0 < 2; omega), decide_eq_true c⟩, rfl⟩)
        have low1 : lv' = .non → m ≤ ((v'.length - 1 : Nat) : Int) := fun c => hle _ (List.mem_map.mpr ⟨1, List.mem_filter.mpr ⟨List.mem_range.mpr (by show 1 < 2; omega), decide_eq_true c⟩, rfl⟩)
        have fin : ∀ n : Nat, m = n → n + 1 ≤ 4000 → (L n = .non ∨ M n = .non) → Q (.int m) H2 := fun n hn hn4 hd => by
          rw [hn]
          refine k n ⟨hd, fun j hj => ⟨?_, ?_⟩⟩ hn4 H2 (Same.trans s1 s2)
          · rcases ev with ⟨c, e⟩ | ⟨_, e⟩
            · intro z
              have := (e j).mp z
              have := low0 c
              omega
            · exact e j
          · rcases ev' with ⟨c, e⟩ | ⟨_, e⟩
            · intro z
              have := (e j).mp z
              have := low1 c
              omega
            · exact e j
        by_cases c : i = 0
        · subst c
          have c : lv = .non := hp
          refine fin _ e.symm (by omega) (.inl ?_)
          rcases ev with ⟨_, e⟩ | ⟨n, _⟩
          · exact (e _).mpr (Nat.le_refl _)
          · exact absurd c n
        · rw [if_neg c] at hp e
          refine fin _ e.symm (by omega) (.inr ?_)
          rcases ev' with ⟨_, e⟩ | ⟨n, _⟩
          · exact (e _).mpr (Nat.le_refl _)
          · exact absurd hp n
end
end WW
end

section
set_option Elab.async false
set_option linter.all false
set_option maxRecDepth 100000
set_option maxHeartbeats 4000000
namespace WW
open PySem L2 WO WG RZ WQ WT
section
variable {P : Program} {w : World} {K : PySem.W.Frag} {mg : Str → Option Value} {base : Heap}
theorem pss_never {X : Cx} {st : List Stmt} : PSs X st (fun _ _ _ => False) := ⟨fun _ _ _ _ _ _ h => h.elim⟩
/-- a promise that asks more -/
theorem FnOk.weaken {CX : CXT} {n : Nat} {f : Addr} {fd : FuncData} {ps : List Str} {sp sp' : Sp} (F : FnOk P w K mg base CX n f fd ps sp) (h : ∀ vs H Q E, sp' vs H Q E → sp vs H Q E) : FnOk P w K mg base CX n f fd ps sp' :=
  ⟨fun vs H Q E q => F.len vs H Q E (h _ _ _ _ q), fun A outer s H args us vs Q E hr e0 hb hv hs => F.run A outer s H args us vs Q E hr e0 hb hv (h _ _ _ _ hs)⟩
end
end WW
end

section
set_option Elab.async false
set_option linter.all false
set_option maxRecDepth 100000
set_option maxHeartbeats 4000000
namespace WW
open PySem L2 WO WG RZ WQ WT WC
abbrev sMadeC : Stmt := top 23
abbrev sFlat : Stmt := top 32
abbrev sLine : Stmt := top 33
section
variable {P : Program} {w : World} {K : PySem.W.Frag} {mg : Str → Option Value} {base : Heap}
theorem make0 : MakeOk [V.int 0] 1 0 where
  st := ⟨by decide, by decide, fun i x h => by
      match i, h with
      | 0, h => cases h; exact .inr ⟨0, rfl, by decide, by decide⟩, fun i x y h h2 => by
      match i, h, h2 with
      | 0, _, h2 => cases h2⟩
  fo := .mkI [0] 1 0 (by decide) (by decide) (by decide) (by decide) (by decide)
  p1 := by decide
  p2 := by decide
  p3 := by decide
  g0 := by decide
  g1 := by decide
  fa := ⟨.int 0, .int 0, rfl, rfl, .inl ⟨0, 0, rfl, rfl, by decide⟩⟩
abbrev nMadeC : List Str := ["row", "period", "growth", "start", "step", "rise", "curve"]
theorem scMadeC : FnScope nMadeC ["row", "period", "growth"] (defScope sMadeC) := ⟨rfl, rfl, rfl, by decide +kernel, rfl, by decide +kernel, by decide +kernel⟩
def spMadeC (K : PySem.W.Frag) (C CT : Addr) : Sp := fun vs H Q E => ∃ (a : Addr) (xs : List V) (p : Nat) (g : Int), vs = [.ref a, .int p, .int g] ∧ H a = some (.lst xs) ∧ FormIn xs p g ∧
  (∀ (vals : List V) (q r : Int) (x : Addr) (H' : Hp), FormV xs p g vals q r → vals.length ≤ 4000 → H x = none → CurveAt H' C x vals q r → Same H H' → Q (.ref x) H') ∧
  (∀ (vals : List V) (q r : Int), FormV xs p g vals q r → 4000 < vals.length → ∀ d H', Raised H "most" (.int 4000) d H' → E (.ref CT) (some d) H')
theorem ok_madeC {f fI fE fT C CB CT : Addr} {fd dI dT : FuncData} (F : Fun K "made" "made" sMadeC f fd) (T : CurG mg) (MM : ∃ t, mg "MOST_MADE" = some (.int 4000 t)) (U : CurT K mg C fI fE) (B_TooMany : ErrT P w K mg base "TooMany" "most" CT fT dT)
    (GI : FnOk P w K mg base (L2.CX P w) 4 fI dI ["self", "start", "period", "growth"] (spInit K C CB)) (bI : Binds K dI ["self", "start", "period", "growth"] [])
    (c_frm : Cal P w K mg base CX0 2 "least_form" ["row", "period", "growth"] (spForm K)) :
    FnOk P w K mg base (L2.CX P w) 6 f fd ["row", "period", "growth"] (spMadeC K C CT) := by
  refine F.okX scMadeC (fun vs H Q E h => ?_) (fun cdv A outer s H vs Q E hr h => ?_)
  · obtain ⟨a, xs, p, g, rfl, _⟩ := h
    rfl
  · obtain ⟨a, xs, p, g, rfl, ha, fi, k1, k2⟩ := h
    obtain ⟨tmm, mMOST_MADE⟩ := MM
    refine ⟨_, (pss_cons (ps_asg (pe_callC c_frm (hr.mono (by decide)) rfl pass0 (pa_cons (pv 0) (pa_cons (pv 1) (pa_cons (pv 2) pa_nil)))) (pg_tup rfl (pgs_cons (pg_name (i := 3) scMadeC.nd rfl (Or.inl rfl)) (pgs_cons (pg_name (i := 4) scMadeC.nd rfl (Or.inl rfl)) (pgs_cons (pg_name (i := 5) scMadeC.nd rfl (Or.inl rfl)) pgs_nil)))))
 (pss_cons (ps_if (pt_cmpR op_gt (pe_callB call_len_seq (by rfl) T.len PySem.boot_len (pa_cons (pv 3) pa_nil)) (pe_glob (v := .int 4000) rfl mMOST_MADE ⟨_, rfl⟩) (nomark _)) (pss_one
 (ps_raise rfl (takes_of rfl rfl rfl rfl) (pmk_oex B_TooMany.ox B_TooMany.iC B_TooMany.tI B_TooMany.fn (hr.mono (by decide)) B_TooMany.bd .nil pass0 rfl B_TooMany.gC (pa_cons (pe_glob (v := .int 4000) rfl mMOST_MADE ⟨_, rfl⟩) pa_nil)))) pss_nil)
 (pss_cons (ps_set (i := 6) scMadeC.nd rfl (Or.inl rfl) (pe_make U.mkC GI (hr.mono (by decide)) rfl U.mC bI .nil (passX (E := E) (takes_of rfl rfl rfl rfl) fun _ _ _ _ h => h) (pa_cons (pe_tup (pa_cons pe_int pa_nil)) (pa_cons pe_int (pa_cons pe_int pa_nil)))))
 (pss_cons (ps_asg (pv 3) (pg_attr (pv 6)))
 (pss_cons (ps_asg (pv 4) (pg_attr (pv 6)))
 (pss_cons (ps_asg (pv 5) (pg_attr (pv 6)))
 (pss_one
 (ps_ret (pv 6))))))))), ?_⟩
    refine ⟨_, rfl, _, rfl, _, rfl, a, xs, p, g, rfl, ha, fi, fun vals q r t T' H1 fv ht hT s1 => ?_⟩
    refine ⟨T', _, rfl, SqT.of hT, rfl, _, _, rfl, _, _, rfl, _, _, rfl, rfl, ?_⟩
    by_cases c : vals.length ≤ 4000
    · refine ⟨_, rfl, t, _, rfl, .inr (SqT.of ht), _, _, rfl, rfl, false, bF (by omega), iteF ?_⟩
      refine ⟨(by show 1 ≤ sizeLine; decide), fun u hu => ?_⟩
      generalize g2 : upd H1 u _ = H2
      obtain ⟨s2, f2⟩ := alloc g2 hu
      refine fun x dx hx hdx ne => ?_
      generalize g3 : upd H2 dx _ = H3
      obtain ⟨s3, f3⟩ := alloc g3 hdx
      have hx3 : H3 x = none := by rw [← g3, upd_ne (Ne.symm ne)]; exact hx
      generalize g4 : upd H3 x _ = H4
      obtain ⟨s4, f4⟩ := alloc g4 hx3
      refine ⟨x, dx, _, _, _, rfl, f4, .inl ⟨u, _, 1, 0, rfl, rfl, rfl, .inr (SqT.of (s4 _ _ (s3 _ _ f2))), make0, fun vals0 q0 r0 H5 fv0 cu kp => ⟨rfl, ?_⟩⟩⟩
      have sx : ∀ (b : Addr) (o : HO), H2 b = some o → H5 b = some o := fun b o e => kp b o (s4 _ _ (s3 _ _ e)) (ne_of_none e hx)
      obtain ⟨dx', t', h1, h2⟩ := cu
      have ht5 : H5 t = some (.tup vals) := sx _ _ (s2 _ _ ht)
      have xt : x ≠ t := fun z => by rw [← z, h1] at ht5; cases ht5
      refine ⟨_, rfl, _, rfl, x, C, dx', _, rfl, h1, U.cl, U.nS, (by show 3 < 1000; decide), ?_⟩
      refine ⟨_, rfl, _, rfl, x, C, dx', _, rfl, upd_same, U.cl, U.nP, (by show 3 < 1000; decide), ?_⟩
      refine ⟨_, rfl, _, rfl, x, C, dx', _, rfl, upd_same, U.cl, U.nG, (by show 3 < 1000; decide), ?_⟩
      refine ⟨_, rfl, k1 vals q r x _ fv c (s1.free (s2.free hx)) ⟨dx', t, upd_same, by rw [upd_ne xt.symm, upd_ne xt.symm, upd_ne xt.symm]; exact ht5⟩ fun b o e => ?_⟩
      have e2 := s2 _ _ (s1 _ _ e)
      have bx : b ≠ x := ne_of_none e2 hx
      rw [upd_ne bx, upd_ne bx, upd_ne bx]
      exact sx _ _ e2
    · refine ⟨_, rfl, t, _, rfl, .inr (SqT.of ht), _, _, rfl, rfl, true, bT (by omega), iteT ?_⟩
      exact mkO_post B_TooMany fun d H' r' => k2 vals q r fv (by omega) d H' (Raised.same s1 r')
theorem flat_in {x : V} (hx : x = .non ∨ ∃ i : Int, x = .int i ∧ 0 ≤ i ∧ i ≤ 1000000000) : FormIn [x] 1 0 ∧ RowF [x] 1 0 (fun _ => x) := by
  rcases hx with rfl | ⟨i, rfl, i0, i1⟩
  · have e : (fun _ => V.non) = FN [] := by
      funext j
      rw [fn_high (Nat.zero_le _)]
    rw [e]
    exact ⟨.mkN [] 0 1 0 (by decide), .mkN [] 0 1 0⟩
  · have f1 := in_int (f := fun _ => i) (n := 1) (p := 1) (g := 0) (by decide) (by decide) (by decide) (by decide) (by decide)
    exact ⟨f1, row_int (f := fun _ => i) (n := 1) (p := 1) (g := 0) (by decide) (by decide) (by decide) (fun j _ => (Int.add_zero i).symm)⟩
def spFlat (K : PySem.W.Frag) (C CN : Addr) : Sp := fun vs H Q E => ∃ x : V, vs = [x] ∧
  (((x = .non ∨ ∃ i : Int, x = .int i ∧ 0 ≤ i ∧ i ≤ 1000000000) ∧ ∀ (y : Addr) (H' : Hp), H y = none → IsCur H' C y (fun _ => x) → Same H H' → Q (.ref y) H') ∨
   (x ≠ .non ∧ badFrom K H x 0 1000000000 ∧ ∀ d H', Raised H "part" (.str "number") d H' → E (.ref CN) (some d) H'))
abbrev nFlat : List Str := ["number"]
theorem scFlat : FnScope nFlat ["number"] (defScope sFlat) := ⟨rfl, rfl, rfl, by decide +kernel, rfl, by decide +kernel, by decide +kernel⟩
theorem ok_flat {f C CN CT : Addr} {fd : FuncData} (F : Fun K "flat" "flat" sFlat f fd) (T : CurG mg)
    (c_nnm : Cal P w K mg base (L2.CX P w) 4 "need_number" ["thing", "low", "high", "part"] (spNeedNum K CN)) (c_made : Cal P w K mg base (L2.CX P w) 6 "made" ["row", "period", "growth"] (spMadeC K C CT)) :
    FnOk P w K mg base (L2.CX P w) 7 f fd ["number"] (spFlat K C CN) := by
  refine F.okX scFlat (fun vs H Q E h => ?_) (fun cdv A outer s H vs Q E hr h => ?_)
  · obtain ⟨x, rfl, _⟩ := h
    rfl
  · obtain ⟨x, rfl, h⟩ := h
    obtain ⟨tm, mMOST⟩ := T.most
    refine ⟨_, (pss_cons (ps_if (pt_cmpR op_notN (pv 0) pe_non (nomark _)) (pss_one
 (ps_expr (pe_callC c_nnm (hr.mono (by decide)) rfl (passX (E := E) (takes_of rfl rfl rfl rfl) fun _ _ _ _ h => h) (pa_cons (pv 0) (pa_cons pe_int (pa_cons (pe_glob (v := .int 1000000000) rfl mMOST ⟨_, rfl⟩) (pa_cons pe_str pa_nil))))))) pss_nil)
 (pss_one
 (ps_ret (pe_callC c_made (hr.mono (by decide)) rfl (passX (E := E) (takes_of rfl rfl rfl rfl) fun _ _ _ _ h => h) (pa_cons (pe_lst (pa_cons (pv 0) pa_nil)) (pa_cons pe_int (pa_cons pe_int pa_nil))))))), ?_⟩
    rcases h with ⟨hx, k⟩ | ⟨n0, bad, k⟩
    · have last : ∀ u, H u = none → spMadeC K C CT [.ref u, .int 1, .int 0] (upd H u (.lst [x])) Q E := fun u hu => by
        have s1 : Same H (upd H u (.lst [x])) := same_new hu
        have fi := flat_in hx
        refine ⟨u, [x], 1, 0, rfl, upd_same, fi.1, fun vals q r y H' fv l hy cu s2 => ?_, fun vals q r fv l => ?_⟩
        · obtain ⟨q', rfl, fg⟩ := form_g fv fi.2
          exact k y H' (s1.free hy) ⟨_, _, _, cu, fg⟩ (Same.trans s1 s2)
        · have := formV_len fv
          simp only [List.length_cons, List.length_nil] at this
          omega
      rcases id hx with rfl | ⟨i, rfl, i0, i1⟩
      · exact ⟨_, rfl, rfl, false, rfl, iteF ⟨_, rfl, (by show 1 ≤ sizeLine; decide), fun u hu => last u hu⟩⟩
      · exact ⟨_, rfl, rfl, true, rfl, iteT ⟨_, rfl, _, _, _, _, rfl, .inl ⟨i, rfl, i0, i1, _, rfl, (by show 1 ≤ sizeLine; decide), fun u hu => last u hu⟩⟩⟩
    · exact ⟨_, rfl, rfl, true, (by rw [decide_eq_false n0]; rfl), iteT ⟨_, rfl, _, _, _, _, rfl, .inr ⟨bad, k⟩⟩⟩
/-- three numbers, one of them wrong: the first one's part -/
def Bad3 (K : PySem.W.Frag) (H : Hp) (x y z : V) (n1 : Str) (h1 : Int) (part : Str) : Prop :=
  (part = n1 ∧ badFrom K H x 0 h1) ∨ (part = "steps" ∧ (∃ i : Int, x = .int i ∧ 0 ≤ i ∧ i ≤ h1) ∧ badFrom K H y 0 1000000000) ∨
  (part = "beats" ∧ (∃ i : Int, x = .int i ∧ 0 ≤ i ∧ i ≤ h1) ∧ (∃ i : Int, y = .int i ∧ 0 ≤ i ∧ i ≤ 1000000000) ∧ badFrom K H z 1 60)
def lineF (b s : Int) (p : Nat) (j : Nat) : Int := if j = 0 then 0 else b + Int.fdiv (s * j) p
theorem line_qp {b s : Int} {p : Nat} (p0 : 0 < p) : MF.QP (lineF b s p) p s 1 := fun j hj => by
  unfold lineF
  rw [if_neg (by omega), if_neg (by omega)]
  have e : s * ((j + p : Nat) : Int) = s * (j : Int) + s * (p : Int) := by rw [Int.natCast_add, Int.mul_add]
  rw [e, Int.add_mul_fdiv_right _ _ (by omega)]
  omega
def lateF (w s : Int) (p : Nat) (j : Nat) : Int := if (j : Int) < w then 0 else Int.fdiv (s * (j - w)) p
theorem late_qp {n : Nat} {s : Int} {p : Nat} (p0 : 0 < p) : MF.QP (lateF n s p) p s n := fun j hj => by
  unfold lateF
  rw [if_neg (by omega), if_neg (by omega)]
  have e : s * (((j + p : Nat) : Int) - n) = s * ((j : Int) - n) + s * (p : Int) := by
    rw [← Int.mul_add]
    congr 1
    omega
  rw [e, Int.add_mul_fdiv_right _ _ (by omega)]
def spLine (K : PySem.W.Frag) (C CN : Addr) : Sp := fun vs H Q E => ∃ x y z : V, vs = [x, y, z] ∧
  ((∃ (b s : Int) (p : Nat), x = .int b ∧ y = .int s ∧ z = .int p ∧ 0 ≤ b ∧ b ≤ 1000000000 ∧ 0 ≤ s ∧ s ≤ 1000000000 ∧ 1 ≤ p ∧ p ≤ 60 ∧
     ∀ (y : Addr) (H' : Hp), H y = none → IsCur H' C y (fun j => .int (lineF b s p j)) → Same H H' → Q (.ref y) H') ∨
   (∃ part, Bad3 K H x y z "burst" 1000000000 part ∧ ∀ d H', Raised H "part" (.str part) d H' → E (.ref CN) (some d) H'))
abbrev nLine : List Str := ["burst", "steps", "beats", "row", "beat"]
theorem scLine : FnScope nLine ["burst", "steps", "beats"] (defScope sLine) := ⟨rfl, rfl, rfl, by decide +kernel, rfl, by decide +kernel, by decide +kernel⟩
theorem ok_line {f C CN CT : Addr} {fd : FuncData} (F : Fun K "line" "line" sLine f fd) (T : CurG mg)
    (c_nnm : Cal P w K mg base (L2.CX P w) 4 "need_number" ["thing", "low", "high", "part"] (spNeedNum K CN)) (c_made : Cal P w K mg base (L2.CX P w) 6 "made" ["row", "period", "growth"] (spMadeC K C CT)) :
    FnOk P w K mg base (L2.CX P w) 7 f fd ["burst", "steps", "beats"] (spLine K C CN) := by
  refine F.okX scLine (fun vs H Q E h => ?_) (fun cdv A outer s H vs Q E hr h => ?_)
  · obtain ⟨x, y, z, rfl, _⟩ := h
    rfl
  · obtain ⟨x, y, z, rfl, h⟩ := h
    obtain ⟨tm, mMOST⟩ := T.most
    refine ⟨_, (pss_cons (ps_expr (pe_callC c_nnm (hr.mono (by decide)) rfl (passX (E := E) (takes_of rfl rfl rfl rfl) fun _ _ _ _ h => h) (pa_cons (pv 0) (pa_cons pe_int (pa_cons (pe_glob (v := .int 1000000000) rfl mMOST ⟨_, rfl⟩) (pa_cons pe_str pa_nil))))))
 (pss_cons (ps_expr (pe_callC c_nnm (hr.mono (by decide)) rfl (passX (E := E) (takes_of rfl rfl rfl rfl) fun _ _ _ _ h => h) (pa_cons (pv 1) (pa_cons pe_int (pa_cons (pe_glob (v := .int 1000000000) rfl mMOST ⟨_, rfl⟩) (pa_cons pe_str pa_nil))))))
 (pss_cons (ps_expr (pe_callC c_nnm (hr.mono (by decide)) rfl (passX (E := E) (takes_of rfl rfl rfl rfl) fun _ _ _ _ h => h) (pa_cons (pv 2) (pa_cons pe_int (pa_cons pe_int (pa_cons pe_str pa_nil))))))
 (pss_cons (ps_setLc (i := 3) (own := [("beat", 4)]) (g := (gName 4)) (tt := tYes) rfl scLine.nd rfl rfl (sw_true rfl rfl rfl (by decide +kernel)) (pi_range2 (by rfl) T.range (pa_cons pe_int (pa_cons (pe_op op_add (pv 2) pe_int) pa_nil))) (blkOk_by (N := nLine) (sc := defScope sLine) (by decide +kernel)) (fun _ _ _ _ _ => (pg_name (i := 4) scLine.nd rfl (Or.inl rfl))) (fun _ _ _ _ _ => pts_nil) (fun _ _ _ _ _ => (pe_op op_add (pv 0) (pe_op op_fdivN (pe_op op_mul (pv 1) (pv 4)) (pv 2)))))
 (pss_one
 (ps_ret (pe_callC c_made (hr.mono (by decide)) rfl (passX (E := E) (takes_of rfl rfl rfl rfl) fun _ _ _ _ h => h) (pa_cons (pe_op op_cat (pe_lst (pa_cons pe_int pa_nil)) (pv 3)) (pa_cons (pv 2) (pa_cons (pv 1) pa_nil)))))))))), ?_⟩
    rcases h with ⟨b, s, p, rfl, rfl, rfl, b0, b1, s0, s1, p0, p1, k⟩ | ⟨part, bad, k⟩
    · refine ⟨_, rfl, _, _, _, _, rfl, .inl ⟨b, rfl, b0, b1, _, rfl, _, _, _, _, rfl, .inl ⟨s, rfl, s0, s1, _, rfl, _, _, _, _, rfl, .inl ⟨p, rfl, by omega, by omega, ?_⟩⟩⟩⟩
      refine ⟨_, rfl, _, _, rfl, rfl, 1, _, rfl, ⟨by decide, by decide, by omega, by omega⟩, fun D hD => LM.lcM (walk_range (lo := 1) (n := ((p : Int) + 1 - 1).toNat)) (fun i => V.int (b + Int.fdiv (s * (1 + (i : Int))) p)) hD (by omega) (fun _ _ => trivial) ?_ ?_⟩
      · rintro i v H2 H3 hi s2 ⟨rfl, rfl⟩ R N kk
        exact ⟨rfl, _, rfl, _, rfl, _, rfl, _, _, rfl, rfl, .inl ⟨by omega, by omega⟩, _, rfl, _, _, rfl, rfl, ⟨by omega, by omega⟩, _, _, rfl, rfl, kk _ (Same.refl _)⟩
      · intro H2 hd s2
        rw [show ((p : Int) + 1 - 1).toNat = p by omega] at hd
        refine ⟨(by show 1 ≤ sizeLine; decide), fun u hu => ?_⟩
        generalize g3 : upd H2 u _ = H3
        obtain ⟨s3, f3⟩ := alloc g3 hu
        refine ⟨_, rfl, u, D, _, _, rfl, rfl, f3, s3 _ _ hd, (by rw [List.length_map, List.length_range]; exact line_le (show 1 + p ≤ 200000 by omega)), fun z hz => ?_⟩
        generalize g4 : upd H3 z _ = H4
        obtain ⟨s4, f4⟩ := alloc g4 hz
        have ss := Same.trans s2 (Same.trans s3 s4)
        have e : [V.int 0] ++ (List.range p).map (fun (i : Nat) => V.int (b + Int.fdiv (s * (1 + (i : Int))) p)) = (List.range (p + 1)).map fun j => V.int (lineF b s p j) := by
          rw [List.range_succ_eq_map, List.map_cons, List.map_map]
          show _ :: _ = _ :: _
          congr 1
          refine List.map_congr_left fun i _ => ?_
          show V.int _ = V.int (lineF b s p (i + 1))
          unfold lineF
          rw [if_neg (by omega), show ((i + 1 : Nat) : Int) = 1 + (i : Int) by omega]
        rw [e] at f4
        refine ⟨_, rfl, _, rfl, z, _, p, s, rfl, f4, in_int p0 (by omega) (by omega) s0 (by omega), fun vals q r y H' fv l hy cu s5 => ?_, fun vals q r fv l => ?_⟩
        · obtain ⟨q', rfl, fg⟩ := form_g fv (row_int p0 (by omega) (by omega) (by rw [Nat.add_sub_cancel_left]; exact line_qp p0))
          exact k y H' (ss.free hy) ⟨_, _, _, cu, fg⟩ (Same.trans ss s5)
        · have := formV_len fv
          rw [List.length_map, List.length_range] at this
          omega
    · rcases bad with ⟨rfl, bd⟩ | ⟨rfl, ⟨i, rfl, i0, i1⟩, bd⟩ | ⟨rfl, ⟨i, rfl, i0, i1⟩, ⟨j, rfl, j0, j1⟩, bd⟩
      · exact ⟨_, rfl, _, _, _, _, rfl, .inr ⟨bd, k⟩⟩
      · exact ⟨_, rfl, _, _, _, _, rfl, .inl ⟨i, rfl, i0, i1, _, rfl, _, _, _, _, rfl, .inr ⟨bd, k⟩⟩⟩
      · exact ⟨_, rfl, _, _, _, _, rfl, .inl ⟨i, rfl, i0, i1, _, rfl, _, _, _, _, rfl, .inl ⟨j, rfl, j0, j1, _, rfl, _, _, _, _, rfl, .inr ⟨bd, k⟩⟩⟩⟩
end
end WW
end

section
set_option Elab.async false
set_option linter.all false
set_option maxRecDepth 100000
set_option maxHeartbeats 8000000
namespace WW
open PySem L2 WO WG RZ WQ WT WC
abbrev sLes : Stmt := top 48
abbrev sGre : Stmt := top 49
abbrev sAdd : Stmt := top 50
abbrev sJby : Stmt := top 54
abbrev sJen : Stmt := top 55
theorem row_ival2 {L : Nat → V} {v : List V} {q : Nat} {r : Int} (h : FormG L v q r) {n : Nat} (hn : ∀ j, j < n → L j ≠ .non) : (List.range n).map L = (List.range n).map fun j => V.int (ival (L j)) := by
  refine List.map_congr_left fun j hj => ?_
  rcases h.flatL j with e | e
  · exact absurd e (hn j (List.mem_range.mp hj))
  · exact e
/-- two values joined: none if one is -/
def joinV (h : Int → Int → Int) : V → V → V
  | .int i, .int j => .int (h i j)
  | _, _ => .non
theorem joinV_int {h : Int → Int → Int} {a b : V} (ha : a = .int (ival a)) (hb : b = .int (ival b)) : joinV h a b = .int (h (ival a) (ival b)) := by
  obtain ⟨i, rfl⟩ : ∃ i, a = .int i := ⟨_, ha⟩
  obtain ⟨j, rfl⟩ : ∃ j, b = .int j := ⟨_, hb⟩
  rfl
theorem joinV_non {h : Int → Int → Int} {a b : V} (n : a = .non ∨ b = .non) : joinV h a b = .non := by
  rcases n with rfl | rfl
  · rfl
  · cases a <;> rfl
/-- a row that ends -/
theorem ends_row {J : Nat → V} {t n p : Nat} {g : Int} (h1 : ∀ j, j < t → J j = .int (ival (J j))) (h2 : ∀ j, t ≤ j → J j = .non) (tn : t < n) (n4 : n ≤ 100000) : FormIn ((List.range n).map J) p g ∧ RowF ((List.range n).map J) p g J := by
  have e : J = FN ((List.range t).map fun j => ival (J j)) := by
    have l2 : ((List.range t).map fun j => ival (J j)).length = t := by rw [List.length_map, List.length_range]
    funext j
    by_cases c : j < t
    · rw [fn_low (by rw [l2]; exact c), List.getD_eq_getElem?_getD, List.getElem?_map, List.getElem?_range c]
      exact h1 j c
    · rw [fn_high (by rw [l2]; omega)]
      exact h2 j (by omega)
  have l2 : ((List.range t).map fun j => ival (J j)).length < n := by rw [List.length_map, List.length_range]; exact tn
  rw [e]
  rw [← e]
  exact ⟨by rw [e]; exact in_non l2 n4, by
    have r := row_non (s := (List.range t).map fun j => ival (J j)) (n := n) (p := p) (g := g) l2
    rw [← e] at r
    exact r⟩
theorem int_row {J : Nat → V} {n p : Nat} {g : Int} (p0 : 0 < p) (pn : p ≤ n) (n4 : n ≤ 100000) (g0 : 0 ≤ g) (g1 : g ≤ 1000000000000000000) (h : ∀ j, J j = .int (ival (J j))) (Q : MF.QP (fun j => ival (J j)) p g (n - p)) : FormIn ((List.range n).map J) p g ∧ RowF ((List.range n).map J) p g J := by
  have e : J = fun j => V.int (ival (J j)) := funext h
  have R := row_int (n := n) p0 pn (by omega) Q
  have I := in_int (f := fun j => ival (J j)) (n := n) p0 pn n4 g0 g1
  rw [← e] at R I
  exact ⟨I, R⟩
/-- a short curve -/
def KCn (kn : Nat) (H : Hp) (C x : Addr) (L : Nat → V) (q : Nat) : Prop := ∃ (v : List V) (r : Int), CurveAt H C x v q r ∧ FormG L v q r ∧ Calm v q r ∧ v.length ≤ kn
abbrev KC := KCn 400
theorem KCn.kcur {kn : Nat} {H : Hp} {C x : Addr} {L : Nat → V} {q : Nat} (h : KCn kn H C x L q) (hkn : kn ≤ 4000 := by decide) : KCur H C x L q := by
  obtain ⟨v, r, h1, h2, h3, h4⟩ := h
  exact ⟨v, r, h1, h2, h3, by omega⟩
theorem KCn.same {kn : Nat} {H H' : Hp} {C x : Addr} {L : Nat → V} {q : Nat} (h : KCn kn H C x L q) (s : Same H H') : KCn kn H' C x L q := by
  obtain ⟨v, r, h1, h2⟩ := h
  exact ⟨v, r, h1.same s, h2⟩
theorem KCn.has {kn : Nat} {H : Hp} {C x : Addr} {L : Nat → V} {q : Nat} (h : KCn kn H C x L q) : HasCur H C x := by
  obtain ⟨v, r, h1, _⟩ := h
  exact ⟨v, q, r, h1⟩
abbrev BadTwo (K : PySem.W.Frag) (C CB : Addr) (H : Hp) (x y : V) (E : XK) : Prop := (NoCur K H C x ∨ ((∃ a : Addr, x = .ref a ∧ HasCur H C a) ∧ NoCur K H C y)) ∧ ∀ d H', Raised H "part" .non d H' → E (.ref CB) (some d) H'
section
variable {P : Program} {w : World} {K : PySem.W.Frag} {mg : Str → Option Value} {base : Heap}
def spRowJ (K : PySem.W.Frag) (h : Int → Int → Int) : Sp := fun vs H Q _ => ∃ (a b : Addr) (n : Nat) (f g : Nat → Int), vs = [.ref a, .ref b] ∧ H a = some (.lst ((List.range n).map fun j => V.int (f j))) ∧ H b = some (.lst ((List.range n).map fun j => V.int (g j))) ∧ n ≤ 100000 ∧
  ∀ (z : Addr) (H' : Hp), H z = none → H' z = some (.lst ((List.range n).map fun j => V.int (h (f j) (g j)))) → Same H H' → Q (.ref z) H'
abbrev nLes : List Str := ["row", "other_row", "one", "two"]
theorem scLes : FnScope nLes ["row", "other_row"] (defScope sLes) := ⟨rfl, rfl, rfl, by decide +kernel, rfl, by decide +kernel, by decide +kernel⟩
theorem ok_les {f : Addr} {fd : FuncData} (F : Fun K "lesser_row" "lesser_row" sLes f fd) (T : CurG mg) : FnOk P w K mg base CX0 1 f fd ["row", "other_row"] (spRowJ K fun i j => if i < j then i else j) := by
  refine F.ok scLes (fun vs H Q E h => ?_) (fun cdv A outer s H vs Q E hr h => ?_)
  · obtain ⟨a, b, n, f, g, rfl, _⟩ := h
    rfl
  · obtain ⟨a, b, n, f, g, rfl, ha, hb, hn, k⟩ := h
    refine ⟨_, (pss_one
 (ps_ret (pe_lc (own := [("one", 2), ("two", 3)]) (g := (gTup K 2 (gCons (gName 2) (gCons (gName 3) gNil)))) (tt := tYes) rfl scLes.nd (pi_zip (by rfl) T.zip (pa_cons (pv 0) (pa_cons (pv 1) pa_nil))) (blkOk_by (N := nLes) (sc := defScope sLes) (by decide +kernel)) (fun _ _ _ _ _ => (pg_tup rfl (pgs_cons (pg_name (i := 2) scLes.nd rfl (Or.inl rfl)) (pgs_cons (pg_name (i := 3) scLes.nd rfl (Or.inl rfl)) pgs_nil)))) (fun _ _ _ _ _ => pts_nil) (fun _ _ _ _ _ => (pe_ifExp (pt_cmpR op_lt (pv 2) (pv 3) (nomark _)) (pv 2) (pv 3)))))), ?_⟩
    have la : ((List.range n).map fun j => V.int (f j)).length = n := by rw [List.length_map, List.length_range]
    have lb : ((List.range n).map fun j => V.int (g j)).length = n := by rw [List.length_map, List.length_range]
    refine ⟨_, rfl, _, rfl, a, b, _, _, rfl, SqL.of ha, SqL.of hb, fun D hD => LM.lcM (walk_zip (xs := (List.range n).map fun j => V.int (f j)) (ys := (List.range n).map fun j => V.int (g j)) (n := n) (by rw [la, lb, Nat.min_self])) (fun i => V.int (if f i < g i then f i else g i)) hD (by omega) (fun H2 s2 => ⟨SqL.of (s2 _ _ ha), SqL.of (s2 _ _ hb)⟩) ?_ fun H2 hd s2 => k D H2 hD hd s2⟩
    rintro i x H2 H3 hi s2 ⟨T, x1, y1, rfl, hT, rfl, gx, gy⟩ R N kk
    dsimp only at gx gy
    rw [List.getElem?_map, List.getElem?_range hi] at gx gy
    cases gx
    cases gy
    refine ⟨T, _, rfl, SqT.of upd_same, rfl, _, _, rfl, _, _, rfl, rfl, rfl, _, rfl, _, rfl, _, _, rfl, rfl, ?_⟩
    have kk := kk _ (LM.sNew (o := .tup [V.int (f i), V.int (g i)]) hT)
    by_cases c : f i < g i
    · rw [if_pos c] at kk
      exact ⟨true, bT c, iteT ⟨_, rfl, kk⟩⟩
    · rw [if_neg c] at kk
      exact ⟨false, bF c, iteF ⟨_, rfl, kk⟩⟩
abbrev nGre : List Str := ["row", "other_row", "one", "two"]
theorem scGre : FnScope nGre ["row", "other_row"] (defScope sGre) := ⟨rfl, rfl, rfl, by decide +kernel, rfl, by decide +kernel, by decide +kernel⟩
theorem ok_gre {f : Addr} {fd : FuncData} (F : Fun K "greater_row" "greater_row" sGre f fd) (T : CurG mg) : FnOk P w K mg base CX0 1 f fd ["row", "other_row"] (spRowJ K fun i j => if j < i then i else j) := by
  refine F.ok scGre (fun vs H Q E h => ?_) (fun cdv A outer s H vs Q E hr h => ?_)
  · obtain ⟨a, b, n, f, g, rfl, _⟩ := h
    rfl
  · obtain ⟨a, b, n, f, g, rfl, ha, hb, hn, k⟩ := h
    refine ⟨_, (pss_one
 (ps_ret (pe_lc (own := [("one", 2), ("two", 3)]) (g := (gTup K 2 (gCons (gName 2) (gCons (gName 3) gNil)))) (tt := tYes) rfl scGre.nd (pi_zip (by rfl) T.zip (pa_cons (pv 0) (pa_cons (pv 1) pa_nil))) (blkOk_by (N := nGre) (sc := defScope sGre) (by decide +kernel)) (fun _ _ _ _ _ => (pg_tup rfl (pgs_cons (pg_name (i := 2) scGre.nd rfl (Or.inl rfl)) (pgs_cons (pg_name (i := 3) scGre.nd rfl (Or.inl rfl)) pgs_nil)))) (fun _ _ _ _ _ => pts_nil) (fun _ _ _ _ _ => (pe_ifExp (pt_cmpR op_gt (pv 2) (pv 3) (nomark _)) (pv 2) (pv 3)))))), ?_⟩
    have la : ((List.range n).map fun j => V.int (f j)).length = n := by rw [List.length_map, List.length_range]
    have lb : ((List.range n).map fun j => V.int (g j)).length = n := by rw [List.length_map, List.length_range]
    refine ⟨_, rfl, _, rfl, a, b, _, _, rfl, SqL.of ha, SqL.of hb, fun D hD => LM.lcM (walk_zip (xs := (List.range n).map fun j => V.int (f j)) (ys := (List.range n).map fun j => V.int (g j)) (n := n) (by rw [la, lb, Nat.min_self])) (fun i => V.int (if g i < f i then f i else g i)) hD (by omega) (fun H2 s2 => ⟨SqL.of (s2 _ _ ha), SqL.of (s2 _ _ hb)⟩) ?_ fun H2 hd s2 => k D H2 hD hd s2⟩
    rintro i x H2 H3 hi s2 ⟨T, x1, y1, rfl, hT, rfl, gx, gy⟩ R N kk
    dsimp only at gx gy
    rw [List.getElem?_map, List.getElem?_range hi] at gx gy
    cases gx
    cases gy
    refine ⟨T, _, rfl, SqT.of upd_same, rfl, _, _, rfl, _, _, rfl, rfl, rfl, _, rfl, _, rfl, _, _, rfl, rfl, ?_⟩
    have kk := kk _ (LM.sNew (o := .tup [V.int (f i), V.int (g i)]) hT)
    by_cases c : g i < f i
    · rw [if_pos c] at kk
      exact ⟨true, bT c, iteT ⟨_, rfl, kk⟩⟩
    · rw [if_neg c] at kk
      exact ⟨false, bF c, iteF ⟨_, rfl, kk⟩⟩
abbrev nAdd : List Str := ["row", "other_row", "one", "two"]
theorem scAdd : FnScope nAdd ["row", "other_row"] (defScope sAdd) := ⟨rfl, rfl, rfl, by decide +kernel, rfl, by decide +kernel, by decide +kernel⟩
theorem ok_add {f : Addr} {fd : FuncData} (F : Fun K "added_row" "added_row" sAdd f fd) (T : CurG mg) : FnOk P w K mg base CX0 1 f fd ["row", "other_row"] (spRowJ K fun i j => i + j) := by
  refine F.ok scAdd (fun vs H Q E h => ?_) (fun cdv A outer s H vs Q E hr h => ?_)
  · obtain ⟨a, b, n, f, g, rfl, _⟩ := h
    rfl
  · obtain ⟨a, b, n, f, g, rfl, ha, hb, hn, k⟩ := h
    refine ⟨_, (pss_one
 (ps_ret (pe_lc (own := [("one", 2), ("two", 3)]) (g := (gTup K 2 (gCons (gName 2) (gCons (gName 3) gNil)))) (tt := tYes) rfl scAdd.nd (pi_zip (by rfl) T.zip (pa_cons (pv 0) (pa_cons (pv 1) pa_nil))) (blkOk_by (N := nAdd) (sc := defScope sAdd) (by decide +kernel)) (fun _ _ _ _ _ => (pg_tup rfl (pgs_cons (pg_name (i := 2) scAdd.nd rfl (Or.inl rfl)) (pgs_cons (pg_name (i := 3) scAdd.nd rfl (Or.inl rfl)) pgs_nil)))) (fun _ _ _ _ _ => pts_nil) (fun _ _ _ _ _ => (pe_op op_add (pv 2) (pv 3)))))), ?_⟩
    have la : ((List.range n).map fun j => V.int (f j)).length = n := by rw [List.length_map, List.length_range]
    have lb : ((List.range n).map fun j => V.int (g j)).length = n := by rw [List.length_map, List.length_range]
    refine ⟨_, rfl, _, rfl, a, b, _, _, rfl, SqL.of ha, SqL.of hb, fun D hD => LM.lcM (walk_zip (xs := (List.range n).map fun j => V.int (f j)) (ys := (List.range n).map fun j => V.int (g j)) (n := n) (by rw [la, lb, Nat.min_self])) (fun i => V.int (f i + g i)) hD (by omega) (fun H2 s2 => ⟨SqL.of (s2 _ _ ha), SqL.of (s2 _ _ hb)⟩) ?_ fun H2 hd s2 => k D H2 hD hd s2⟩
    rintro i x H2 H3 hi s2 ⟨T, x1, y1, rfl, hT, rfl, gx, gy⟩ R N kk
    dsimp only at gx gy
    rw [List.getElem?_map, List.getElem?_range hi] at gx gy
    cases gx
    cases gy
    exact ⟨T, _, rfl, SqT.of upd_same, rfl, _, _, rfl, _, _, rfl, rfl, rfl, _, rfl, _, rfl, _, _, rfl, rfl, kk _ (LM.sNew hT)⟩
/-! ### rows joined, made a curve -/
abbrev nJby : List Str := ["joined_row", "curve", "other", "many", "period", "growth"]
theorem scJby : FnScope nJby nJby (defScope sJby) := ⟨rfl, rfl, rfl, by decide +kernel, rfl, by decide +kernel, by decide +kernel⟩
def spJby (K : PySem.W.Frag) (C : Addr) (S : Addr → Option Sp) : Sp := fun vs H Q _ => ∃ (jf x y : Addr) (h : Int → Int → Int) (L M : Nat → V) (q q' n p : Nat) (g : Int), vs = [.ref jf, .ref x, .ref y, .int n, .int p, .int g] ∧ S jf = some (spRowJ K h) ∧ KCur H C x L q ∧ KCur H C y M q' ∧
  (∀ j, L j ≠ .non) ∧ (∀ j, M j ≠ .non) ∧ 0 < p ∧ p ≤ n ∧ n ≤ 4000 ∧ 0 ≤ g ∧ g ≤ 1000000000000000000 ∧ MF.QP (fun j => h (ival (L j)) (ival (M j))) p g (n - p) ∧
  ∀ (z : Addr) (H' : Hp), H z = none → IsCur H' C z (fun j => joinV h (L j) (M j)) → Same H H' → Q (.ref z) H'
theorem ok_jby {f C CT : Addr} {fd : FuncData} {S : Addr → Option Sp} (F : Fun K "joined_by" "joined_by" sJby f fd) (AH : ∀ f sp, S f = some sp → Held P w K mg base 1 f sp)
    (c_fir : Cal P w K mg base CX0 3 "first_values" ["curve", "many"] (spFirst K C)) (c_made : Cal P w K mg base (L2.CX P w) 6 "made" ["row", "period", "growth"] (spMadeC K C CT)) :
    FnOk P w K mg base (L2.CX P w) 7 f fd nJby (spJby K C S) := by
  refine F.okX scJby (fun vs H Q E h => ?_) (fun cdv A outer s H vs Q E hr h => ?_)
  · obtain ⟨jf, x, y, h, L, M, q, q', n, p, g, rfl, _⟩ := h
    rfl
  · obtain ⟨jf, x, y, h, L, M, q, q', n, p, g, rfl, hS, ⟨v, r, cx, fx, CMx, lx⟩, ⟨v', r', cy, fy, CMy, ly⟩, nL, nM, p0, pn, n4, g0, g1, Qp, k⟩ := h
    have px := fx.len
    have py := fy.len
    have rx := fx.rowF (by omega)
    have ry := fy.rowF (by omega)
    have eL := row_ival2 fx (n := n) fun j _ => nL j
    have eM := row_ival2 fy (n := n) fun j _ => nM j
    refine ⟨_, (pss_one
 (ps_ret (pe_callC c_made (hr.mono (by decide)) rfl (passX (E := E) (takes_of rfl rfl rfl rfl) fun _ _ _ _ h => h) (pa_cons (pe_callA (S := S) (i := 0) AH (hr.mono (by decide)) rfl (Or.inl rfl) (pa_cons (pe_callC c_fir (hr.mono (by decide)) rfl pass0 (pa_cons (pv 1) (pa_cons (pv 3) pa_nil))) (pa_cons (pe_callC c_fir (hr.mono (by decide)) rfl pass0 (pa_cons (pv 2) (pa_cons (pv 3) pa_nil))) pa_nil))) (pa_cons (pv 4) (pa_cons (pv 5) pa_nil)))))), ?_⟩
    refine ⟨jf, _, rfl, hS, _, rfl, _, rfl, x, v, q, n, r, L, rfl, cx, rx, CMx, by omega, by omega, by omega, fun z1 H2 hz1 e1 s2 => ?_⟩
    refine ⟨_, rfl, _, rfl, y, v', q', n, r', M, rfl, cy.same s2, ry, CMy, by omega, by omega, by omega, fun z2 H3 hz2 e2 s3 => ?_⟩
    rw [eL] at e1
    rw [eM] at e2
    refine ⟨z1, z2, n, _, _, rfl, s3 _ _ e1, e2, by omega, fun z3 H4 hz3 e3 s4 => ?_⟩
    have s24 := Same.trans s2 (Same.trans s3 s4)
    have R := row_int (f := fun j => h (ival (L j)) (ival (M j))) p0 pn (by omega) Qp
    refine ⟨_, rfl, _, rfl, z3, _, p, g, rfl, e3, in_int p0 pn (by omega) g0 g1, fun vals q2 r2 z4 H5 fv l4 hz4 cu s5 => ?_, fun vals q2 r2 fv l4 => ?_⟩
    · obtain ⟨q3, rfl, fo⟩ := form_g fv R
      refine k z4 H5 (s24.free hz4) ?_ (Same.trans s24 s5)
      have e : (fun j => joinV h (L j) (M j)) = fun j => V.int (h (ival (L j)) (ival (M j))) := by
        funext j
        refine joinV_int ?_ ?_
        · rcases fx.flatL j with z | z
          · exact absurd z (nL j)
          · exact z
        · rcases fy.flatL j with z | z
          · exact absurd z (nM j)
          · exact z
      rw [e]
      exact ⟨vals, q3, r2, cu, fo⟩
    · exfalso
      have := formV_len fv
      rw [List.length_map, List.length_range] at this
      omega
abbrev nJen : List Str := ["joined_row", "curve", "other", "many"]
theorem scJen : FnScope nJen ["joined_row", "curve", "other"] (defScope sJen) := ⟨rfl, rfl, rfl, by decide +kernel, rfl, by decide +kernel, by decide +kernel⟩
def spJen (K : PySem.W.Frag) (C : Addr) (S : Addr → Option Sp) : Sp := fun vs H Q _ => ∃ (jf x y : Addr) (h : Int → Int → Int) (L M : Nat → V) (q q' : Nat), vs = [.ref jf, .ref x, .ref y] ∧ S jf = some (spRowJ K h) ∧ KCur H C x L q ∧ KCur H C y M q' ∧
  (∃ j, L j = .non ∨ M j = .non) ∧ ∀ (z : Addr) (H' : Hp), H z = none → IsCur H' C z (fun j => joinV h (L j) (M j)) → Same H H' → Q (.ref z) H'
theorem ok_jen {f C CT : Addr} {fd : FuncData} {S : Addr → Option Sp} (F : Fun K "joined_ends" "joined_ends" sJen f fd) (AH : ∀ f sp, S f = some sp → Held P w K mg base 1 f sp)
    (c_sho : Cal P w K mg base CX0 2 "shorter_end" ["curve", "other"] (spSho K C))
    (c_fir : Cal P w K mg base CX0 3 "first_values" ["curve", "many"] (spFirst K C)) (c_made : Cal P w K mg base (L2.CX P w) 6 "made" ["row", "period", "growth"] (spMadeC K C CT)) :
    FnOk P w K mg base (L2.CX P w) 7 f fd ["joined_row", "curve", "other"] (spJen K C S) := by
  refine F.okX scJen (fun vs H Q E h => ?_) (fun cdv A outer s H vs Q E hr h => ?_)
  · obtain ⟨jf, x, y, h, L, M, q, q', rfl, _⟩ := h
    rfl
  · obtain ⟨jf, x, y, h, L, M, q, q', rfl, hS, kx, ky, hne, k⟩ := h
    obtain ⟨v, r, cx, fx, CMx, lx⟩ := id kx
    obtain ⟨v', r', cy, fy, CMy, ly⟩ := id ky
    have px := fx.len
    have py := fy.len
    have rx := fx.rowF (by omega)
    have ry := fy.rowF (by omega)
    refine ⟨_, (C8.pss_cut (ps_set (i := 3) scJen.nd rfl (Or.inl rfl) (pe_callC c_sho (hr.mono (by decide)) rfl pass0 (pa_cons (pv 1) (pa_cons (pv 2) pa_nil))))
 (pss_one
 (ps_ret (pe_callC c_made (hr.mono (by decide)) rfl (passX (E := E) (takes_of rfl rfl rfl rfl) fun _ _ _ _ h => h) (pa_cons (pe_op op_cat (pe_callA (S := S) (i := 0) AH (hr.mono (by decide)) rfl (Or.inl rfl) (pa_cons (pe_callC c_fir (hr.mono (by decide)) rfl pass0 (pa_cons (pv 1) (pa_cons (pv 3) pa_nil))) (pa_cons (pe_callC c_fir (hr.mono (by decide)) rfl pass0 (pa_cons (pv 2) (pa_cons (pv 3) pa_nil))) pa_nil))) (pe_lst (pa_cons pe_non pa_nil))) (pa_cons pe_int (pa_cons pe_int pa_nil))))))), ?_⟩
    refine ⟨fun σ H' => ∃ m : Nat, σ = [some (.ref jf), some (.ref x), some (.ref y), some (.int m)] ∧ IsEnd L M m ∧ m + 1 ≤ 4000 ∧ Same H H', ?_, ?_⟩
    · exact ⟨_, rfl, _, rfl, x, y, L, M, q, q', rfl, kx, ky, hne, fun m hm h4 H1 s1 => ⟨m, rfl, hm, h4, s1⟩⟩
    rintro σ H1 ⟨m, rfl, hm, h4, s1⟩
    have eL := row_ival2 fx (n := m) fun j hj => (hm.2 j hj).1
    have eM := row_ival2 fy (n := m) fun j hj => (hm.2 j hj).2
    refine ⟨jf, _, rfl, hS, _, rfl, _, rfl, x, v, q, m, r, L, rfl, cx.same s1, rx, CMx, by omega, by omega, by omega, fun z1 H2 hz1 e1 s2 => ?_⟩
    refine ⟨_, rfl, _, rfl, y, v', q', m, r', M, rfl, cy.same (Same.trans s1 s2), ry, CMy, by omega, by omega, by omega, fun z2 H3 hz2 e2 s3 => ?_⟩
    rw [eL] at e1
    rw [eM] at e2
    refine ⟨z1, z2, m, _, _, rfl, s3 _ _ e1, e2, by omega, fun z3 H4 hz3 e3 s4 => ?_⟩
    refine ⟨(by show 1 ≤ sizeLine; decide), fun u hu => ?_⟩
    generalize g5 : upd H4 u _ = H5
    obtain ⟨s5, f5⟩ := alloc g5 hu
    refine ⟨z3, u, _, _, rfl, rfl, s5 _ _ e3, f5, (by rw [List.length_map, List.length_range]; exact line_le (show m + 1 ≤ 200000 by omega)), fun z4 hz4 => ?_⟩
    generalize g6 : upd H5 z4 _ = H6
    obtain ⟨s6, f6⟩ := alloc g6 hz4
    have s16 : Same H H6 := Same.trans s1 (Same.trans s2 (Same.trans s3 (Same.trans s4 (Same.trans s5 s6))))
    generalize hs : (List.range m).map (fun j => h (ival (L j)) (ival (M j))) = sv
    have lsv : sv.length = m := by rw [← hs, List.length_map, List.length_range]
    have er : (List.range m).map (fun j => V.int (h (ival (L j)) (ival (M j)))) ++ [V.non] = (List.range (m + 1)).map (FN sv) := by
      rw [range_fn (s := sv) (n := m + 1) (by omega), lsv, show m + 1 - m = 1 by omega, ← hs, List.map_map]
      rfl
    have R := row_non (s := sv) (n := m + 1) (p := 1) (g := 0) (by omega)
    rw [er] at f6
    refine ⟨z4, _, 1, 0, rfl, f6, in_non (by omega) (by omega), fun vals q2 r2 z5 H7 fv l4 hz5 cu s7 => ?_, fun vals q2 r2 fv l4 => ?_⟩
    · obtain ⟨q3, rfl, fo⟩ := form_g fv R
      refine k z5 H7 (s16.free hz5) ?_ (Same.trans s16 s7)
      have e : (fun j => joinV h (L j) (M j)) = FN sv := by
        funext j
        by_cases c : j < m
        · rw [fn_low (by omega)]
          have := hm.2 j c
          rw [joinV_int (h := h) (a := L j) (b := M j) (by rcases fx.flatL j with z | z; exact absurd z this.1; exact z) (by rcases fy.flatL j with z | z; exact absurd z this.2; exact z)]
          rw [← hs, List.getD_eq_getElem?_getD, List.getElem?_map, List.getElem?_range c]
          rfl
        · rw [fn_high (by omega)]
          refine joinV_non ?_
          rcases hm.1 with z | z
          · obtain ⟨_, lv, _, ev⟩ := fx.ends
            rcases ev with ⟨_, ev⟩ | ⟨_, ev⟩
            · exact .inl ((ev j).mpr (by have := (ev m).mp z; omega))
            · exact absurd z (ev m)
          · obtain ⟨_, lv, _, ev⟩ := fy.ends
            rcases ev with ⟨_, ev⟩ | ⟨_, ev⟩
            · exact .inr ((ev j).mpr (by have := (ev m).mp z; omega))
            · exact absurd z (ev m)
      rw [e]
      exact ⟨vals, q3, r2, cu, fo⟩
    · exfalso
      have := formV_len fv
      rw [List.length_map, List.length_range] at this
      omega
end
end WW
end

section
set_option Elab.async false
set_option linter.all false
set_option maxRecDepth 100000
set_option maxHeartbeats 8000000
namespace WW
open PySem L2 WO WG RZ WQ WT WC
abbrev sSlo : Stmt := top 43
abbrev sLab : Stmt := top 44
abbrev sLle : Stmt := top 45
theorem num_of {L : Nat → V} {v : List V} {q : Nat} {r : Int} (h : FormG L v q r) (n : ∀ j, L j ≠ .non) : ∃ b, v.length = b + q ∧ MF.QP (fun j => ival (L j)) q r b := by
  rcases h.cases' with ⟨f, b, e, hf, rfl⟩ | ⟨s, e, _⟩
  · refine ⟨b, by rw [List.length_map, List.length_range], fun j hj => ?_⟩
    show ival (L (j + q)) = ival (L j) + r
    rw [e, e]
    exact hf.qp j hj
  · exact absurd (by rw [e]; exact fn_high (Nat.le_refl _)) (n s.length)
theorem mx_mem {f : Nat → Int} {n : Nat} {m : Int} (h : m ∈ (List.range n).map f) : ∃ j, j < n ∧ f j = m := by
  obtain ⟨j, hj, e⟩ := List.mem_map.mp h
  exact ⟨j, List.mem_range.mp hj, e⟩
theorem mx_le {f : Nat → Int} {n : Nat} {m : Int} (h : ∀ y, y ∈ (List.range n).map f → y ≤ m) : ∀ j, j < n → f j ≤ m := fun j hj => h _ (List.mem_map.mpr ⟨j, List.mem_range.mpr hj, rfl⟩)
/-- the last place of a row that is above a number -/
theorem last_place {d : Nat → Int} {n : Nat} {m : Int} (h : ∃ i, i < n ∧ m < d i) : ∃ t, t < n ∧ m < d t ∧ ∀ j, t < j → j < n → d j ≤ m := by
  induction n with
  | zero => obtain ⟨i, hi, _⟩ := h; omega
  | succ n ih =>
    by_cases c : m < d n
    · exact ⟨n, by omega, c, fun j h1 h2 => by omega⟩
    · obtain ⟨i, hi, hd⟩ := h
      have : i ≠ n := fun z => by subst z; exact c hd
      obtain ⟨t, t1, t2, t3⟩ := ih ⟨i, by omega, hd⟩
      refine ⟨t, by omega, t2, fun j h1 h2 => ?_⟩
      by_cases e : j = n
      · subst e; omega
      · exact t3 j h1 (by omega)
def LastAb (d : Nat → Int) (n b : Nat) (G : Int) (r : V) : Prop := (r = .non ∧ ∀ j, j < n → d j ≤ 0) ∨ ∃ t k : Nat, r = .int ((b + t + k * n : Nat) : Int) ∧ t < n ∧ (k : Int) * G < d t ∧ (∀ j, t < j → j < n → d j ≤ (k : Int) * G) ∧ ∀ j, j < n → d j ≤ ((k + 1 : Nat) : Int) * G
section
variable {P : Program} {w : World} {K : PySem.W.Frag} {mg : Str → Option Value} {base : Heap}
abbrev nSlo : List Str := ["curve", "other"]
theorem scSlo : FnScope nSlo nSlo (defScope sSlo) := ⟨rfl, rfl, rfl, by decide +kernel, rfl, by decide +kernel, by decide +kernel⟩
def spSlo (K : PySem.W.Frag) (C : Addr) : Sp := fun vs H Q _ => ∃ (x y : Addr) (v v' : List V) (q q' : Nat) (r r' : Int), vs = [.ref x, .ref y] ∧ CurveAt H C x v q r ∧ CurveAt H C y v' q' r' ∧ q ≤ 1000000 ∧ q' ≤ 1000000 ∧
  ∀ (T : Addr) (H' : Hp), H' T = some (.tup (if r' * q < r * q' then [.ref y, .ref x] else [.ref x, .ref y])) → Same H H' → Q (.ref T) H'
theorem ok_slo {f fI fE C : Addr} {fd : FuncData} (F : Fun K "slower_first" "slower_first" sSlo f fd) (U : CurT K mg C fI fE) : FnOk P w K mg base CX0 1 f fd nSlo (spSlo K C) := by
  refine F.ok scSlo (fun vs H Q E h => ?_) (fun cdv A outer s H vs Q E hr h => ?_)
  · obtain ⟨x, y, v, v', q, q', r, r', rfl, _⟩ := h
    rfl
  · obtain ⟨x, y, v, v', q, q', r, r', rfl, ⟨dx, t, x1, x2⟩, ⟨dy, u, y1, y2⟩, hq, hq', k⟩ := h
    refine ⟨_, (pss_cons (ps_if (pt_cmpR op_gt (pe_op op_mul (pe_fld (pv 0) rfl) (pe_fld (pv 1) rfl)) (pe_op op_mul (pe_fld (pv 1) rfl) (pe_fld (pv 0) rfl)) (nomark _)) (pss_one
 (ps_ret (pe_tup (pa_cons (pv 1) (pa_cons (pv 0) pa_nil))))) pss_nil)
 (pss_one
 (ps_ret (pe_tup (pa_cons (pv 0) (pa_cons (pv 1) pa_nil)))))), ?_⟩
    refine ⟨_, rfl, x, C, dx, _, .int r, rfl, x1, U.cl, U.nG, rfl, _, rfl, y, C, dy, _, .int q', rfl, y1, U.cl, U.nP, rfl, _, _, rfl, rfl, .inr ⟨by omega, by omega⟩, _, rfl, y, C, dy, _, .int r', rfl, y1, U.cl, U.nG, rfl, _, rfl, x, C, dx, _, .int q, rfl, x1, U.cl, U.nP, rfl, _, _, rfl, rfl, .inr ⟨by omega, by omega⟩, _, _, rfl, rfl, ?_⟩
    by_cases c : r' * (q : Int) < r * (q' : Int)
    · refine ⟨true, bT c, iteT ⟨_, rfl, _, rfl, (by show 2 ≤ sizeLine; decide), fun T hT => k T _ ?_ (same_new hT)⟩⟩
      rw [if_pos c]
      exact upd_same
    · refine ⟨false, bF c, iteF ⟨_, rfl, _, rfl, (by show 2 ≤ sizeLine; decide), fun T hT => k T _ ?_ (same_new hT)⟩⟩
      rw [if_neg c]
      exact upd_same
abbrev nLab : List Str := ["row", "other_row", "begin", "gain", "gaps", "most", "rounds", "place"]
theorem scLab : FnScope nLab ["row", "other_row", "begin", "gain"] (defScope sLab) := ⟨rfl, rfl, rfl, by decide +kernel, rfl, by decide +kernel, by decide +kernel⟩
def spLab (K : PySem.W.Frag) : Sp := fun vs H Q _ => ∃ (a b : Addr) (n c : Nat) (f g : Nat → Int) (G : Int), vs = [.ref a, .ref b, .int c, .int G] ∧ H a = some (.lst ((List.range n).map fun j => V.int (f j))) ∧ H b = some (.lst ((List.range n).map fun j => V.int (g j))) ∧ 0 < n ∧ n ≤ 100000 ∧ 0 < G ∧ G < 2 ^ 60 ∧
  ∀ r, LastAb (fun j => f j - g j) n c G r → ∀ H', Same H H' → Q r H'
theorem ok_lab {f : Addr} {fd : FuncData} (F : Fun K "last_above" "last_above" sLab f fd) (T : CurG mg) (nmax : mg "max" = none)
    (c_gap : Cal P w K mg base CX0 1 "gaps_of" ["row", "other_row"] (spGap K)) : FnOk P w K mg base CX0 2 f fd ["row", "other_row", "begin", "gain"] (spLab K) := by
  refine F.ok scLab (fun vs H Q E h => ?_) (fun cdv A outer s H vs Q E hr h => ?_)
  · obtain ⟨a, b, n, c, f, g, G, rfl, _⟩ := h
    rfl
  · obtain ⟨a, b, n, c, f, g, G, rfl, ha, hb, n0, hn, G0, G1, k⟩ := h
    refine ⟨_, (C8.pss_cut (ps_set (i := 4) scLab.nd rfl (Or.inl rfl) (pe_callC c_gap (hr.mono (by decide)) rfl pass0 (pa_cons (pv 0) (pa_cons (pv 1) pa_nil))))
 (C8.pss_cut (ps_set (i := 5) scLab.nd rfl (Or.inl rfl) (pe_callB (cr_max rfl) (by rfl) nmax (by decide +kernel) (pa_cons (pv 4) pa_nil)))
 (C8.pss_cut (ps_if (pt_cmpR op_le (pv 5) pe_int (nomark _)) (pss_one
 (ps_ret pe_non)) pss_nil)
 (C8.pss_cut (ps_set (i := 6) scLab.nd rfl (Or.inl rfl) (pe_op op_fdivW (pe_op op_sub (pv 5) pe_int) (pv 3)))
 (C8.pss_cut (ps_set (i := 7) scLab.nd rfl (Or.inl rfl) (pe_op op_sub (pe_callB call_len_seq (by rfl) T.len PySem.boot_len (pa_cons (pv 4) pa_nil)) pe_int))
 (C8.pss_cut (ps_while PassesOwn.never (pt_cmpR op_le (pe_ix ix_list (pv 4) (pv 7) (fun _ _ => rfl)) (pe_op op_mul (pv 6) (pv 3)) (nomark _)) (pss_one
 (ps_aug (i := 7) scLab.nd rfl (Or.inl rfl) pe_int ip_sub)))
 (pss_one
 (ps_ret (pe_op op_add (pe_op op_add (pv 2) (pv 7)) (pe_op op_mul (pv 6) (pe_callB call_len_seq (by rfl) T.len PySem.boot_len (pa_cons (pv 4) pa_nil)))))))))))), ?_⟩
    generalize hd : (fun j => f j - g j) = d at *
    refine ⟨fun σ H' => ∃ z, σ = [some (.ref a), some (.ref b), some (.int c), some (.int G), some (.ref z), none, none, none] ∧ H' z = some (.lst ((List.range n).map fun j => V.int (d j))) ∧ Same H H', ?_, ?_⟩
    · refine ⟨_, rfl, _, rfl, a, b, n, f, g, rfl, ha, hb, hn, fun z H1 hz ez s1 => ⟨z, rfl, ?_, s1⟩⟩
      rw [← hd]
      exact ez
    rintro σ H1 ⟨z, rfl, hz, s1⟩
    have gm : ∀ j, j < n → ((List.range n).map fun j => V.int (d j))[j]? = some (V.int (d j)) := fun j hj => by
      rw [List.getElem?_map, List.getElem?_range hj]
      rfl
    have lz : ((List.range n).map fun j => V.int (d j)).length = n := by rw [List.length_map, List.length_range]
    refine ⟨fun σ H' => ∃ m : Int, σ = [some (.ref a), some (.ref b), some (.int c), some (.int G), some (.ref z), some (.int m), none, none] ∧ H' = H1 ∧ (∃ i, i < n ∧ d i = m) ∧ ∀ j, j < n → d j ≤ m, ?_, ?_⟩
    · refine ⟨_, rfl, z, (List.range n).map d, rfl, ?_, ?_, fun m hm hle => ⟨m, rfl, rfl, mx_mem hm, mx_le hle⟩⟩
      · rw [List.map_map]
        exact SqL.of hz
      · rw [List.length_map, List.length_range]
        exact n0
    rintro σ H2 ⟨m, rfl, rfl, ⟨i0, i1, i2⟩, mle⟩
    refine ⟨fun σ H' => σ = [some (.ref a), some (.ref b), some (.int c), some (.int G), some (.ref z), some (.int m), none, none] ∧ H' = H2 ∧ 0 < m, ?_, ?_⟩
    · refine ⟨_, rfl, _, _, rfl, rfl, ?_⟩
      by_cases m0 : m ≤ 0
      · exact ⟨true, bT m0, iteT (k _ (.inl ⟨rfl, fun j hj => Int.le_trans (mle j hj) m0⟩) H2 s1)⟩
      · exact ⟨false, bF m0, iteF ⟨rfl, rfl, by omega⟩⟩
    rintro σ H3 ⟨rfl, rfl, m0⟩
    have k0 : 0 ≤ (m - 1) / G := Int.ediv_nonneg (by omega) (by omega)
    have dm := Int.emod_add_mul_ediv (m - 1) G
    have dl := Int.emod_lt_of_pos (m - 1) G0
    have dn := Int.emod_nonneg (m - 1) (show G ≠ 0 by omega)
    have cm : (m - 1) / G * G = G * ((m - 1) / G) := Int.mul_comm ..
    obtain ⟨t, t1, t2, t3⟩ := last_place (d := d) (n := n) (m := (m - 1) / G * G) ⟨i0, i1, by omega⟩
    refine ⟨fun σ H' => σ = [some (.ref a), some (.ref b), some (.int c), some (.int G), some (.ref z), some (.int m), some (.int ((m - 1) / G)), none] ∧ H' = H3, ?_, ?_⟩
    · exact ⟨_, rfl, _, _, rfl, rfl, _, rfl, _, _, rfl, rfl, wide_div (b := 64) G0 (by omega) (by decide) (by decide), rfl, rfl⟩
    rintro σ H4 ⟨rfl, rfl⟩
    generalize hR : (m - 1) / G = R at *
    refine ⟨fun σ H' => σ = [some (.ref a), some (.ref b), some (.int c), some (.int G), some (.ref z), some (.int m), some (.int R), some (.int ((n - 1 : Nat) : Int))] ∧ H' = H4, ?_, ?_⟩
    · refine ⟨_, rfl, z, _, rfl, .inl (SqL.of hz), _, _, rfl, rfl, ?_, rfl⟩
      rw [lz]
      show [_, _, _, _, _, _, _, some (V.int ((n : Int) - 1))] = _
      rw [show (n : Int) - 1 = ((n - 1 : Nat) : Int) by omega]
    rintro σ H5 ⟨rfl, rfl⟩
    refine ⟨fun σ H' => σ = [some (.ref a), some (.ref b), some (.int c), some (.int G), some (.ref z), some (.int m), some (.int R), some (.int (t : Int))] ∧ H' = H5, ?_, ?_⟩
    · refine while_by (fun σ H' => ∃ e : Nat, σ = [some (.ref a), some (.ref b), some (.int c), some (.int G), some (.ref z), some (.int m), some (.int R), some (.int e)] ∧ t ≤ e ∧ e < n ∧ H' = H5)
        (fun σ _ => match σ with
          | [_, _, _, _, _, _, _, some (.int e)] => e.toNat
          | _ => 0) ⟨n - 1, rfl, by omega, by omega, rfl⟩ ?_ ?_
      · rintro σ H6 ⟨e, rfl, te, en, rfl⟩
        refine ⟨_, rfl, _, rfl, z, _, _, _, rfl, rfl, SqL.of hz, atI_nat (gm e en), _, rfl, _, rfl, _, _, rfl, rfl, .inr ⟨by omega, by omega⟩, _, _, rfl, rfl, ?_⟩
        by_cases c : d e ≤ R * G
        · have ne : e ≠ t := fun z => by subst z; omega
          refine ⟨true, bT c, iteT ⟨_, rfl, _, _, rfl, rfl, ⟨e - 1, ?_, by omega, by omega, rfl⟩, ?_⟩⟩
          · show [_, _, _, _, _, _, _, some (V.int ((e : Int) - 1))] = _
            rw [show (e : Int) - 1 = ((e - 1 : Nat) : Int) by omega]
          · show ((e : Int) - 1).toNat < (e : Int).toNat
            omega
        · have : e = t := Classical.byContradiction fun ne => c (t3 e (by omega) en)
          subst this
          exact ⟨false, bF c, iteF ⟨rfl, rfl⟩⟩
      · intro σ H Q Q' m h
        obtain ⟨w1, f1, w2, f2, pp, xs, ii, vv, k1, k2, k3, k4, w4, f4, w5, f5, i1, j1, g1, g2, cc, i2, j2, g3, g4, b, eb, hQ⟩ := h
        exact ⟨w1, f1, w2, f2, pp, xs, ii, vv, k1, k2, k3, k4, w4, f4, w5, f5, i1, j1, g1, g2, cc, i2, j2, g3, g4, b, eb, m _ _ hQ⟩
    rintro σ H6 ⟨rfl, rfl⟩
    refine ⟨_, rfl, _, rfl, _, _, rfl, rfl, _, rfl, _, rfl, z, _, rfl, .inl (SqL.of hz), _, _, rfl, rfl, .inr ⟨by rw [lz]; omega, by rw [lz]; omega⟩, _, _, rfl, rfl, ?_⟩
    have er : (R.toNat : Int) = R := by omega
    have ev : (c : Int) + (t : Int) + R * (n : Int) = ((c + t + R.toNat * n : Nat) : Int) := by
      rw [Int.natCast_add, Int.natCast_add, Int.natCast_mul, er]
    refine k _ (.inr ⟨t, R.toNat, ?_, t1, ?_, fun j h1 h2 => ?_, fun j hj => ?_⟩) H6 s1
    · rw [lz]
      show V.int ((c : Int) + (t : Int) + R * (n : Int)) = _
      rw [ev]
    · rw [er]; exact t2
    · rw [er]; exact t3 j h1 h2
    · rw [show ((R.toNat + 1 : Nat) : Int) = R + 1 by omega, Int.add_mul, Int.one_mul]
      have := mle j hj
      omega
abbrev nLle : List Str := ["slow", "fast", "step", "begin", "gain", "slow_row", "fast_row", "last"]
theorem scLle : FnScope nLle ["slow", "fast", "step"] (defScope sLle) := ⟨rfl, rfl, rfl, by decide +kernel, rfl, by decide +kernel, by decide +kernel⟩
/-- numbers f regular from b on, told by a curve -/
def NumC (H : Hp) (C x : Addr) (f : Nat → Int) (q b : Nat) (r : Int) : Prop := ∃ (v : List V) (L : Nat → V), CurveAt H C x v q r ∧ FormG L v q r ∧ Calm v q r ∧ v.length = b + q ∧ (∀ j, L j = .int (f j)) ∧ MF.QP f q r b ∧ 0 < q
theorem NumC.same {H H' : Hp} {C x : Addr} {f : Nat → Int} {q b : Nat} {r : Int} (h : NumC H C x f q b r) (s : Same H H') : NumC H' C x f q b r := by
  obtain ⟨v, L, h1, h2⟩ := h
  exact ⟨v, L, h1.same s, h2⟩
theorem KCur.numC {H : Hp} {C x : Addr} {L : Nat → V} {q : Nat} (h : KCur H C x L q) (n : ∀ j, L j ≠ .non) : ∃ b r, b + q ≤ 4000 ∧ NumC H C x (fun j => ival (L j)) q b r := by
  obtain ⟨v, r, cx, fx, CM, lx⟩ := h
  obtain ⟨b, lb, Q⟩ := num_of fx n
  refine ⟨b, r, by omega, v, L, cx, fx, CM, lb, fun j => ?_, Q, fx.len.1⟩
  rcases fx.flatL j with z | z
  · exact absurd z (n j)
  · exact z
def spLle (K : PySem.W.Frag) (C : Addr) : Sp := fun vs H Q _ => ∃ (x y : Addr) (f g : Nat → Int) (q b q' b' S N : Nat) (r r' : Int), vs = [.ref x, .ref y, .int S] ∧ NumC H C x f q b r ∧ NumC H C y g q' b' r' ∧ S = Nat.lcm q q' ∧ S ≤ 4000 ∧ r * q' < r' * q ∧ N ≤ 3900 ∧ b ≤ 3900 ∧ b' ≤ 3900 ∧ (∀ j, N ≤ j → f j ≤ g j) ∧
  ∀ n : Nat, b ≤ n → b' ≤ n → n ≤ 3900 → (∀ j, n < j → f j ≤ g j) → ∀ H', Same H H' → Q (.int n) H'
theorem ok_lle {f CT C fT : Addr} {fd dT : FuncData} (F : Fun K "last_lead" "last_lead" sLle f fd) (T : CurG mg) (nmax : mg "max" = none) (MM : ∃ t, mg "MOST_MADE" = some (.int 4000 t)) (B_TooMany : ErrT P w K mg base "TooMany" "most" CT fT dT)
    (c_reg : Cal P w K mg base CX0 1 "regular_from" ["curve"] (spRegular K C)) (c_gai : Cal P w K mg base CX0 1 "gain_in" ["curve", "other", "step"] (spGai K C)) (c_fir : Cal P w K mg base CX0 3 "first_values" ["curve", "many"] (spFirst K C))
    (c_lab : Cal P w K mg base CX0 2 "last_above" ["row", "other_row", "begin", "gain"] (spLab K)) : FnOk P w K mg base (L2.CX P w) 4 f fd ["slow", "fast", "step"] (spLle K C) := by
  refine F.okX scLle (fun vs H Q E h => ?_) (fun cdv A outer s H vs Q E hr h => ?_)
  · obtain ⟨x, y, f, g, q, b, q', b', S, N, r, r', rfl, _⟩ := h
    rfl
  · obtain ⟨x, y, f, g, q, b, q', b', S, N, r, r', rfl, kx, ky, hS, S4, slow, N4, b4, b4', hN, k⟩ := h
    obtain ⟨tmm, mMOST_MADE⟩ := MM
    refine ⟨_, (C8.pss_cut (ps_set (i := 3) scLle.nd rfl (Or.inl rfl) (pe_callB (call_max2 rfl) (by rfl) nmax (by decide +kernel) (pa_cons (pe_callC c_reg (hr.mono (by decide)) rfl pass0 (pa_cons (pv 0) pa_nil)) (pa_cons (pe_callC c_reg (hr.mono (by decide)) rfl pass0 (pa_cons (pv 1) pa_nil)) pa_nil))))
 (C8.pss_cut (ps_set (i := 4) scLle.nd rfl (Or.inl rfl) (pe_callC c_gai (hr.mono (by decide)) rfl pass0 (pa_cons (pv 1) (pa_cons (pv 0) (pa_cons (pv 2) pa_nil)))))
 (C8.pss_cut (ps_set (i := 5) scLle.nd rfl (Or.inl rfl) (pe_slice sl_list (pe_callC c_fir (hr.mono (by decide)) rfl pass0 (pa_cons (pv 0) (pa_cons (pe_op op_add (pv 3) (pv 2)) pa_nil))) (po_some (pv 3)) po_none))
 (C8.pss_cut (ps_set (i := 6) scLle.nd rfl (Or.inl rfl) (pe_slice sl_list (pe_callC c_fir (hr.mono (by decide)) rfl pass0 (pa_cons (pv 1) (pa_cons (pe_op op_add (pv 3) (pv 2)) pa_nil))) (po_some (pv 3)) po_none))
 (C8.pss_cut (ps_set (i := 7) scLle.nd rfl (Or.inl rfl) (pe_callC c_lab (hr.mono (by decide)) rfl pass0 (pa_cons (pv 5) (pa_cons (pv 6) (pa_cons (pv 3) (pa_cons (pv 4) pa_nil))))))
 (C8.pss_cut (ps_if (pt_cmpR op_isN (pv 7) pe_non (nomark _)) (pss_one
 (ps_ret (pv 3))) pss_nil)
 (C8.pss_cut (ps_if (pt_cmpR op_ge (pv 7) (pe_glob (v := .int 4000) rfl mMOST_MADE ⟨_, rfl⟩) (nomark _)) (pss_one
 (ps_raise rfl (takes_of rfl rfl rfl rfl) (pmk_oex B_TooMany.ox B_TooMany.iC B_TooMany.tI B_TooMany.fn (hr.mono (by decide)) B_TooMany.bd .nil pass0 rfl B_TooMany.gC (pa_cons (pe_glob (v := .int 4000) rfl mMOST_MADE ⟨_, rfl⟩) pa_nil)))) pss_nil)
 (pss_one
 (ps_ret (pv 7)))))))))), ?_⟩
    obtain ⟨v, L, cx, fx, CMx, lx, ex, Qx, q0⟩ := id kx
    obtain ⟨v', L', cy, fy, CMy, ly, ey, Qy, q0'⟩ := id ky
    have S0 : 0 < S := by rw [hS]; exact Nat.lcm_pos q0 q0'
    have dq : S / q * q = S := by rw [hS]; exact Nat.div_mul_cancel (Nat.dvd_lcm_left q q')
    have dq' : S / q' * q' = S := by rw [hS]; exact Nat.div_mul_cancel (Nat.dvd_lcm_right q q')
    have ql : q ≤ S := by rw [hS]; exact Nat.le_of_dvd (Nat.lcm_pos q0 q0') (Nat.dvd_lcm_left q q')
    have ql' : q' ≤ S := by rw [hS]; exact Nat.le_of_dvd (Nat.lcm_pos q0 q0') (Nat.dvd_lcm_right q q')
    have rx := fx.rowF (by omega)
    have ry := fy.rowF (by omega)
    have Q1 := (Qx.up (S / q)).to (Nat.le_max_left b b')
    have Q2 := (Qy.up (S / q')).to (Nat.le_max_right b b')
    rw [dq] at Q1
    rw [dq'] at Q2
    have Qd := Q1.sub Q2
    refine ⟨fun σ H' => σ = [some (.ref x), some (.ref y), some (.int S), some (.int (max b b' : Nat)), none, none, none, none] ∧ H' = H, ?_, ?_⟩
    · refine ⟨_, rfl, x, v, q, r, rfl, cx, by omega, _, rfl, y, v', q', r', rfl, cy, by omega, _, _, rfl, ?_, rfl⟩
      rw [lx, ly, Nat.add_sub_cancel, Nat.add_sub_cancel]
      show [_, _, _, some (V.int (if (b' : Int) > (b : Int) then (b' : Int) else (b : Int))), _, _, _, _] = _
      rw [show (if (b' : Int) > (b : Int) then (b' : Int) else (b : Int)) = ((max b b' : Nat) : Int) by split <;> omega]
    rintro σ H1 ⟨rfl, rfl⟩
    have B1 : b ≤ max b b' := Nat.le_max_left _ _
    have B2 : b' ≤ max b b' := Nat.le_max_right _ _
    have B3 : max b b' ≤ 3900 := by omega
    generalize max b b' = B at *
    have G1 : 0 < ((S / q' : Nat) : Int) * r' - ((S / q : Nat) : Int) * r := by
      have e1 : ((S / q : Nat) : Int) * (q : Int) = (S : Int) := by rw [← Int.natCast_mul, dq]
      have e2 : ((S / q' : Nat) : Int) * (q' : Int) = (S : Int) := by rw [← Int.natCast_mul, dq']
      have p1 : 0 < ((S / q : Nat) : Int) := by
        have : 0 < S / q := Nat.div_pos ql q0
        omega
      have p2 : 0 < ((S / q' : Nat) : Int) := by
        have : 0 < S / q' := Nat.div_pos ql' q0'
        omega
      generalize ((S / q : Nat) : Int) = u at *
      generalize ((S / q' : Nat) : Int) = u' at *
      -- u q = u' q' = S, r q' < r' q: so u r S < u' r' S
      have h1 : r * (q' : Int) * (u * u') < r' * (q : Int) * (u * u') := Int.mul_lt_mul_of_pos_right slow (Int.mul_pos p1 p2)
      have h2 : r * (q' : Int) * (u * u') = (u * r) * (S : Int) := by rw [← e2]; simp only [Int.mul_assoc, Int.mul_comm, Int.mul_left_comm]
      have h3 : r' * (q : Int) * (u * u') = (u' * r') * (S : Int) := by rw [← e1]; simp only [Int.mul_assoc, Int.mul_comm, Int.mul_left_comm]
      rw [h2, h3] at h1
      have := Int.lt_of_mul_lt_mul_right h1 (by omega)
      omega
    have G2 : ((S / q' : Nat) : Int) * r' - ((S / q : Nat) : Int) * r < 2 ^ 60 := by
      have b1 : S / q' ≤ 4000 := Nat.le_trans (Nat.div_le_self _ _) S4
      have a0 : 0 ≤ ((S / q : Nat) : Int) * r := Int.mul_nonneg (Int.natCast_nonneg _) CMx.g0
      have g2 := CMy.g1
      have a3 : ((S / q' : Nat) : Int) * r' ≤ 4000 * 2 ^ 30 := Int.mul_le_mul (Int.ofNat_le.mpr b1) (by omega) CMy.g0 (by decide)
      omega
    rw [show ((S / q : Nat) : Int) * r - ((S / q' : Nat) : Int) * r' = -(((S / q' : Nat) : Int) * r' - ((S / q : Nat) : Int) * r) by omega] at Qd
    refine ⟨fun σ H' => σ = [some (.ref x), some (.ref y), some (.int S), some (.int B), some (.int (((S / q' : Nat) : Int) * r' - ((S / q : Nat) : Int) * r)), none, none, none] ∧ H' = H1, ⟨_, rfl, _, rfl, _, rfl, y, x, v', v, q', q, S, r', r, rfl, cy, cx, q0', q0, by omega, by omega, by omega, rfl, rfl⟩, ?_⟩
    rintro σ H2 ⟨rfl, rfl⟩
    generalize ((S / q' : Nat) : Int) * r' - ((S / q : Nat) : Int) * r = G at *
    have rowE : ∀ {L : Nat → V} {f : Nat → Int}, (∀ j, L j = .int (f j)) → cutV ((List.range (B + S)).map L) (some (B : Int)) none = (List.range S).map fun j => V.int (f (B + j)) := fun {L f} e => by
      rw [cutL (by rw [List.length_map, List.length_range]; omega), ← List.map_drop, List.range_add, List.drop_append, List.length_range, Nat.sub_self, List.drop_of_length_le (by rw [List.length_range]; exact Nat.le_refl _), List.nil_append, List.drop_zero, List.map_map]
      exact List.map_congr_left fun j _ => e (B + j)
    refine ⟨fun σ H' => ∃ z, σ = [some (.ref x), some (.ref y), some (.int S), some (.int B), some (.int G), some (.ref z), none, none] ∧ H' z = some (.lst ((List.range S).map fun j => V.int (f (B + j)))) ∧ Same H2 H', ?_, ?_⟩
    · refine ⟨_, rfl, _, rfl, _, rfl, _, _, rfl, rfl, x, v, q, B + S, r, L, rfl, cx, rx, CMx, by omega, by omega, by omega, fun z1 H3 hz1 e1 s3 => ?_⟩
      refine ⟨_, rfl, (B : Int), rfl, z1, _, rfl, SqL.of e1, fun u hu => ⟨u, rfl, ?_, Same.trans s3 (same_new hu)⟩⟩
      rw [rowE ex]
      exact upd_same
    rintro σ H3 ⟨z, rfl, hz, s3⟩
    refine ⟨fun σ H' => ∃ z', σ = [some (.ref x), some (.ref y), some (.int S), some (.int B), some (.int G), some (.ref z), some (.ref z'), none] ∧ H' z = some (.lst ((List.range S).map fun j => V.int (f (B + j)))) ∧ H' z' = some (.lst ((List.range S).map fun j => V.int (g (B + j)))) ∧ Same H2 H', ?_, ?_⟩
    · refine ⟨_, rfl, _, rfl, _, rfl, _, _, rfl, rfl, y, v', q', B + S, r', L', rfl, cy.same s3, ry, CMy, by omega, by omega, by omega, fun z1 H4 hz1 e1 s4 => ?_⟩
      refine ⟨_, rfl, (B : Int), rfl, z1, _, rfl, SqL.of e1, fun u hu => ⟨u, rfl, same_new hu _ _ (s4 _ _ hz), ?_, Same.trans s3 (Same.trans s4 (same_new hu))⟩⟩
      rw [rowE ey]
      exact upd_same
    rintro σ H4 ⟨z', rfl, hz4, hz', s4⟩
    refine ⟨fun σ H' => ∃ d, σ = [some (.ref x), some (.ref y), some (.int S), some (.int B), some (.int G), some (.ref z), some (.ref z'), some d] ∧ LastAb (fun j => f (B + j) - g (B + j)) S B G d ∧ Same H2 H', ?_, ?_⟩
    · exact ⟨_, rfl, _, rfl, _, rfl, _, rfl, z, z', S, B, _, _, G, rfl, hz4, hz', S0, by omega, G1, G2, fun d hd H5 s5 => ⟨d, rfl, hd, Same.trans s4 s5⟩⟩
    rintro σ H5 ⟨d, rfl, hd, s5⟩
    have neg : ∀ k : Nat, (k : Int) * (-G) = -((k : Int) * G) := fun k => Int.mul_neg ..
    have val : ∀ i k : Nat, f (B + i + k * S) - g (B + i + k * S) = f (B + i) - g (B + i) - (k : Int) * G := fun i k => by
      have m := Qd.mul (j := B + i) (by omega) k
      rw [neg] at m
      have m : f (B + i + k * S) - g (B + i + k * S) = f (B + i) - g (B + i) + -((k : Int) * G) := m
      omega
    refine ⟨fun σ H' => σ = [some (.ref x), some (.ref y), some (.int S), some (.int B), some (.int G), some (.ref z), some (.ref z'), some d] ∧ H' = H5 ∧ d ≠ .non, ?_, ?_⟩
    · refine ⟨_, rfl, rfl, ?_⟩
      rcases hd with ⟨rfl, hd⟩ | ⟨t, k1, rfl, _⟩
      · refine ⟨true, rfl, iteT ⟨_, rfl, k B B1 B2 B3 (fun j hj => ?_) H5 s5⟩⟩
        obtain ⟨kk, i, e, hi⟩ := MF.dec_add S0 (show B ≤ j by omega)
        have v := val i kk
        rw [← e] at v
        have h0 : f (B + i) - g (B + i) ≤ 0 := hd i hi
        have : 0 ≤ (kk : Int) * G := Int.mul_nonneg (by omega) (by omega)
        omega
      · exact ⟨false, rfl, iteF ⟨rfl, rfl, fun z => by cases z⟩⟩
    rintro σ H6 ⟨rfl, rfl, dn⟩
    rcases hd with ⟨rfl, _⟩ | ⟨t, k1, rfl, t1, t2, t3, t4⟩
    · exact absurd rfl dn
    have vt := val t k1
    have small : B + t + k1 * S < N := by
      rcases Nat.lt_or_ge (B + t + k1 * S) N with z | z
      · exact z
      · have := hN _ z
        have t2 : (k1 : Int) * G < f (B + t) - g (B + t) := t2
        omega
    have later : ∀ j, B + t + k1 * S < j → f j ≤ g j := fun j hj => by
      obtain ⟨kk, i, e, hi⟩ := MF.dec_add S0 (show B ≤ j by omega)
      have v := val i kk
      rw [← e] at v
      have t4 : f (B + i) - g (B + i) ≤ ((k1 + 1 : Nat) : Int) * G := t4 i hi
      rcases Nat.lt_or_ge k1 kk with c | c
      · have : ((k1 + 1 : Nat) : Int) * G ≤ (kk : Int) * G := Int.mul_le_mul_of_nonneg_right (by omega) (by omega)
        omega
      · rcases Nat.lt_or_ge kk k1 with c2 | c2
        · exfalso
          have : (kk + 1) * S ≤ k1 * S := Nat.mul_le_mul_right _ c2
          rw [Nat.succ_mul] at this
          omega
        · have : kk = k1 := by omega
          subst this
          have t3 : f (B + i) - g (B + i) ≤ (kk : Int) * G := t3 i (by omega) hi
          omega
    refine ⟨fun σ H' => σ = [some (.ref x), some (.ref y), some (.int S), some (.int B), some (.int G), some (.ref z), some (.ref z'), some (.int ((B + t + k1 * S : Nat) : Int))] ∧ H' = H6, ?_, ?_⟩
    · exact ⟨_, rfl, _, _, rfl, rfl, false, bF (by omega), iteF ⟨rfl, rfl⟩⟩
    rintro σ H7 ⟨rfl, rfl⟩
    exact ⟨_, rfl, k _ (by omega) (by omega) (by omega) later H7 s5⟩
end
end WW
end

section
set_option Elab.async false
set_option linter.all false
set_option maxRecDepth 100000
set_option maxHeartbeats 8000000
namespace WW
open PySem L2 WO WG RZ WQ WT WC
abbrev sSet : Stmt := top 46
abbrev sJnu : Stmt := top 53
def hm (least : Bool) (i j : Int) : Int := if least = true then (if i < j then i else j) else (if j < i then i else j)
section
variable {P : Program} {w : World} {K : PySem.W.Frag} {mg : Str → Option Value} {base : Heap}
abbrev nSet : List Str := ["curve", "other", "least", "slow", "fast", "kept", "last"]
theorem scSet : FnScope nSet ["curve", "other", "least"] (defScope sSet) := ⟨rfl, rfl, rfl, by decide +kernel, rfl, by decide +kernel, by decide +kernel⟩
def spSet (K : PySem.W.Frag) (C : Addr) : Sp := fun vs H Q _ => ∃ (x y : Addr) (least : Bool) (f g : Nat → Int) (q b q' b' N : Nat) (r r' : Int), vs = [.ref x, .ref y, .bl least] ∧ NumC H C x f q b r ∧ NumC H C y g q' b' r' ∧ Nat.lcm q q' ≤ 4000 ∧ q ≤ 4000 ∧ q' ≤ 4000 ∧ N ≤ 3900 ∧ b ≤ 3900 ∧ b' ≤ 3900 ∧
  ((r * q' < r' * q ∧ ∀ j, N ≤ j → f j ≤ g j) ∨ (r' * q < r * q' ∧ ∀ j, N ≤ j → g j ≤ f j)) ∧
  ∀ (T z : Addr) (n : Nat) (H' : Hp) (fk : Nat → Int) (qk bk : Nat) (rk : Int), H' T = some (.tup [.int n, .ref z]) → NumC H' C z fk qk bk rk → (qk = q ∨ qk = q') → bk ≤ n → n ≤ 3901 → (∀ j, n ≤ j → hm least (f j) (g j) = fk j) → Same H H' → Q (.ref T) H'
theorem ok_set {f C CT : Addr} {fd : FuncData} (F : Fun K "settled" "settled" sSet f fd) (T : CurG mg) (nmax : mg "max" = none)
    (c_slo : Cal P w K mg base CX0 1 "slower_first" nSlo (spSlo K C)) (c_lle : Cal P w K mg base (L2.CX P w) 4 "last_lead" ["slow", "fast", "step"] (spLle K C)) (c_per : Cal P w K mg base (L2.CX P w) 3 "common_period" ["curve", "other"] (spPer K C CT))
    (c_reg : Cal P w K mg base CX0 1 "regular_from" ["curve"] (spRegular K C)) : FnOk P w K mg base (L2.CX P w) 5 f fd ["curve", "other", "least"] (spSet K C) := by
  refine F.okX scSet (fun vs H Q E h => ?_) (fun cdv A outer s H vs Q E hr h => ?_)
  · obtain ⟨x, y, least, f, g, q, b, q', b', N, r, r', rfl, _⟩ := h
    rfl
  · obtain ⟨x, y, least, f, g, q, b, q', b', N, r, r', rfl, kx, ky, S4, q4, q4', N4, b4, b4', hc, k⟩ := h
    refine ⟨_, (C8.pss_cut (ps_asg (pe_callC c_slo (hr.mono (by decide)) rfl pass0 (pa_cons (pv 0) (pa_cons (pv 1) pa_nil))) (pg_tup rfl (pgs_cons (pg_name (i := 3) scSet.nd rfl (Or.inl rfl)) (pgs_cons (pg_name (i := 4) scSet.nd rfl (Or.inl rfl)) pgs_nil))))
 (C8.pss_cut (ps_set (i := 5) scSet.nd rfl (Or.inl rfl) (pe_ifExp (pt_val (pv 2)) (pv 3) (pv 4)))
 (C8.pss_cut (ps_set (i := 6) scSet.nd rfl (Or.inl rfl) (pe_callC c_lle (hr.mono (by decide)) rfl (passX (E := E) (takes_of rfl rfl rfl rfl) fun _ _ _ _ h => h) (pa_cons (pv 3) (pa_cons (pv 4) (pa_cons (pe_callC c_per (hr.mono (by decide)) rfl (passX (E := E) (takes_of rfl rfl rfl rfl) fun _ _ _ _ h => h) (pa_cons (pv 0) (pa_cons (pv 1) pa_nil))) pa_nil)))))
 (pss_one
 (ps_ret (pe_tup (pa_cons (pe_callB (call_max2 rfl) (by rfl) nmax (by decide +kernel) (pa_cons (pe_op op_add (pv 6) pe_int) (pa_cons (pe_callC c_reg (hr.mono (by decide)) rfl pass0 (pa_cons (pv 5) pa_nil)) pa_nil))) (pa_cons (pv 5) pa_nil)))))))), ?_⟩
    refine ⟨fun σ H' => ∃ (s t : Addr) (fs ft : Nat → Int) (qs bs qt bt : Nat) (rs rt : Int), σ = [some (.ref x), some (.ref y), some (.bl least), some (.ref s), some (.ref t), none, none] ∧ Same H H' ∧ NumC H' C s fs qs bs rs ∧ NumC H' C t ft qt bt rt ∧ rs * qt < rt * qs ∧ (∀ j, N ≤ j → fs j ≤ ft j) ∧ Nat.lcm q q' = Nat.lcm qs qt ∧ bs ≤ 3900 ∧ bt ≤ 3900 ∧ (qs = q ∨ qs = q') ∧ (qt = q ∨ qt = q') ∧ ((fs = f ∧ ft = g) ∨ (fs = g ∧ ft = f)), ?_, ?_⟩
    · obtain ⟨v, L, cx, _⟩ := id kx
      obtain ⟨v', L', cy, _⟩ := id ky
      refine ⟨_, rfl, _, rfl, x, y, v, v', q, q', r, r', rfl, cx, cy, by omega, by omega, fun T2 H1 hT s1 => ?_⟩
      by_cases c : r' * (q : Int) < r * (q' : Int)
      · rw [if_pos c] at hT
        rcases hc with ⟨c2, _⟩ | ⟨_, hc⟩
        · omega
        exact ⟨T2, _, rfl, SqT.of hT, rfl, _, _, rfl, _, _, rfl, rfl, y, x, g, f, q', b', q, b, r', r, rfl, s1, ky.same s1, kx.same s1, c, hc, Nat.lcm_comm q q', b4', b4, .inr rfl, .inl rfl, .inr ⟨rfl, rfl⟩⟩
      · rw [if_neg c] at hT
        rcases hc with ⟨c2, hc⟩ | ⟨c2, _⟩
        · exact ⟨T2, _, rfl, SqT.of hT, rfl, _, _, rfl, _, _, rfl, rfl, x, y, f, g, q, b, q', b', r, r', rfl, s1, kx.same s1, ky.same s1, c2, hc, rfl, b4, b4', .inl rfl, .inr rfl, .inl ⟨rfl, rfl⟩⟩
        · exact absurd c2 c
    rintro σ H1 ⟨s1, t1, fs, ft, qs, bs, qt, bt, rs, rt, rfl, sm1, ks, kt, slow, hN, hl, bs4, bt4, es, et, ef⟩
    refine ⟨fun σ H' => ∃ z, σ = [some (.ref x), some (.ref y), some (.bl least), some (.ref s1), some (.ref t1), some (.ref z), none] ∧ H' = H1 ∧ z = (if least = true then s1 else t1), ?_, ?_⟩
    · cases least with
      | true => exact ⟨_, rfl, true, rfl, iteT ⟨_, rfl, s1, rfl, rfl, rfl⟩⟩
      | false => exact ⟨_, rfl, false, rfl, iteF ⟨_, rfl, t1, rfl, rfl, rfl⟩⟩
    rintro σ H2 ⟨z, rfl, rfl, hz⟩
    refine ⟨fun σ H' => ∃ n : Nat, σ = [some (.ref x), some (.ref y), some (.bl least), some (.ref s1), some (.ref t1), some (.ref z), some (.int n)] ∧ Same H2 H' ∧ bs ≤ n ∧ bt ≤ n ∧ n ≤ 3900 ∧ ∀ j, n < j → fs j ≤ ft j, ?_, ?_⟩
    · obtain ⟨v, L, cx, _⟩ := kx.same sm1
      obtain ⟨v', L', cy, _⟩ := ky.same sm1
      refine ⟨_, rfl, _, rfl, _, rfl, _, rfl, x, y, v, v', q, q', r, r', rfl, cx, cy, by omega, by omega, fun _ => ?_, fun z => absurd z (by omega)⟩
      exact ⟨s1, t1, fs, ft, qs, bs, qt, bt, _, N, rs, rt, rfl, ks, kt, hl, S4, slow, N4, bs4, bt4, hN, fun n n1 n2 n3 n4 H3 s3 => ⟨n, rfl, s3, n1, n2, n3, n4⟩⟩
    rintro σ H3 ⟨n, rfl, s3, n1, n2, n3, n4⟩
    obtain ⟨fk, qk, bk, rk, kz, ek, bk1, hk⟩ : ∃ (fk : Nat → Int) (qk bk : Nat) (rk : Int), NumC H3 C z fk qk bk rk ∧ (qk = q ∨ qk = q') ∧ bk ≤ n ∧ ∀ j, n < j → hm least (f j) (g j) = fk j := by
      cases least with
      | true =>
        subst hz
        refine ⟨fs, qs, bs, rs, ks.same s3, es, n1, fun j hj => ?_⟩
        have := n4 j hj
        unfold hm
        rw [if_pos rfl]
        rcases ef with ⟨rfl, rfl⟩ | ⟨rfl, rfl⟩ <;> (split <;> omega)
      | false =>
        subst hz
        refine ⟨ft, qt, bt, rt, kt.same s3, et, n2, fun j hj => ?_⟩
        have := n4 j hj
        unfold hm
        rw [if_neg Bool.false_ne_true]
        rcases ef with ⟨rfl, rfl⟩ | ⟨rfl, rfl⟩ <;> (split <;> omega)
    obtain ⟨vk, Lk, ck, fok, CMk, lk, _⟩ := id kz
    refine ⟨_, rfl, _, _, rfl, rfl, _, rfl, z, vk, qk, rk, rfl, ck, by omega, _, _, rfl, _, rfl, (by show 2 ≤ sizeLine; decide), fun T2 hT => ?_⟩
    rw [lk, Nat.add_sub_cancel]
    refine k T2 z (n + 1) _ fk qk bk rk ?_ (kz.same (same_new hT)) ek (by omega) (by omega) (fun j hj => hk j (by omega)) (Same.trans sm1 (Same.trans s3 (same_new hT)))
    rw [show ((n + 1 : Nat) : Int) = (if (bk : Int) > (n : Int) + 1 then (bk : Int) else (n : Int) + 1) by rw [if_neg (by omega)]; omega]
    exact upd_same
abbrev nJnu : List Str := ["joined_row", "curve", "other", "least", "step", "begin", "growth", "kept"]
theorem scJnu : FnScope nJnu ["joined_row", "curve", "other", "least"] (defScope sJnu) := ⟨rfl, rfl, rfl, by decide +kernel, rfl, by decide +kernel, by decide +kernel⟩
theorem NumC.kcur {H : Hp} {C x : Addr} {f : Nat → Int} {q b : Nat} {r : Int} (h : NumC H C x f q b r) (l : b + q ≤ 4000) : KCur H C x (fun j => .int (f j)) q := by
  obtain ⟨v, L, cx, fx, CM, lx, ex, _⟩ := h
  have : L = fun j => .int (f j) := funext ex
  subst this
  exact ⟨v, r, cx, fx, CM, by omega⟩
def spJnu (K : PySem.W.Frag) (C : Addr) (S : Addr → Option Sp) : Sp := fun vs H Q _ => ∃ (jf x y : Addr) (least : Bool) (f g : Nat → Int) (q b q' b' N : Nat) (r r' : Int), vs = [.ref jf, .ref x, .ref y, .bl least] ∧ S jf = some (spRowJ K (hm least)) ∧ NumC H C x f q b r ∧ NumC H C y g q' b' r' ∧ Nat.lcm q q' ≤ 90 ∧ q ≤ 90 ∧ q' ≤ 90 ∧ N ≤ 3900 ∧ b ≤ 3900 ∧ b' ≤ 3900 ∧
  (r * q' < r' * q → ∀ j, N ≤ j → f j ≤ g j) ∧ (r' * q < r * q' → ∀ j, N ≤ j → g j ≤ f j) ∧
  ∀ (z : Addr) (H' : Hp), H z = none → IsCur H' C z (fun j => .int (hm least (f j) (g j))) → Same H H' → Q (.ref z) H'
theorem ok_jnu {f C CT fI fE : Addr} {fd : FuncData} {S : Addr → Option Sp} (F : Fun K "joined_numbers" "joined_numbers" sJnu f fd) (T : CurG mg) (U : CurT K mg C fI fE) (nmax : mg "max" = none)
    (c_per : Cal P w K mg base (L2.CX P w) 3 "common_period" ["curve", "other"] (spPer K C CT)) (c_gai : Cal P w K mg base CX0 1 "gain_in" ["curve", "other", "step"] (spGai K C)) (c_reg : Cal P w K mg base CX0 1 "regular_from" ["curve"] (spRegular K C))
    (c_jby : Cal P w K mg base (L2.CX P w) 7 "joined_by" nJby (spJby K C S)) (c_set : Cal P w K mg base (L2.CX P w) 5 "settled" ["curve", "other", "least"] (spSet K C)) :
    FnOk P w K mg base (L2.CX P w) 8 f fd ["joined_row", "curve", "other", "least"] (spJnu K C S) := by
  refine F.okX scJnu (fun vs H Q E h => ?_) (fun cdv A outer s H vs Q E hr h => ?_)
  · obtain ⟨jf, x, y, least, f, g, q, b, q', b', N, r, r', rfl, _⟩ := h
    rfl
  · obtain ⟨jf, x, y, least, f, g, q, b, q', b', N, r, r', rfl, hS, kx, ky, S4, q4, q4', N4, b4, b4', c1, c2, k⟩ := h
    refine ⟨_, (C8.pss_cut (ps_set (i := 4) scJnu.nd rfl (Or.inl rfl) (pe_callC c_per (hr.mono (by decide)) rfl (passX (E := E) (takes_of rfl rfl rfl rfl) fun _ _ _ _ h => h) (pa_cons (pv 1) (pa_cons (pv 2) pa_nil))))
 (C8.pss_cut (ps_if (pt_cmpR op_eq (pe_callC c_gai (hr.mono (by decide)) rfl pass0 (pa_cons (pv 1) (pa_cons (pv 2) (pa_cons (pv 4) pa_nil)))) pe_int (nomark _)) (C8.pss_cut (ps_set (i := 5) scJnu.nd rfl (Or.inl rfl) (pe_callB (call_max2 rfl) (by rfl) nmax (by decide +kernel) (pa_cons (pe_callC c_reg (hr.mono (by decide)) rfl pass0 (pa_cons (pv 1) pa_nil)) (pa_cons (pe_callC c_reg (hr.mono (by decide)) rfl pass0 (pa_cons (pv 2) pa_nil)) pa_nil))))
 (C8.pss_cut (ps_set (i := 6) scJnu.nd rfl (Or.inl rfl) (pe_op op_mul (pe_op op_fdivN (pv 4) (pe_fld (pv 1) rfl)) (pe_fld (pv 1) rfl)))
 (pss_one
 (ps_ret (pe_callC c_jby (hr.mono (by decide)) rfl (passX (E := E) (takes_of rfl rfl rfl rfl) fun _ _ _ _ h => h) (pa_cons (pv 0) (pa_cons (pv 1) (pa_cons (pv 2) (pa_cons (pe_op op_add (pv 5) (pv 4)) (pa_cons (pv 4) (pa_cons (pv 6) pa_nil))))))))))) pss_nil)
 (C8.pss_cut (ps_asg (pe_callC c_set (hr.mono (by decide)) rfl (passX (E := E) (takes_of rfl rfl rfl rfl) fun _ _ _ _ h => h) (pa_cons (pv 1) (pa_cons (pv 2) (pa_cons (pv 3) pa_nil)))) (pg_tup rfl (pgs_cons (pg_name (i := 5) scJnu.nd rfl (Or.inl rfl)) (pgs_cons (pg_name (i := 7) scJnu.nd rfl (Or.inl rfl)) pgs_nil))))
 (pss_one
 (ps_ret (pe_callC c_jby (hr.mono (by decide)) rfl (passX (E := E) (takes_of rfl rfl rfl rfl) fun _ _ _ _ h => h) (pa_cons (pv 0) (pa_cons (pv 1) (pa_cons (pv 2) (pa_cons (pe_op op_add (pv 5) (pe_fld (pv 7) rfl)) (pa_cons (pe_fld (pv 7) rfl) (pa_cons (pe_fld (pv 7) rfl) pa_nil)))))))))))), ?_⟩
    obtain ⟨v, L, cx, fx, CMx, lx, ex, Qx, q0⟩ := id kx
    obtain ⟨v', L', cy, fy, CMy, ly, ey, Qy, q0'⟩ := id ky
    have S0 : 0 < Nat.lcm q q' := Nat.lcm_pos q0 q0'
    have dq : Nat.lcm q q' / q * q = Nat.lcm q q' := Nat.div_mul_cancel (Nat.dvd_lcm_left q q')
    have dq' : Nat.lcm q q' / q' * q' = Nat.lcm q q' := Nat.div_mul_cancel (Nat.dvd_lcm_right q q')
    have ql : q ≤ Nat.lcm q q' := Nat.le_of_dvd S0 (Nat.dvd_lcm_left q q')
    have ql' : q' ≤ Nat.lcm q q' := Nat.le_of_dvd S0 (Nat.dvd_lcm_right q q')
    generalize hSS : Nat.lcm q q' = SS at *
    have kcx := kx.kcur (by omega)
    have kcy := ky.kcur (by omega)
    have fin : ∀ (z : Addr) (H1 H' : Hp), Same H H1 → H1 z = none → IsCur H' C z (fun j => joinV (hm least) (V.int (f j)) (V.int (g j))) → Same H1 H' → Q (.ref z) H' := fun z H1 H' s1 hz hi s2 => k z H' (s1.free hz) hi (Same.trans s1 s2)
    refine ⟨fun σ H' => σ = [some (.ref jf), some (.ref x), some (.ref y), some (.bl least), some (.int SS), none, none, none] ∧ H' = H, ⟨_, rfl, _, rfl, x, y, v, v', q, q', r, r', rfl, cx, cy, by omega, by omega, fun _ => ⟨by rw [hSS]; rfl, rfl⟩, fun z => absurd z (by omega)⟩, ?_⟩
    rintro σ H1 ⟨rfl, rfl⟩
    have e1 : ((SS / q : Nat) : Int) * (q : Int) = (SS : Int) := by rw [← Int.natCast_mul, dq]
    have e2 : ((SS / q' : Nat) : Int) * (q' : Int) = (SS : Int) := by rw [← Int.natCast_mul, dq']
    have p1 : 0 < ((SS / q : Nat) : Int) := by
      have : 0 < SS / q := Nat.div_pos ql q0
      omega
    have p2 : 0 < ((SS / q' : Nat) : Int) := by
      have : 0 < SS / q' := Nat.div_pos ql' q0'
      omega
    -- the rates, by the gain
    have rate : ((SS / q : Nat) : Int) * r = ((SS / q' : Nat) : Int) * r' ∨ r * (q' : Int) < r' * (q : Int) ∨ r' * (q : Int) < r * (q' : Int) := by
      rcases Int.lt_trichotomy (r * (q' : Int)) (r' * (q : Int)) with z | z | z
      · exact .inr (.inl z)
      · left
        have h2 : r * (q' : Int) * (((SS / q : Nat) : Int) * ((SS / q' : Nat) : Int)) = (((SS / q : Nat) : Int) * r) * (SS : Int) := by rw [← e2]; simp only [Int.mul_assoc, Int.mul_comm, Int.mul_left_comm]
        have h3 : r' * (q : Int) * (((SS / q : Nat) : Int) * ((SS / q' : Nat) : Int)) = (((SS / q' : Nat) : Int) * r') * (SS : Int) := by rw [← e1]; simp only [Int.mul_assoc, Int.mul_comm, Int.mul_left_comm]
        rw [z, h3] at h2
        exact (Int.eq_of_mul_eq_mul_right (by omega) h2).symm
      · exact .inr (.inr z)
    have rate2 : ((SS / q : Nat) : Int) * r = ((SS / q' : Nat) : Int) * r' → r * (q' : Int) = r' * (q : Int) := fun z => by
      have h2 : r * (q' : Int) * (((SS / q : Nat) : Int) * ((SS / q' : Nat) : Int)) = (((SS / q : Nat) : Int) * r) * (SS : Int) := by rw [← e2]; simp only [Int.mul_assoc, Int.mul_comm, Int.mul_left_comm]
      have h3 : r' * (q : Int) * (((SS / q : Nat) : Int) * ((SS / q' : Nat) : Int)) = (((SS / q' : Nat) : Int) * r') * (SS : Int) := by rw [← e1]; simp only [Int.mul_assoc, Int.mul_comm, Int.mul_left_comm]
      rw [z, ← h3] at h2
      exact Int.eq_of_mul_eq_mul_right (by have := Int.mul_pos p1 p2; omega) h2
    have r0 := CMx.g0
    have r1 := CMx.g1
    have g3 : ((SS / q : Nat) : Int) * r ≤ 90 * 2 ^ 30 := Int.mul_le_mul (by have := Nat.div_le_self SS q; omega) (by omega) r0 (by decide)
    have g4 : 0 ≤ ((SS / q : Nat) : Int) * r := Int.mul_nonneg (by omega) r0
    refine ⟨fun σ H' => σ = [some (.ref jf), some (.ref x), some (.ref y), some (.bl least), some (.int SS), none, none, none] ∧ H' = H1 ∧ ((r * (q' : Int) < r' * (q : Int) ∧ ∀ j, N ≤ j → f j ≤ g j) ∨ (r' * (q : Int) < r * (q' : Int) ∧ ∀ j, N ≤ j → g j ≤ f j)), ?_, ?_⟩
    · refine ⟨_, rfl, _, rfl, _, rfl, x, y, v, v', q, q', SS, r, r', rfl, cx, cy, q0, q0', by omega, by omega, by omega, rfl, _, rfl, ?_⟩
      by_cases eq : ((SS / q : Nat) : Int) * r = ((SS / q' : Nat) : Int) * r'
      · rw [decide_eq_true (by rw [eq, Int.sub_self])]
        refine iteT ?_
        refine ⟨fun σ H' => σ = [some (.ref jf), some (.ref x), some (.ref y), some (.bl least), some (.int SS), some (.int (max b b' : Nat)), none, none] ∧ H' = H1, ?_, ?_⟩
        · refine ⟨_, rfl, x, v, q, r, rfl, cx, by omega, _, rfl, y, v', q', r', rfl, cy, by omega, _, _, rfl, ?_, rfl⟩
          rw [lx, ly, Nat.add_sub_cancel, Nat.add_sub_cancel]
          show [_, _, _, _, _, some (V.int (if (b' : Int) > (b : Int) then (b' : Int) else (b : Int))), _, _] = _
          rw [show (if (b' : Int) > (b : Int) then (b' : Int) else (b : Int)) = ((max b b' : Nat) : Int) by split <;> omega]
        rintro σ H2 ⟨rfl, rfl⟩
        obtain ⟨dx, tx, x1, x2⟩ := id cx
        have fe : Int.fdiv (SS : Int) (q : Int) = ((SS / q : Nat) : Int) := by
          rw [Int.fdiv_eq_ediv_of_nonneg _ (by omega)]
          rfl
        refine ⟨fun σ H' => σ = [some (.ref jf), some (.ref x), some (.ref y), some (.bl least), some (.int SS), some (.int (max b b' : Nat)), some (.int (((SS / q : Nat) : Int) * r)), none] ∧ H' = H2, ?_, ?_⟩
        · have hb : SS / q ≤ SS := Nat.div_le_self _ _
          refine ⟨_, rfl, _, rfl, x, C, dx, _, .int q, rfl, x1, U.cl, U.nP, rfl, _, _, rfl, rfl, ⟨by omega, by omega⟩, _, rfl, x, C, dx, _, .int r, rfl, x1, U.cl, U.nG, rfl, _, _, rfl, rfl, .inr ⟨by omega, by omega⟩, ?_, rfl⟩
          show [_, _, _, _, _, _, some (V.int (Int.fdiv (SS : Int) (q : Int) * r)), _] = _
          rw [fe]
        rintro σ H3 ⟨rfl, rfl⟩
        have Q1 := (Qx.up (SS / q)).to (Nat.le_max_left b b')
        have Q2 := (Qy.up (SS / q')).to (Nat.le_max_right b b')
        rw [dq] at Q1
        rw [dq', ← eq] at Q2
        have B3 : max b b' ≤ 3900 := by omega
        refine ⟨_, rfl, _, rfl, _, rfl, _, rfl, _, rfl, _, _, rfl, rfl, _, rfl, _, rfl, jf, x, y, hm least, _, _, q, q', max b b' + SS, SS, _, rfl, hS, kcx, kcy, (fun j z => by cases z), (fun j z => by cases z), S0, by omega, by omega, g4, by omega, ?_, fun z H' hz hi s' => fin z H3 H' (Same.refl _) hz hi s'⟩
        rw [Nat.add_sub_cancel]
        intro j hj
        have a1 := Q1 j hj
        have a2 := Q2 j hj
        show hm least (f (j + SS)) (g (j + SS)) = hm least (f j) (g j) + _
        rw [a1, a2]
        unfold hm
        split <;> (split <;> split <;> omega)
      · rw [decide_eq_false (by intro z; have z := V.int.inj z; exact eq (by omega))]
        refine iteF ⟨rfl, rfl, ?_⟩
        rcases rate with z | z | z
        · exact absurd z eq
        · exact .inl ⟨z, c1 z⟩
        · exact .inr ⟨z, c2 z⟩
    rintro σ H2 ⟨rfl, rfl, hc⟩
    refine ⟨fun σ H' => ∃ (z : Addr) (n : Nat) (fk : Nat → Int) (qk bk : Nat) (rk : Int), σ = [some (.ref jf), some (.ref x), some (.ref y), some (.bl least), some (.int SS), some (.int n), none, some (.ref z)] ∧ Same H2 H' ∧ NumC H' C z fk qk bk rk ∧ (qk = q ∨ qk = q') ∧ bk ≤ n ∧ n ≤ 3901 ∧ ∀ j, n ≤ j → hm least (f j) (g j) = fk j, ?_, ?_⟩
    · refine ⟨_, rfl, _, rfl, _, rfl, x, y, least, f, g, q, b, q', b', N, r, r', rfl, kx, ky, by omega, by omega, by omega, N4, b4, b4', hc, fun T2 z n H3 fk qk bk rk hT kz ek h1 h2 h3 s3 => ?_⟩
      exact ⟨T2, _, rfl, SqT.of hT, rfl, _, _, rfl, _, _, rfl, rfl, z, n, fk, qk, bk, rk, rfl, s3, kz, ek, h1, h2, h3⟩
    rintro σ H3 ⟨z, n, fk, qk, bk, rk, rfl, s3, kz, ek, h1, h2, h3⟩
    obtain ⟨vk, Lk, ck, fok, CMk, lk, exk, Qk, qk0⟩ := id kz
    obtain ⟨dk, tk, k1, k2⟩ := id ck
    have rk1 := CMk.g1
    refine ⟨_, rfl, _, rfl, _, rfl, _, rfl, _, rfl, z, C, dk, _, .int qk, rfl, k1, U.cl, U.nP, rfl, _, _, rfl, rfl, _, rfl, z, C, dk, _, .int qk, rfl, k1, U.cl, U.nP, rfl, _, rfl, z, C, dk, _, .int rk, rfl, k1, U.cl, U.nG, rfl, jf, x, y, hm least, _, _, q, q', n + qk, qk, rk, rfl, hS, kcx.same s3, kcy.same s3, (fun j z => by cases z), (fun j z => by cases z), qk0, by omega, by omega, CMk.g0, by omega, ?_, fun z' H' hz hi s' => fin z' H3 H' s3 hz hi s'⟩
    rw [Nat.add_sub_cancel]
    intro j hj
    show hm least (f (j + qk)) (g (j + qk)) = hm least (f j) (g j) + rk
    rw [h3 j hj, h3 (j + qk) (by omega)]
    exact Qk j (by omega)
end
end WW
end

section
set_option Elab.async false
set_option linter.all false
set_option maxRecDepth 100000
set_option maxHeartbeats 8000000
namespace WW
open PySem L2 WO WG RZ WQ WT WC
abbrev sLof : Stmt := top 51
abbrev sMof : Stmt := top 52
def Cross (L M : Nat → V) : Prop := ∃ N, N ≤ 3900 ∧ ∀ (v v' : List V) (q q' : Nat) (r r' : Int), FormG L v q r → FormG M v' q' r' → (r * q' < r' * q → ∀ j, N ≤ j → ival (L j) ≤ ival (M j)) ∧ (r' * q < r * q' → ∀ j, N ≤ j → ival (M j) ≤ ival (L j))
def lesV : V → V → V
  | .int i, .int j => .int (hm true i j)
  | .non, y => y
  | x, _ => x
theorem lesV_int {a b : V} (ha : a = .int (ival a)) (hb : b = .int (ival b)) : lesV a b = .int (hm true (ival a) (ival b)) := by
  obtain ⟨i, rfl⟩ : ∃ i, a = .int i := ⟨_, ha⟩
  obtain ⟨j, rfl⟩ : ∃ j, b = .int j := ⟨_, hb⟩
  rfl
theorem lesV_l {a b : V} (ha : a = .non) : lesV a b = b := by subst ha; rfl
theorem lesV_r {a b : V} (ha : a = .non ∨ a = .int (ival a)) (hb : b = .non) : lesV a b = a := by
  subst hb
  rcases ha with rfl | ha
  · rfl
  · obtain ⟨i, rfl⟩ : ∃ i, a = .int i := ⟨_, ha⟩
    rfl
section
variable {P : Program} {w : World} {K : PySem.W.Frag} {mg : Str → Option Value} {base : Heap}
theorem cross_num {kn : Nat} {H : Hp} {C a b : Addr} {L M : Nat → V} {q q' : Nat} (ka : KCn kn H C a L q) (kb : KCn kn H C b M q') (nL : ∀ j, L j ≠ .non) (nM : ∀ j, M j ≠ .non) (cr : Cross L M) :
    ∃ (f g : Nat → Int) (b1 b2 N : Nat) (r r' : Int), (∀ j, L j = .int (f j)) ∧ (∀ j, M j = .int (g j)) ∧ NumC H C a f q b1 r ∧ NumC H C b g q' b2 r' ∧ b1 ≤ kn ∧ b2 ≤ kn ∧ N ≤ 3900 ∧ (r * q' < r' * q → ∀ j, N ≤ j → f j ≤ g j) ∧ (r' * q < r * q' → ∀ j, N ≤ j → g j ≤ f j) := by
  obtain ⟨v, r, cx, fx, CMx, lx⟩ := ka
  obtain ⟨v', r', cy, fy, CMy, ly⟩ := kb
  obtain ⟨b1, lb1, Q1⟩ := num_of fx nL
  obtain ⟨b2, lb2, Q2⟩ := num_of fy nM
  obtain ⟨N, N4, cr⟩ := cr
  have eL : ∀ j, L j = .int (ival (L j)) := fun j => by
    rcases fx.flatL j with z | z
    · exact absurd z (nL j)
    · exact z
  have eM : ∀ j, M j = .int (ival (M j)) := fun j => by
    rcases fy.flatL j with z | z
    · exact absurd z (nM j)
    · exact z
  have cc := cr v v' q q' r r' fx fy
  exact ⟨_, _, b1, b2, N, r, r', eL, eM, ⟨v, L, cx, fx, CMx, lb1, eL, Q1, fx.len.1⟩, ⟨v', M, cy, fy, CMy, lb2, eM, Q2, fy.len.1⟩, by omega, by omega, N4, cc.1, cc.2⟩
abbrev nMof : List Str := ["curve", "other"]
theorem scMof : FnScope nMof nMof (defScope sMof) := ⟨rfl, rfl, rfl, by decide +kernel, rfl, by decide +kernel, by decide +kernel⟩
def spMof (K : PySem.W.Frag) (C CB : Addr) (kn : Nat := 400) : Sp := fun vs H Q E => ∃ x y : V, vs = [x, y] ∧
  ((∃ (a b : Addr) (L M : Nat → V) (q q' : Nat), x = .ref a ∧ y = .ref b ∧ KCn kn H C a L q ∧ KCn kn H C b M q' ∧ Nat.lcm q q' ≤ 90 ∧ q ≤ 90 ∧ q' ≤ 90 ∧ ((∀ j, L j ≠ .non) → (∀ j, M j ≠ .non) → Cross L M) ∧
    ∀ (z : Addr) (H' : Hp), H z = none → IsCur H' C z (fun j => joinV (hm false) (L j) (M j)) → Same H H' → Q (.ref z) H') ∨ BadTwo K C CB H x y E)
theorem ok_mof {kn : Nat} (hkn : kn ≤ 3000) {f fGre C CB : Addr} {fd : FuncData} {S : Addr → Option Sp} (F : Fun K "most_of" "most_of" sMof f fd) (m_gre : mg "greater_row" = some (.ref fGre)) (hS : S fGre = some (spRowJ K (hm false)))
    (c_two : Cal P w K mg base (L2.CX P w) 4 "need_two" ["curve", "other"] (spTwo K C CB)) (c_has : Cal P w K mg base CX0 1 "has_none" ["curve"] (spHas K C))
    (c_jen : Cal P w K mg base (L2.CX P w) 7 "joined_ends" ["joined_row", "curve", "other"] (spJen K C S)) (c_jnu : Cal P w K mg base (L2.CX P w) 8 "joined_numbers" ["joined_row", "curve", "other", "least"] (spJnu K C S)) :
    FnOk P w K mg base (L2.CX P w) 9 f fd nMof (spMof K C CB kn) := by
  refine F.okX scMof (fun vs H Q E h => ?_) (fun cdv A outer s H vs Q E hr h => ?_)
  · obtain ⟨x, y, rfl, _⟩ := h
    rfl
  · obtain ⟨x, y, rfl, h⟩ := h
    refine ⟨_, (C8.pss_cut (ps_expr (pe_callC c_two (hr.mono (by decide)) rfl (passX (E := E) (takes_of rfl rfl rfl rfl) fun _ _ _ _ h => h) (pa_cons (pv 0) (pa_cons (pv 1) pa_nil))))
 (C8.pss_cut (ps_if (PW.pt (pw_or (pt_val (pe_callC c_has (hr.mono (by decide)) rfl pass0 (pa_cons (pv 0) pa_nil))) (pw_or1 (pt_val (pe_callC c_has (hr.mono (by decide)) rfl pass0 (pa_cons (pv 1) pa_nil)))))) (pss_one
 (ps_ret (pe_callC c_jen (hr.mono (by decide)) rfl (passX (E := E) (takes_of rfl rfl rfl rfl) fun _ _ _ _ h => h) (pa_cons (pe_glob (v := .ref fGre) rfl m_gre rfl) (pa_cons (pv 0) (pa_cons (pv 1) pa_nil)))))) pss_nil)
 (pss_one
 (ps_ret (pe_callC c_jnu (hr.mono (by decide)) rfl (passX (E := E) (takes_of rfl rfl rfl rfl) fun _ _ _ _ h => h) (pa_cons (pe_glob (v := .ref fGre) rfl m_gre rfl) (pa_cons (pv 0) (pa_cons (pv 1) (pa_cons pe_bl pa_nil))))))))), ?_⟩
    rcases h with ⟨a, b, L, M, q, q', rfl, rfl, ka, kb, hl, hq, hq', cr, k⟩ | ⟨no, k⟩
    rotate_left
    · refine ⟨fun _ _ => False, ⟨_, rfl, _, rfl, x, y, rfl, .inr ⟨no, k⟩⟩, fun _ _ z => z.elim⟩
    refine ⟨fun σ H' => σ = [some (.ref a), some (.ref b)] ∧ H' = H, ⟨_, rfl, _, rfl, _, _, rfl, .inl ⟨a, b, rfl, rfl, ka.has, kb.has, rfl, rfl⟩⟩, ?_⟩
    rintro σ H0 ⟨rfl, rfl⟩
    obtain ⟨v, r, cx, fx, CMx, lx⟩ := id ka
    obtain ⟨v', r', cy, fy, CMy, ly⟩ := id kb
    obtain ⟨_, lv, gv, ev⟩ := fx.ends
    obtain ⟨_, lv', gv', ev'⟩ := fy.ends
    refine ⟨fun σ H' => σ = [some (.ref a), some (.ref b)] ∧ H' = H0 ∧ (∀ j, L j ≠ .non) ∧ ∀ j, M j ≠ .non, ?_, ?_⟩
    · refine ⟨_, rfl, a, v, _, _, lv, rfl, cx, gv, ?_⟩
      rcases ev with ⟨e, ev⟩ | ⟨e, ev⟩
      · exact ⟨true, bT e, iteT (iteT ⟨_, rfl, _, rfl, fGre, a, b, hm false, L, M, q, q', rfl, hS, ka.kcur (by omega), kb.kcur (by omega), ⟨v.length - 1, .inl ((ev _).mpr (Nat.le_refl _))⟩, k⟩)⟩
      refine ⟨false, bF e, iteF ⟨_, rfl, b, v', _, _, lv', rfl, cy, gv', ?_⟩⟩
      rcases ev' with ⟨e', ev'⟩ | ⟨e', ev'⟩
      · exact ⟨true, bT e', iteT ⟨_, rfl, _, rfl, fGre, a, b, hm false, L, M, q, q', rfl, hS, ka.kcur (by omega), kb.kcur (by omega), ⟨v'.length - 1, .inr ((ev' _).mpr (Nat.le_refl _))⟩, k⟩⟩
      · exact ⟨false, bF e', iteF ⟨rfl, rfl, ev, ev'⟩⟩
    rintro σ H1 ⟨rfl, rfl, nL, nM⟩
    obtain ⟨f, g, b1, b2, N, r1, r2, eL, eM, n1, n2, h1, h2, N4, c1, c2⟩ := cross_num ka kb nL nM (cr nL nM)
    refine ⟨_, rfl, _, rfl, fGre, a, b, false, f, g, q, b1, q', b2, N, r1, r2, rfl, hS, n1, n2, hl, hq, hq', N4, by omega, by omega, c1, c2, fun z H' hz hi s' => k z H' hz ?_ s'⟩
    have e : (fun j => joinV (hm false) (L j) (M j)) = fun j => V.int (hm false (f j) (g j)) := by
      funext j
      rw [eL, eM]
      rfl
    rw [e]
    exact hi
abbrev nLof : List Str := ["curve", "other", "many", "going", "row", "enough"]
theorem scLof : FnScope nLof ["curve", "other"] (defScope sLof) := ⟨rfl, rfl, rfl, by decide +kernel, rfl, by decide +kernel, by decide +kernel⟩
def spLof (K : PySem.W.Frag) (C CB : Addr) (kn : Nat := 400) : Sp := fun vs H Q E => ∃ x y : V, vs = [x, y] ∧
  ((∃ (a b : Addr) (L M : Nat → V) (q q' : Nat), x = .ref a ∧ y = .ref b ∧ KCn kn H C a L q ∧ KCn kn H C b M q' ∧ Nat.lcm q q' ≤ 90 ∧ q ≤ 90 ∧ q' ≤ 90 ∧ ((∀ j, L j ≠ .non) → (∀ j, M j ≠ .non) → Cross L M) ∧
    ∀ (z : Addr) (H' : Hp), H z = none → IsCur H' C z (fun j => lesV (L j) (M j)) → Same H H' → Q (.ref z) H') ∨ BadTwo K C CB H x y E)
/-- a row that goes on as a curve does -/
theorem goes_on {G J : Nat → V} {v : List V} {q : Nat} {r : Int} (fo : FormG G v q r) (CM : Calm v q r) {m n : Nat} (hJ : ∀ j, m ≤ j → J j = G j) (hi : ∀ j, j < m → J j = .int (ival (J j))) (h1 : v.length ≤ n) (h2 : m + q ≤ n) (h4 : n ≤ 90000) (hm : m ≤ v.length ∨ ∀ j, G j ≠ .non) :
    FormIn ((List.range n).map J) q r ∧ RowF ((List.range n).map J) q r J := by
  have ql := fo.len
  rcases fo.cases' with ⟨f, b, e, hf, rfl⟩ | ⟨s, e, rfl, rfl, rfl⟩
  · rw [List.length_map, List.length_range] at h1
    have eJ : J = fun j => V.int (ival (J j)) := by
      funext j
      by_cases c : j < m
      · exact hi j c
      · rw [hJ j (by omega), e]
        rfl
    have Q : MF.QP (fun j => ival (J j)) q r (n - q) := fun j hj => by
      show ival (J (j + q)) = ival (J j) + r
      rw [hJ (j + q) (by omega), hJ j (by omega), e, e]
      exact hf.qp j (by omega)
    have R := row_int (n := n) hf.pos (by omega) (by omega) Q
    have I := in_int (f := fun j => ival (J j)) (n := n) hf.pos (by omega) (by omega) CM.g0 (by have := CM.g1; omega)
    rw [← eJ] at R I
    exact ⟨I, R⟩
  · have ls : (s.map V.int ++ [V.non]).length = s.length + 1 := by rw [List.length_append, List.length_map]; rfl
    rw [ls] at h1 hm
    have hm2 : m ≤ s.length + 1 := by
      rcases hm with z | z
      · exact z
      · exact absurd (by rw [e]; exact fn_high (Nat.le_refl _)) (z s.length)
    have hm3 : m ≤ s.length ∨ m = s.length + 1 := by omega
    have eJ : ∃ s2 : List Int, J = FN s2 ∧ s2.length < n := by
      rcases hm3 with c | c
      · refine ⟨(List.range s.length).map fun j => ival (J j), ?_, by rw [List.length_map, List.length_range]; omega⟩
        have l2 : ((List.range s.length).map fun j => ival (J j)).length = s.length := by rw [List.length_map, List.length_range]
        funext j
        by_cases c2 : j < s.length
        · rw [fn_low (by rw [l2]; exact c2), List.getD_eq_getElem?_getD, List.getElem?_map, List.getElem?_range c2]
          show J j = .int (ival (J j))
          by_cases c3 : j < m
          · exact hi j c3
          · rw [hJ j (by omega), e, fn_low c2]
            rfl
        · rw [fn_high (by rw [l2]; omega), hJ j (by omega), e, fn_high (by omega)]
      · refine ⟨(List.range m).map fun j => ival (J j), ?_, by rw [List.length_map, List.length_range]; omega⟩
        have l2 : ((List.range m).map fun j => ival (J j)).length = m := by rw [List.length_map, List.length_range]
        funext j
        by_cases c2 : j < m
        · rw [fn_low (by rw [l2]; exact c2), List.getD_eq_getElem?_getD, List.getElem?_map, List.getElem?_range c2]
          exact hi j c2
        · rw [fn_high (by rw [l2]; omega), hJ j (by omega), e, fn_high (by omega)]
    obtain ⟨s2, rfl, hs2⟩ := eJ
    exact ⟨in_non hs2 (by omega), row_non hs2⟩
theorem ok_lof {kn : Nat} (hkn : kn ≤ 3000) {f fLes fI fE C CB CT : Addr} {fd : FuncData} {S : Addr → Option Sp} (F : Fun K "least_of" "least_of" sLof f fd) (T : CurG mg) (U : CurT K mg C fI fE) (nmax : mg "max" = none) (m_les : mg "lesser_row" = some (.ref fLes)) (hS : S fLes = some (spRowJ K (hm true)))
    (c_two : Cal P w K mg base (L2.CX P w) 4 "need_two" ["curve", "other"] (spTwo K C CB)) (c_has : Cal P w K mg base CX0 1 "has_none" ["curve"] (spHas K C)) (c_sho : Cal P w K mg base CX0 2 "shorter_end" ["curve", "other"] (spSho K C)) (c_cat : Cal P w K mg base CX0 2 "at" ["curve", "beat"] (spCat K C))
    (c_fir : Cal P w K mg base CX0 3 "first_values" ["curve", "many"] (spFirst K C)) (c_made : Cal P w K mg base (L2.CX P w) 6 "made" ["row", "period", "growth"] (spMadeC K C CT))
    (c_les : Cal P w K mg base CX0 1 "lesser_row" ["row", "other_row"] (spRowJ K fun i j => if i < j then i else j)) (c_jnu : Cal P w K mg base (L2.CX P w) 8 "joined_numbers" ["joined_row", "curve", "other", "least"] (spJnu K C S)) :
    FnOk P w K mg base (L2.CX P w) 9 f fd ["curve", "other"] (spLof K C CB kn) := by
  refine F.okX scLof (fun vs H Q E h => ?_) (fun cdv A outer s H vs Q E hr h => ?_)
  · obtain ⟨x, y, rfl, _⟩ := h
    rfl
  · obtain ⟨x, y, rfl, h⟩ := h
    refine ⟨_, (C8.pss_cut (ps_expr (pe_callC c_two (hr.mono (by decide)) rfl (passX (E := E) (takes_of rfl rfl rfl rfl) fun _ _ _ _ h => h) (pa_cons (pv 0) (pa_cons (pv 1) pa_nil))))
 (C8.pss_cut (ps_if (PW.pt (pw_and (pt_not (pt_val (pe_callC c_has (hr.mono (by decide)) rfl pass0 (pa_cons (pv 0) pa_nil)))) (pw_and1 (pt_not (pt_val (pe_callC c_has (hr.mono (by decide)) rfl pass0 (pa_cons (pv 1) pa_nil))))))) (pss_one
 (ps_ret (pe_callC c_jnu (hr.mono (by decide)) rfl (passX (E := E) (takes_of rfl rfl rfl rfl) fun _ _ _ _ h => h) (pa_cons (pe_glob (v := .ref fLes) rfl m_les rfl) (pa_cons (pv 0) (pa_cons (pv 1) (pa_cons pe_bl pa_nil))))))) pss_nil)
 (C8.pss_cut (ps_set (i := 2) scLof.nd rfl (Or.inl rfl) (pe_callC c_sho (hr.mono (by decide)) rfl pass0 (pa_cons (pv 0) (pa_cons (pv 1) pa_nil))))
 (C8.pss_cut (ps_set (i := 3) scLof.nd rfl (Or.inl rfl) (pe_ifExp (pt_cmpR op_isN (pe_callC c_cat (hr.mono (by decide)) rfl pass0 (pa_cons (pv 0) (pa_cons (pv 2) pa_nil))) pe_non (nomark _)) (pv 1) (pv 0)))
 (C8.pss_cut (ps_set (i := 4) scLof.nd rfl (Or.inl rfl) (pe_callC c_les (hr.mono (by decide)) rfl pass0 (pa_cons (pe_callC c_fir (hr.mono (by decide)) rfl pass0 (pa_cons (pv 0) (pa_cons (pv 2) pa_nil))) (pa_cons (pe_callC c_fir (hr.mono (by decide)) rfl pass0 (pa_cons (pv 1) (pa_cons (pv 2) pa_nil))) pa_nil))))
 (C8.pss_cut (ps_set (i := 5) scLof.nd rfl (Or.inl rfl) (pe_callB (call_max2 rfl) (by rfl) nmax (by decide +kernel) (pa_cons (pe_op op_add (pv 2) (pe_fld (pv 3) rfl)) (pa_cons (pe_callB call_len_seq (by rfl) T.len PySem.boot_len (pa_cons (pe_fld (pv 3) rfl) pa_nil)) pa_nil))))
 (pss_one
 (ps_ret (pe_callC c_made (hr.mono (by decide)) rfl (passX (E := E) (takes_of rfl rfl rfl rfl) fun _ _ _ _ h => h) (pa_cons (pe_op op_cat (pv 4) (pe_slice sl_list (pe_callC c_fir (hr.mono (by decide)) rfl pass0 (pa_cons (pv 3) (pa_cons (pv 5) pa_nil))) (po_some (pv 2)) po_none)) (pa_cons (pe_fld (pv 3) rfl) (pa_cons (pe_fld (pv 3) rfl) pa_nil)))))))))))), ?_⟩
    rcases h with ⟨a, b, L, M, q, q', rfl, rfl, ka, kb, hl, hq, hq', cr, k⟩ | ⟨no, k⟩
    rotate_left
    · refine ⟨fun _ _ => False, ⟨_, rfl, _, rfl, x, y, rfl, .inr ⟨no, k⟩⟩, fun _ _ z => z.elim⟩
    refine ⟨fun σ H' => σ = [some (.ref a), some (.ref b), none, none, none, none] ∧ H' = H, ⟨_, rfl, _, rfl, _, _, rfl, .inl ⟨a, b, rfl, rfl, ka.has, kb.has, rfl, rfl⟩⟩, ?_⟩
    rintro σ H0 ⟨rfl, rfl⟩
    obtain ⟨v, r, cx, fx, CMx, lx⟩ := id ka
    obtain ⟨v', r', cy, fy, CMy, ly⟩ := id kb
    have px := fx.len
    have py := fy.len
    have rx := fx.rowF (by omega)
    have ry := fy.rowF (by omega)
    obtain ⟨_, lv, gv, ev⟩ := id fx.ends
    obtain ⟨_, lv', gv', ev'⟩ := id fy.ends
    have num : (∀ j, L j ≠ .non) → (∀ j, M j ≠ .non) → ∀ {D : VK}, D = Q → True := fun _ _ _ _ => trivial
    clear num
    refine ⟨fun σ H' => σ = [some (.ref a), some (.ref b), none, none, none, none] ∧ H' = H0 ∧ ∃ j, L j = .non ∨ M j = .non, ?_, ?_⟩
    · refine ⟨_, rfl, a, v, _, _, lv, rfl, cx, gv, ?_⟩
      rcases ev with ⟨e, ev⟩ | ⟨e, ev⟩
      · exact ⟨true, bT e, iteF (iteF ⟨rfl, rfl, v.length - 1, .inl ((ev _).mpr (Nat.le_refl _))⟩)⟩
      refine ⟨false, bF e, iteT ⟨_, rfl, b, v', _, _, lv', rfl, cy, gv', ?_⟩⟩
      rcases ev' with ⟨e', ev'⟩ | ⟨e', ev'⟩
      · exact ⟨true, bT e', iteF ⟨rfl, rfl, v'.length - 1, .inr ((ev' _).mpr (Nat.le_refl _))⟩⟩
      · obtain ⟨f, g, b1, b2, N, r1, r2, eL, eM, n1, n2, h1, h2, N4, c1, c2⟩ := cross_num ka kb ev ev' (cr ev ev')
        refine ⟨false, bF e', iteT ⟨_, rfl, _, rfl, fLes, a, b, true, f, g, q, b1, q', b2, N, r1, r2, rfl, hS, n1, n2, hl, hq, hq', N4, by omega, by omega, c1, c2, fun z H' hz hi s' => k z H' hz ?_ s'⟩⟩
        have e : (fun j => lesV (L j) (M j)) = fun j => V.int (hm true (f j) (g j)) := by
          funext j
          rw [eL, eM]
          rfl
        rw [e]
        exact hi
    clear gv gv' ev ev'
    rintro σ H1 ⟨rfl, rfl, hne⟩
    refine ⟨fun σ H' => ∃ m : Nat, σ = [some (.ref a), some (.ref b), some (.int m), none, none, none] ∧ IsEnd L M m ∧ m ≤ kn ∧ Same H1 H', ?_, ?_⟩
    · refine ⟨_, rfl, _, rfl, a, b, L, M, q, q', rfl, ka.kcur (by omega), kb.kcur (by omega), hne, fun m hm h4 H2 s2 => ⟨m, rfl, hm, ?_, s2⟩⟩
      rcases hm.1 with z | z
      · obtain ⟨_, lw, _, ew⟩ := fx.ends
        rcases ew with ⟨_, ew⟩ | ⟨_, ew⟩
        · rcases Nat.lt_or_ge kn m with c | c
          · exact absurd ((ew kn).mpr (by omega)) (hm.2 kn c).1
          · exact c
        · exact absurd z (ew m)
      · obtain ⟨_, lw, _, ew⟩ := fy.ends
        rcases ew with ⟨_, ew⟩ | ⟨_, ew⟩
        · rcases Nat.lt_or_ge kn m with c | c
          · exact absurd ((ew kn).mpr (by omega)) (hm.2 kn c).2
          · exact c
        · exact absurd z (ew m)
    rintro σ H2 ⟨m, rfl, hm, m4, s2⟩
    -- which one goes on
    refine ⟨fun σ H' => ∃ (u : Addr) (G : Nat → V) (vg : List V) (qg : Nat) (rg : Int), σ = [some (.ref a), some (.ref b), some (.int m), some (.ref u), none, none] ∧ H' = H2 ∧ CurveAt H2 C u vg qg rg ∧ FormG G vg qg rg ∧ Calm vg qg rg ∧ vg.length ≤ kn ∧ qg ≤ 90 ∧ (∀ j, m ≤ j → lesV (L j) (M j) = G j) ∧ (m ≤ vg.length ∨ ∀ j, G j ≠ .non), ?_, ?_⟩
    · refine ⟨_, rfl, _, rfl, a, v, q, m, r, L, rfl, cx.same s2, rx, by omega, ?_⟩
      have short : ∀ {G : Nat → V} {vg : List V} {qg : Nat} {rg : Int}, FormG G vg qg rg → (∀ j, j < m → G j ≠ .non) → (m ≤ vg.length ∨ ∀ j, G j ≠ .non) := fun {G vg qg rg} fo hn => by
        obtain ⟨_, lw, _, ew⟩ := fo.ends
        rcases ew with ⟨_, ew⟩ | ⟨_, ew⟩
        · rcases Nat.lt_or_ge vg.length m with c | c
          · exact absurd ((ew vg.length).mpr (by omega)) (hn _ c)
          · exact .inl c
        · exact .inr ew
      by_cases cL : L m = .non
      · refine ⟨rfl, true, bT cL, iteT ⟨_, rfl, b, M, v', q', r', rfl, rfl, cy.same s2, fy, CMy, ly, hq', fun j hj => ?_, short fy fun j hj => (hm.2 j hj).2⟩⟩
        obtain ⟨_, lw, _, ew⟩ := fx.ends
        rcases ew with ⟨_, ew⟩ | ⟨_, ew⟩
        · exact lesV_l ((ew j).mpr (by have := (ew m).mp cL; omega))
        · exact absurd cL (ew m)
      · refine ⟨rfl, false, bF cL, iteF ⟨_, rfl, a, L, v, q, r, rfl, rfl, cx.same s2, fx, CMx, lx, hq, fun j hj => ?_, short fx fun j hj => (hm.2 j hj).1⟩⟩
        have cM : M m = .non := by
          rcases hm.1 with z | z
          · exact absurd z cL
          · exact z
        obtain ⟨_, lw, _, ew⟩ := fy.ends
        rcases ew with ⟨_, ew⟩ | ⟨_, ew⟩
        · exact lesV_r (fx.flatL j) ((ew j).mpr (by have := (ew m).mp cM; omega))
        · exact absurd cM (ew m)
    rintro σ H3 ⟨u, G, vg, qg, rg, rfl, rfl, cu, fg, CMg, lg, qg9, eG, sh⟩
    have pg := fg.len
    have rgF := fg.rowF (by omega)
    have eL := row_ival2 fx (n := m) fun j hj => (hm.2 j hj).1
    have eM := row_ival2 fy (n := m) fun j hj => (hm.2 j hj).2
    have lowJ : ∀ j, j < m → lesV (L j) (M j) = .int (WW.hm true (ival (L j)) (ival (M j))) := fun j hj => by
      refine lesV_int ?_ ?_
      · rcases fx.flatL j with z | z
        · exact absurd z (hm.2 j hj).1
        · exact z
      · rcases fy.flatL j with z | z
        · exact absurd z (hm.2 j hj).2
        · exact z
    refine ⟨fun σ H' => ∃ z, σ = [some (.ref a), some (.ref b), some (.int m), some (.ref u), some (.ref z), none] ∧ H' z = some (.lst ((List.range m).map fun j => V.int (WW.hm true (ival (L j)) (ival (M j))))) ∧ Same H3 H', ?_, ?_⟩
    · refine ⟨_, rfl, _, rfl, a, v, q, m, r, L, rfl, cx.same s2, rx, CMx, by omega, by omega, by omega, fun z1 H4 hz1 e1 s4 => ?_⟩
      refine ⟨_, rfl, _, rfl, b, v', q', m, r', M, rfl, cy.same (Same.trans s2 s4), ry, CMy, by omega, by omega, by omega, fun z2 H5 hz2 e2 s5 => ?_⟩
      rw [eL] at e1
      rw [eM] at e2
      exact ⟨z1, z2, m, _, _, rfl, s5 _ _ e1, e2, by omega, fun z H6 hz ez s6 => ⟨z, rfl, ez, Same.trans s4 (Same.trans s5 s6)⟩⟩
    rintro σ H4 ⟨z, rfl, hz, s4⟩
    have cu4 := cu.same s4
    obtain ⟨du, tu, u1, u2⟩ := id cu4
    refine ⟨fun σ H' => ∃ n : Nat, σ = [some (.ref a), some (.ref b), some (.int m), some (.ref u), some (.ref z), some (.int n)] ∧ H' = H4 ∧ vg.length ≤ n ∧ m + qg ≤ n ∧ n ≤ kn + 90, ?_, ?_⟩
    · refine ⟨_, rfl, _, rfl, u, C, du, _, .int qg, rfl, u1, U.cl, U.nP, rfl, _, _, rfl, rfl, _, rfl, u, C, du, _, .ref tu, rfl, u1, U.cl, U.nS, rfl, tu, vg, rfl, .inr (SqT.of u2), _, _, rfl, max (m + qg) vg.length, ?_, rfl, Nat.le_max_right _ _, Nat.le_max_left _ _, by omega⟩
      show [_, _, _, _, _, some (V.int (if (vg.length : Int) > (m : Int) + (qg : Int) then (vg.length : Int) else (m : Int) + (qg : Int)))] = _
      rw [show (if (vg.length : Int) > (m : Int) + (qg : Int) then (vg.length : Int) else (m : Int) + (qg : Int)) = ((max (m + qg) vg.length : Nat) : Int) by split <;> omega]
    rintro σ H5 ⟨n, rfl, rfl, n1, n2, n3⟩
    obtain ⟨fi, R⟩ := goes_on fg CMg eG (fun j hj => by rw [lowJ j hj]; rfl) n1 n2 (by omega) sh
    refine ⟨_, rfl, _, rfl, _, rfl, u, vg, qg, n, rg, G, rfl, cu4, rgF, CMg, by omega, by omega, by omega, fun z1 H6 hz1 e1 s6 => ?_⟩
    refine ⟨_, rfl, (m : Int), rfl, z1, _, rfl, SqL.of e1, fun w1 hw1 => ?_⟩
    generalize g7 : upd H6 w1 _ = H7
    obtain ⟨s7, f7⟩ := alloc g7 hw1
    rw [cutL (by rw [List.length_map, List.length_range]; omega)] at f7
    refine ⟨z, w1, _, _, rfl, rfl, s7 _ _ (s6 _ _ hz), f7, (by rw [List.length_map, List.length_range, List.length_drop, List.length_map, List.length_range]; exact line_le (by omega)), fun z3 hz3 => ?_⟩
    generalize g8 : upd H7 z3 _ = H8
    obtain ⟨s8, f8⟩ := alloc g8 hz3
    have s18 : Same H5 H8 := Same.trans s6 (Same.trans s7 s8)
    have er : (List.range m).map (fun j => V.int (WW.hm true (ival (L j)) (ival (M j)))) ++ ((List.range n).map G).drop m = (List.range n).map fun j => lesV (L j) (M j) := by
      have e1 : (List.range m).map (fun j => V.int (WW.hm true (ival (L j)) (ival (M j)))) = (List.range m).map fun j => lesV (L j) (M j) := List.map_congr_left fun j hj => (lowJ j (List.mem_range.mp hj)).symm
      rw [e1, ← List.map_drop, show n = m + (n - m) by omega, List.range_add, List.drop_append, List.length_range, Nat.sub_self, List.drop_of_length_le (by rw [List.length_range]; exact Nat.le_refl _), List.nil_append, List.drop_zero, List.map_append, List.map_map, List.map_map]
      congr 1
      exact List.map_congr_left fun j _ => (eG (m + j) (by omega)).symm
    rw [er] at f8
    obtain ⟨dv, tv, v1, v2⟩ := cu4.same s18
    refine ⟨_, rfl, u, C, dv, _, .int qg, rfl, v1, U.cl, U.nP, rfl, _, rfl, u, C, dv, _, .int rg, rfl, v1, U.cl, U.nG, rfl, z3, _, qg, rg, rfl, f8, fi, fun vals q2 r2 z4 H9 fv l4 hz4 cu9 s9 => ?_, fun vals q2 r2 fv l4 => ?_⟩
    · obtain ⟨q3, rfl, fo⟩ := form_g fv R
      have sA : Same H1 H8 := Same.trans s2 (Same.trans s4 s18)
      exact k z4 H9 (sA.free hz4) ⟨vals, q3, r2, cu9, fo⟩ (Same.trans sA s9)
    · exfalso
      have := formV_len fv
      rw [List.length_map, List.length_range] at this
      omega
end
end WW
end

section
set_option Elab.async false
set_option linter.all false
set_option maxRecDepth 100000
set_option maxHeartbeats 8000000
namespace WW
open PySem L2 WO WG RZ WQ WT WC
/-- a curve of U, not too long -/
def IsC4 (H : Hp) (C x : Addr) (U : Nat → V) : Prop := ∃ (v : List V) (q : Nat) (r : Int), CurveAt H C x v q r ∧ FormG U v q r ∧ v.length ≤ 4000
theorem IsC4.same {H H' : Hp} {C x : Addr} {U : Nat → V} (h : IsC4 H C x U) (s : Same H H') : IsC4 H' C x U := by
  obtain ⟨v, q, r, h1, h2⟩ := h
  exact ⟨v, q, r, h1.same s, h2⟩
/-- the curve of U, or TooMany where that is too long -/
def HandJ (C CT : Addr) (U : Nat → V) (H : Hp) (Q : VK) (E : XK) : Prop := (∀ v p g z H', FormG U v p g → v.length ≤ 4000 → H z = none → CurveAt H' C z v p g → Same H H' → Q (.ref z) H') ∧
  ((∀ v p g, FormG U v p g → 4000 < v.length) → ∀ d H', Raised H "most" (.int 4000) d H' → E (.ref CT) (some d) H')
theorem HandJ.same {C CT : Addr} {U : Nat → V} {H H' : Hp} {Q : VK} {E : XK} (h : HandJ C CT U H Q E) (s : Same H H') : HandJ C CT U H' Q E :=
  ⟨fun v p g z H2 fg l hz cu s2 => h.1 v p g z H2 fg l (s.free hz) cu (Same.trans s s2), fun f d H2 rd => h.2 f d H2 (Raised.same s rd)⟩
theorem hm_comm (b : Bool) (i k : Int) : hm b i k = hm b k i := by
  unfold hm
  cases b
  · rw [if_neg Bool.false_ne_true, if_neg Bool.false_ne_true]
    split <;> split <;> omega
  · rw [if_pos rfl, if_pos rfl]
    split <;> split <;> omega
/-- where the slower one is above late, the joined one's form is too long -/
theorem late_long {f g : Nat → Int} {least : Bool} {q q' b b' j : Nat} {r r' : Int} (q0 : 0 < q) (q0' : 0 < q') (Qf : MF.QP f q r b) (Qg : MF.QP g q' r' b') (bj : b ≤ j) (bj' : b' ≤ j) (slow : r * (q' : Int) < r' * (q : Int)) (ab : g j < f j)
    {v : List V} {p : Nat} {G : Int} {U : Nat → V} (eU : U = fun t => .int (hm least (f t) (g t))) (fg : FormG U v p G) : j < v.length := by
  subst eU
  rcases fg.cases' with ⟨h, c, e, hf, rfl⟩ | ⟨s, e, _⟩
  rotate_left
  · have z := e s.length
    rw [fn_high (Nat.le_refl _)] at z
    cases z
  rw [List.length_map, List.length_range]
  refine Nat.not_le.mp fun hc => ?_
  have eh : ∀ t, h t = hm least (f t) (g t) := fun t => (V.int.inj (e t)).symm
  have p0 := hf.pos
  -- all go on by p * q * q'
  have U1 := hf.qp.mul (j := j) (by omega)
  have U2 := Qf.mul (j := j) bj
  have U3 := Qg.mul (j := j) bj'
  have A := fun k : Nat => U1 (k * (q * q'))
  have B := fun k : Nat => U2 (k * (p * q'))
  have D := fun k : Nat => U3 (k * (p * q))
  have ea : ∀ k : Nat, k * (q * q') * p = k * (p * q * q') := fun k => by simp only [Nat.mul_assoc, Nat.mul_comm, Nat.mul_left_comm]
  have eb : ∀ k : Nat, k * (p * q') * q = k * (p * q * q') := fun k => by simp only [Nat.mul_assoc, Nat.mul_comm, Nat.mul_left_comm]
  have ed : ∀ k : Nat, k * (p * q) * q' = k * (p * q * q') := fun k => by simp only [Nat.mul_assoc, Nat.mul_comm, Nat.mul_left_comm]
  simp only [ea, eb, ed] at A B D
  -- the faster one is above from some lap on
  have ex : ∀ k : Nat, (f j - g j).toNat < k → hm least (f (j + k * (p * q * q'))) (g (j + k * (p * q * q'))) = if least = true then f (j + k * (p * q * q')) else g (j + k * (p * q * q')) := fun k hk => by
    have b1 := B k
    have d1 := D k
    have cB : ((k * (p * q') : Nat) : Int) * r = (k : Int) * ((p : Int) * (r * (q' : Int))) := by
      rw [Int.natCast_mul, Int.natCast_mul]
      simp only [Int.mul_assoc, Int.mul_comm, Int.mul_left_comm]
    have cD : ((k * (p * q) : Nat) : Int) * r' = (k : Int) * ((p : Int) * (r' * (q : Int))) := by
      rw [Int.natCast_mul, Int.natCast_mul]
      simp only [Int.mul_assoc, Int.mul_comm, Int.mul_left_comm]
    rw [cB] at b1
    rw [cD] at d1
    have m1 : (p : Int) * (r * (q' : Int)) + 1 ≤ (p : Int) * (r' * (q : Int)) := by
      have := Int.mul_lt_mul_of_pos_left slow (show (0 : Int) < (p : Int) by omega)
      omega
    have m2 : (k : Int) * ((p : Int) * (r * (q' : Int)) + 1) ≤ (k : Int) * ((p : Int) * (r' * (q : Int))) := Int.mul_le_mul_of_nonneg_left m1 (by omega)
    rw [Int.mul_add, Int.mul_one] at m2
    generalize f (j + k * (p * q * q')) = F1 at *
    generalize g (j + k * (p * q * q')) = G1 at *
    have le : F1 ≤ G1 := by omega
    unfold hm
    cases least
    · rw [if_neg Bool.false_ne_true, if_neg Bool.false_ne_true]
      split <;> omega
    · rw [if_pos rfl, if_pos rfl]
      split <;> omega
  obtain ⟨k, ek⟩ : ∃ k, k = (f j - g j).toNat + 1 := ⟨_, rfl⟩
  have x1 := ex k (by omega)
  have x2 := ex (2 * k) (by omega)
  rw [← eh] at x1 x2
  have a1 := A k
  have a2 := A (2 * k)
  have b1 := B k
  have b2 := B (2 * k)
  have d1 := D k
  have d2 := D (2 * k)
  have hj := eh j
  have hv : hm least (f j) (g j) = if least = true then g j else f j := by
    unfold hm
    cases least
    · rw [if_neg Bool.false_ne_true, if_neg Bool.false_ne_true]
      split <;> omega
    · rw [if_pos rfl, if_pos rfl]
      split <;> omega
  rw [hv] at hj
  have t1 : ∀ (m : Nat) (y : Int), ((2 * k * m : Nat) : Int) * y = ((k * m : Nat) : Int) * y + ((k * m : Nat) : Int) * y := fun m y => by
    rw [Nat.mul_assoc, Int.natCast_mul 2, Int.mul_assoc]
    show 2 * _ = _
    omega
  rw [t1] at a2 b2 d2
  cases least
  · rw [if_neg Bool.false_ne_true] at x1 x2 hj
    omega
  · rw [if_pos rfl] at x1 x2 hj
    omega
section
variable {P : Program} {w : World} {K : PySem.W.Frag} {mg : Str → Option Value} {base : Heap}
def spLleW (K : PySem.W.Frag) (C CT : Addr) : Sp := fun vs H Q E => ∃ (x y : Addr) (f g : Nat → Int) (q b q' b' S : Nat) (r r' : Int), vs = [.ref x, .ref y, .int S] ∧ NumC H C x f q b r ∧ NumC H C y g q' b' r' ∧ S = Nat.lcm q q' ∧ S ≤ 4000 ∧ r * q' < r' * q ∧ b ≤ 4000 ∧ b' ≤ 4000 ∧
  (∀ n : Nat, b ≤ n → b' ≤ n → n ≤ 4000 → (∀ j, n < j → f j ≤ g j) → ∀ H', Same H H' → Q (.int n) H') ∧ ((∃ j, 4000 ≤ j ∧ g j < f j) → ∀ d H', Raised H "most" (.int 4000) d H' → E (.ref CT) (some d) H')
theorem ok_lleW {f CT C fT : Addr} {fd dT : FuncData} (F : Fun K "last_lead" "last_lead" sLle f fd) (T : CurG mg) (nmax : mg "max" = none) (MM : ∃ t, mg "MOST_MADE" = some (.int 4000 t)) (B_TooMany : ErrT P w K mg base "TooMany" "most" CT fT dT)
    (c_reg : Cal P w K mg base CX0 1 "regular_from" ["curve"] (spRegular K C)) (c_gai : Cal P w K mg base CX0 1 "gain_in" ["curve", "other", "step"] (spGai K C)) (c_fir : Cal P w K mg base CX0 3 "first_values" ["curve", "many"] (spFirst K C))
    (c_lab : Cal P w K mg base CX0 2 "last_above" ["row", "other_row", "begin", "gain"] (spLab K)) : FnOk P w K mg base (L2.CX P w) 4 f fd ["slow", "fast", "step"] (spLleW K C CT) := by
  refine F.okX scLle (fun vs H Q E h => ?_) (fun cdv A outer s H vs Q E hr h => ?_)
  · obtain ⟨x, y, f, g, q, b, q', b', S, r, r', rfl, _⟩ := h
    rfl
  · obtain ⟨x, y, f, g, q, b, q', b', S, r, r', rfl, kx, ky, hS, S4, slow, b4, b4', k, kT⟩ := h
    obtain ⟨tmm, mMOST_MADE⟩ := MM
    refine ⟨_, (C8.pss_cut (ps_set (i := 3) scLle.nd rfl (Or.inl rfl) (pe_callB (call_max2 rfl) (by rfl) nmax (by decide +kernel) (pa_cons (pe_callC c_reg (hr.mono (by decide)) rfl pass0 (pa_cons (pv 0) pa_nil)) (pa_cons (pe_callC c_reg (hr.mono (by decide)) rfl pass0 (pa_cons (pv 1) pa_nil)) pa_nil))))
 (C8.pss_cut (ps_set (i := 4) scLle.nd rfl (Or.inl rfl) (pe_callC c_gai (hr.mono (by decide)) rfl pass0 (pa_cons (pv 1) (pa_cons (pv 0) (pa_cons (pv 2) pa_nil)))))
 (C8.pss_cut (ps_set (i := 5) scLle.nd rfl (Or.inl rfl) (pe_slice sl_list (pe_callC c_fir (hr.mono (by decide)) rfl pass0 (pa_cons (pv 0) (pa_cons (pe_op op_add (pv 3) (pv 2)) pa_nil))) (po_some (pv 3)) po_none))
 (C8.pss_cut (ps_set (i := 6) scLle.nd rfl (Or.inl rfl) (pe_slice sl_list (pe_callC c_fir (hr.mono (by decide)) rfl pass0 (pa_cons (pv 1) (pa_cons (pe_op op_add (pv 3) (pv 2)) pa_nil))) (po_some (pv 3)) po_none))
 (C8.pss_cut (ps_set (i := 7) scLle.nd rfl (Or.inl rfl) (pe_callC c_lab (hr.mono (by decide)) rfl pass0 (pa_cons (pv 5) (pa_cons (pv 6) (pa_cons (pv 3) (pa_cons (pv 4) pa_nil))))))
 (C8.pss_cut (ps_if (pt_cmpR op_isN (pv 7) pe_non (nomark _)) (pss_one
 (ps_ret (pv 3))) pss_nil)
 (C8.pss_cut (ps_if (pt_cmpR op_ge (pv 7) (pe_glob (v := .int 4000) rfl mMOST_MADE ⟨_, rfl⟩) (nomark _)) (pss_one
 (ps_raise rfl (takes_of rfl rfl rfl rfl) (pmk_oex B_TooMany.ox B_TooMany.iC B_TooMany.tI B_TooMany.fn (hr.mono (by decide)) B_TooMany.bd .nil pass0 rfl B_TooMany.gC (pa_cons (pe_glob (v := .int 4000) rfl mMOST_MADE ⟨_, rfl⟩) pa_nil)))) pss_nil)
 (pss_one
 (ps_ret (pv 7)))))))))), ?_⟩
    obtain ⟨v, L, cx, fx, CMx, lx, ex, Qx, q0⟩ := id kx
    obtain ⟨v', L', cy, fy, CMy, ly, ey, Qy, q0'⟩ := id ky
    have S0 : 0 < S := by rw [hS]; exact Nat.lcm_pos q0 q0'
    have dq : S / q * q = S := by rw [hS]; exact Nat.div_mul_cancel (Nat.dvd_lcm_left q q')
    have dq' : S / q' * q' = S := by rw [hS]; exact Nat.div_mul_cancel (Nat.dvd_lcm_right q q')
    have ql : q ≤ S := by rw [hS]; exact Nat.le_of_dvd (Nat.lcm_pos q0 q0') (Nat.dvd_lcm_left q q')
    have ql' : q' ≤ S := by rw [hS]; exact Nat.le_of_dvd (Nat.lcm_pos q0 q0') (Nat.dvd_lcm_right q q')
    have rx := fx.rowF (by omega)
    have ry := fy.rowF (by omega)
    have Q1 := (Qx.up (S / q)).to (Nat.le_max_left b b')
    have Q2 := (Qy.up (S / q')).to (Nat.le_max_right b b')
    rw [dq] at Q1
    rw [dq'] at Q2
    have Qd := Q1.sub Q2
    refine ⟨fun σ H' => σ = [some (.ref x), some (.ref y), some (.int S), some (.int (max b b' : Nat)), none, none, none, none] ∧ H' = H, ?_, ?_⟩
    · refine ⟨_, rfl, x, v, q, r, rfl, cx, by omega, _, rfl, y, v', q', r', rfl, cy, by omega, _, _, rfl, ?_, rfl⟩
      rw [lx, ly, Nat.add_sub_cancel, Nat.add_sub_cancel]
      show [_, _, _, some (V.int (if (b' : Int) > (b : Int) then (b' : Int) else (b : Int))), _, _, _, _] = _
      rw [show (if (b' : Int) > (b : Int) then (b' : Int) else (b : Int)) = ((max b b' : Nat) : Int) by split <;> omega]
    rintro σ H1 ⟨rfl, rfl⟩
    have B1 : b ≤ max b b' := Nat.le_max_left _ _
    have B2 : b' ≤ max b b' := Nat.le_max_right _ _
    have B3 : max b b' ≤ 4000 := by omega
    generalize max b b' = B at *
    have G1 : 0 < ((S / q' : Nat) : Int) * r' - ((S / q : Nat) : Int) * r := by
      have e1 : ((S / q : Nat) : Int) * (q : Int) = (S : Int) := by rw [← Int.natCast_mul, dq]
      have e2 : ((S / q' : Nat) : Int) * (q' : Int) = (S : Int) := by rw [← Int.natCast_mul, dq']
      have p1 : 0 < ((S / q : Nat) : Int) := by
        have : 0 < S / q := Nat.div_pos ql q0
        omega
      have p2 : 0 < ((S / q' : Nat) : Int) := by
        have : 0 < S / q' := Nat.div_pos ql' q0'
        omega
      generalize ((S / q : Nat) : Int) = u at *
      generalize ((S / q' : Nat) : Int) = u' at *
      -- u q = u' q' = S, r q' < r' q: so u r S < u' r' S
      have h1 : r * (q' : Int) * (u * u') < r' * (q : Int) * (u * u') := Int.mul_lt_mul_of_pos_right slow (Int.mul_pos p1 p2)
      have h2 : r * (q' : Int) * (u * u') = (u * r) * (S : Int) := by rw [← e2]; simp only [Int.mul_assoc, Int.mul_comm, Int.mul_left_comm]
      have h3 : r' * (q : Int) * (u * u') = (u' * r') * (S : Int) := by rw [← e1]; simp only [Int.mul_assoc, Int.mul_comm, Int.mul_left_comm]
      rw [h2, h3] at h1
      have := Int.lt_of_mul_lt_mul_right h1 (by omega)
      omega
    have G2 : ((S / q' : Nat) : Int) * r' - ((S / q : Nat) : Int) * r < 2 ^ 60 := by
      have b1 : S / q' ≤ 4000 := Nat.le_trans (Nat.div_le_self _ _) S4
      have a0 : 0 ≤ ((S / q : Nat) : Int) * r := Int.mul_nonneg (Int.natCast_nonneg _) CMx.g0
      have g2 := CMy.g1
      have a3 : ((S / q' : Nat) : Int) * r' ≤ 4000 * 2 ^ 30 := Int.mul_le_mul (Int.ofNat_le.mpr b1) (by omega) CMy.g0 (by decide)
      omega
    rw [show ((S / q : Nat) : Int) * r - ((S / q' : Nat) : Int) * r' = -(((S / q' : Nat) : Int) * r' - ((S / q : Nat) : Int) * r) by omega] at Qd
    refine ⟨fun σ H' => σ = [some (.ref x), some (.ref y), some (.int S), some (.int B), some (.int (((S / q' : Nat) : Int) * r' - ((S / q : Nat) : Int) * r)), none, none, none] ∧ H' = H1, ⟨_, rfl, _, rfl, _, rfl, y, x, v', v, q', q, S, r', r, rfl, cy, cx, q0', q0, by omega, by omega, by omega, rfl, rfl⟩, ?_⟩
    rintro σ H2 ⟨rfl, rfl⟩
    generalize ((S / q' : Nat) : Int) * r' - ((S / q : Nat) : Int) * r = G at *
    have rowE : ∀ {L : Nat → V} {f : Nat → Int}, (∀ j, L j = .int (f j)) → cutV ((List.range (B + S)).map L) (some (B : Int)) none = (List.range S).map fun j => V.int (f (B + j)) := fun {L f} e => by
      rw [cutL (by rw [List.length_map, List.length_range]; omega), ← List.map_drop, List.range_add, List.drop_append, List.length_range, Nat.sub_self, List.drop_of_length_le (by rw [List.length_range]; exact Nat.le_refl _), List.nil_append, List.drop_zero, List.map_map]
      exact List.map_congr_left fun j _ => e (B + j)
    refine ⟨fun σ H' => ∃ z, σ = [some (.ref x), some (.ref y), some (.int S), some (.int B), some (.int G), some (.ref z), none, none] ∧ H' z = some (.lst ((List.range S).map fun j => V.int (f (B + j)))) ∧ Same H2 H', ?_, ?_⟩
    · refine ⟨_, rfl, _, rfl, _, rfl, _, _, rfl, rfl, x, v, q, B + S, r, L, rfl, cx, rx, CMx, by omega, by omega, by omega, fun z1 H3 hz1 e1 s3 => ?_⟩
      refine ⟨_, rfl, (B : Int), rfl, z1, _, rfl, SqL.of e1, fun u hu => ⟨u, rfl, ?_, Same.trans s3 (same_new hu)⟩⟩
      rw [rowE ex]
      exact upd_same
    rintro σ H3 ⟨z, rfl, hz, s3⟩
    refine ⟨fun σ H' => ∃ z', σ = [some (.ref x), some (.ref y), some (.int S), some (.int B), some (.int G), some (.ref z), some (.ref z'), none] ∧ H' z = some (.lst ((List.range S).map fun j => V.int (f (B + j)))) ∧ H' z' = some (.lst ((List.range S).map fun j => V.int (g (B + j)))) ∧ Same H2 H', ?_, ?_⟩
    · refine ⟨_, rfl, _, rfl, _, rfl, _, _, rfl, rfl, y, v', q', B + S, r', L', rfl, cy.same s3, ry, CMy, by omega, by omega, by omega, fun z1 H4 hz1 e1 s4 => ?_⟩
      refine ⟨_, rfl, (B : Int), rfl, z1, _, rfl, SqL.of e1, fun u hu => ⟨u, rfl, same_new hu _ _ (s4 _ _ hz), ?_, Same.trans s3 (Same.trans s4 (same_new hu))⟩⟩
      rw [rowE ey]
      exact upd_same
    rintro σ H4 ⟨z', rfl, hz4, hz', s4⟩
    refine ⟨fun σ H' => ∃ d, σ = [some (.ref x), some (.ref y), some (.int S), some (.int B), some (.int G), some (.ref z), some (.ref z'), some d] ∧ LastAb (fun j => f (B + j) - g (B + j)) S B G d ∧ Same H2 H', ?_, ?_⟩
    · exact ⟨_, rfl, _, rfl, _, rfl, _, rfl, z, z', S, B, _, _, G, rfl, hz4, hz', S0, by omega, G1, G2, fun d hd H5 s5 => ⟨d, rfl, hd, Same.trans s4 s5⟩⟩
    rintro σ H5 ⟨d, rfl, hd, s5⟩
    have neg : ∀ k : Nat, (k : Int) * (-G) = -((k : Int) * G) := fun k => Int.mul_neg ..
    have val : ∀ i k : Nat, f (B + i + k * S) - g (B + i + k * S) = f (B + i) - g (B + i) - (k : Int) * G := fun i k => by
      have m := Qd.mul (j := B + i) (by omega) k
      rw [neg] at m
      have m : f (B + i + k * S) - g (B + i + k * S) = f (B + i) - g (B + i) + -((k : Int) * G) := m
      omega
    refine ⟨fun σ H' => σ = [some (.ref x), some (.ref y), some (.int S), some (.int B), some (.int G), some (.ref z), some (.ref z'), some d] ∧ H' = H5 ∧ d ≠ .non, ?_, ?_⟩
    · refine ⟨_, rfl, rfl, ?_⟩
      rcases hd with ⟨rfl, hd⟩ | ⟨t, k1, rfl, _⟩
      · refine ⟨true, rfl, iteT ⟨_, rfl, k B B1 B2 B3 (fun j hj => ?_) H5 s5⟩⟩
        obtain ⟨kk, i, e, hi⟩ := MF.dec_add S0 (show B ≤ j by omega)
        have v := val i kk
        rw [← e] at v
        have h0 : f (B + i) - g (B + i) ≤ 0 := hd i hi
        have : 0 ≤ (kk : Int) * G := Int.mul_nonneg (by omega) (by omega)
        omega
      · exact ⟨false, rfl, iteF ⟨rfl, rfl, fun z => by cases z⟩⟩
    rintro σ H6 ⟨rfl, rfl, dn⟩
    rcases hd with ⟨rfl, _⟩ | ⟨t, k1, rfl, t1, t2, t3, t4⟩
    · exact absurd rfl dn
    have vt := val t k1
    have later : ∀ j, B + t + k1 * S < j → f j ≤ g j := fun j hj => by
      obtain ⟨kk, i, e, hi⟩ := MF.dec_add S0 (show B ≤ j by omega)
      have v := val i kk
      rw [← e] at v
      have t4 : f (B + i) - g (B + i) ≤ ((k1 + 1 : Nat) : Int) * G := t4 i hi
      rcases Nat.lt_or_ge k1 kk with c | c
      · have : ((k1 + 1 : Nat) : Int) * G ≤ (kk : Int) * G := Int.mul_le_mul_of_nonneg_right (by omega) (by omega)
        omega
      · rcases Nat.lt_or_ge kk k1 with c2 | c2
        · exfalso
          have : (kk + 1) * S ≤ k1 * S := Nat.mul_le_mul_right _ c2
          rw [Nat.succ_mul] at this
          omega
        · have : kk = k1 := by omega
          subst this
          have t3 : f (B + i) - g (B + i) ≤ (kk : Int) * G := t3 i (by omega) hi
          omega
    refine ⟨fun σ H' => σ = [some (.ref x), some (.ref y), some (.int S), some (.int B), some (.int G), some (.ref z), some (.ref z'), some (.int ((B + t + k1 * S : Nat) : Int))] ∧ H' = H6 ∧ B + t + k1 * S < 4000, ?_, ?_⟩
    · refine ⟨_, rfl, _, _, rfl, rfl, ?_⟩
      by_cases c4 : ((B + t + k1 * S : Nat) : Int) ≥ 4000
      · exact ⟨true, bT c4, iteT (mkO_post B_TooMany fun d H' rd => kT ⟨B + t + k1 * S, by omega, by have t2 : (k1 : Int) * G < f (B + t) - g (B + t) := t2; omega⟩ d H' (Raised.same s5 rd))⟩
      · exact ⟨false, bF c4, iteF ⟨rfl, rfl, by omega⟩⟩
    rintro σ H7 ⟨rfl, rfl, l4⟩
    exact ⟨_, rfl, k _ (by omega) (by omega) (by omega) later H7 s5⟩
def spSetW (K : PySem.W.Frag) (C CT : Addr) : Sp := fun vs H Q E => ∃ (x y : Addr) (least : Bool) (f g : Nat → Int) (q b q' b' : Nat) (r r' : Int), vs = [.ref x, .ref y, .bl least] ∧ NumC H C x f q b r ∧ NumC H C y g q' b' r' ∧ Nat.lcm q q' ≤ 4000 ∧ q ≤ 4000 ∧ q' ≤ 4000 ∧ b ≤ 4000 ∧ b' ≤ 4000 ∧
  (r * q' < r' * q ∨ r' * q < r * q') ∧
  (∀ (T z : Addr) (n : Nat) (H' : Hp) (fk : Nat → Int) (qk bk : Nat) (rk : Int), H' T = some (.tup [.int n, .ref z]) → NumC H' C z fk qk bk rk → (qk = q ∨ qk = q') → bk ≤ n → n ≤ 4001 → (∀ j, n ≤ j → hm least (f j) (g j) = fk j) → Same H H' → Q (.ref T) H') ∧ ((∃ j, 4000 ≤ j ∧ ((r * q' < r' * q ∧ g j < f j) ∨ (r' * q < r * q' ∧ f j < g j))) → ∀ d H', Raised H "most" (.int 4000) d H' → E (.ref CT) (some d) H')
theorem ok_setW {f C CT : Addr} {fd : FuncData} (F : Fun K "settled" "settled" sSet f fd) (T : CurG mg) (nmax : mg "max" = none)
    (c_slo : Cal P w K mg base CX0 1 "slower_first" nSlo (spSlo K C)) (c_lle : Cal P w K mg base (L2.CX P w) 4 "last_lead" ["slow", "fast", "step"] (spLleW K C CT)) (c_per : Cal P w K mg base (L2.CX P w) 3 "common_period" ["curve", "other"] (spPer K C CT))
    (c_reg : Cal P w K mg base CX0 1 "regular_from" ["curve"] (spRegular K C)) : FnOk P w K mg base (L2.CX P w) 5 f fd ["curve", "other", "least"] (spSetW K C CT) := by
  refine F.okX scSet (fun vs H Q E h => ?_) (fun cdv A outer s H vs Q E hr h => ?_)
  · obtain ⟨x, y, least, f, g, q, b, q', b', r, r', rfl, _⟩ := h
    rfl
  · obtain ⟨x, y, least, f, g, q, b, q', b', r, r', rfl, kx, ky, S4, q4, q4', b4, b4', hc, k, kT⟩ := h
    refine ⟨_, (C8.pss_cut (ps_asg (pe_callC c_slo (hr.mono (by decide)) rfl pass0 (pa_cons (pv 0) (pa_cons (pv 1) pa_nil))) (pg_tup rfl (pgs_cons (pg_name (i := 3) scSet.nd rfl (Or.inl rfl)) (pgs_cons (pg_name (i := 4) scSet.nd rfl (Or.inl rfl)) pgs_nil))))
 (C8.pss_cut (ps_set (i := 5) scSet.nd rfl (Or.inl rfl) (pe_ifExp (pt_val (pv 2)) (pv 3) (pv 4)))
 (C8.pss_cut (ps_set (i := 6) scSet.nd rfl (Or.inl rfl) (pe_callC c_lle (hr.mono (by decide)) rfl (passX (E := E) (takes_of rfl rfl rfl rfl) fun _ _ _ _ h => h) (pa_cons (pv 3) (pa_cons (pv 4) (pa_cons (pe_callC c_per (hr.mono (by decide)) rfl (passX (E := E) (takes_of rfl rfl rfl rfl) fun _ _ _ _ h => h) (pa_cons (pv 0) (pa_cons (pv 1) pa_nil))) pa_nil)))))
 (pss_one
 (ps_ret (pe_tup (pa_cons (pe_callB (call_max2 rfl) (by rfl) nmax (by decide +kernel) (pa_cons (pe_op op_add (pv 6) pe_int) (pa_cons (pe_callC c_reg (hr.mono (by decide)) rfl pass0 (pa_cons (pv 5) pa_nil)) pa_nil))) (pa_cons (pv 5) pa_nil)))))))), ?_⟩
    refine ⟨fun σ H' => ∃ (s t : Addr) (fs ft : Nat → Int) (qs bs qt bt : Nat) (rs rt : Int), σ = [some (.ref x), some (.ref y), some (.bl least), some (.ref s), some (.ref t), none, none] ∧ Same H H' ∧ NumC H' C s fs qs bs rs ∧ NumC H' C t ft qt bt rt ∧ rs * qt < rt * qs ∧ Nat.lcm q q' = Nat.lcm qs qt ∧ bs ≤ 4000 ∧ bt ≤ 4000 ∧ (qs = q ∨ qs = q') ∧ (qt = q ∨ qt = q') ∧ ((fs = f ∧ ft = g ∧ r * (q' : Int) < r' * (q : Int)) ∨ (fs = g ∧ ft = f ∧ r' * (q : Int) < r * (q' : Int))), ?_, ?_⟩
    · obtain ⟨v, L, cx, _⟩ := id kx
      obtain ⟨v', L', cy, _⟩ := id ky
      refine ⟨_, rfl, _, rfl, x, y, v, v', q, q', r, r', rfl, cx, cy, by omega, by omega, fun T2 H1 hT s1 => ?_⟩
      by_cases c : r' * (q : Int) < r * (q' : Int)
      · rw [if_pos c] at hT
        exact ⟨T2, _, rfl, SqT.of hT, rfl, _, _, rfl, _, _, rfl, rfl, y, x, g, f, q', b', q, b, r', r, rfl, s1, ky.same s1, kx.same s1, c, Nat.lcm_comm q q', b4', b4, .inr rfl, .inl rfl, .inr ⟨rfl, rfl, c⟩⟩
      · rw [if_neg c] at hT
        rcases hc with c2 | c2
        · exact ⟨T2, _, rfl, SqT.of hT, rfl, _, _, rfl, _, _, rfl, rfl, x, y, f, g, q, b, q', b', r, r', rfl, s1, kx.same s1, ky.same s1, c2, rfl, b4, b4', .inl rfl, .inr rfl, .inl ⟨rfl, rfl, c2⟩⟩
        · exact absurd c2 c
    rintro σ H1 ⟨s1, t1, fs, ft, qs, bs, qt, bt, rs, rt, rfl, sm1, ks, kt, slow, hl, bs4, bt4, es, et, ef⟩
    refine ⟨fun σ H' => ∃ z, σ = [some (.ref x), some (.ref y), some (.bl least), some (.ref s1), some (.ref t1), some (.ref z), none] ∧ H' = H1 ∧ z = (if least = true then s1 else t1), ?_, ?_⟩
    · cases least with
      | true => exact ⟨_, rfl, true, rfl, iteT ⟨_, rfl, s1, rfl, rfl, rfl⟩⟩
      | false => exact ⟨_, rfl, false, rfl, iteF ⟨_, rfl, t1, rfl, rfl, rfl⟩⟩
    rintro σ H2 ⟨z, rfl, rfl, hz⟩
    refine ⟨fun σ H' => ∃ n : Nat, σ = [some (.ref x), some (.ref y), some (.bl least), some (.ref s1), some (.ref t1), some (.ref z), some (.int n)] ∧ Same H2 H' ∧ bs ≤ n ∧ bt ≤ n ∧ n ≤ 4000 ∧ ∀ j, n < j → fs j ≤ ft j, ?_, ?_⟩
    · obtain ⟨v, L, cx, _⟩ := kx.same sm1
      obtain ⟨v', L', cy, _⟩ := ky.same sm1
      refine ⟨_, rfl, _, rfl, _, rfl, _, rfl, x, y, v, v', q, q', r, r', rfl, cx, cy, by omega, by omega, fun _ => ?_, fun z => absurd z (by omega)⟩
      refine ⟨s1, t1, fs, ft, qs, bs, qt, bt, _, rs, rt, rfl, ks, kt, hl, S4, slow, bs4, bt4, fun n n1 n2 n3 n4 H3 s3 => ⟨n, rfl, s3, n1, n2, n3, n4⟩, fun ⟨j, j4, aj⟩ d H3 rd => kT ⟨j, j4, ?_⟩ d H3 (Raised.same sm1 rd)⟩
      rcases ef with ⟨rfl, rfl, c⟩ | ⟨rfl, rfl, c⟩
      · exact .inl ⟨c, aj⟩
      · exact .inr ⟨c, aj⟩
    rintro σ H3 ⟨n, rfl, s3, n1, n2, n3, n4⟩
    obtain ⟨fk, qk, bk, rk, kz, ek, bk1, hk⟩ : ∃ (fk : Nat → Int) (qk bk : Nat) (rk : Int), NumC H3 C z fk qk bk rk ∧ (qk = q ∨ qk = q') ∧ bk ≤ n ∧ ∀ j, n < j → hm least (f j) (g j) = fk j := by
      cases least with
      | true =>
        subst hz
        refine ⟨fs, qs, bs, rs, ks.same s3, es, n1, fun j hj => ?_⟩
        have := n4 j hj
        unfold hm
        rw [if_pos rfl]
        rcases ef with ⟨rfl, rfl, _⟩ | ⟨rfl, rfl, _⟩ <;> (split <;> omega)
      | false =>
        subst hz
        refine ⟨ft, qt, bt, rt, kt.same s3, et, n2, fun j hj => ?_⟩
        have := n4 j hj
        unfold hm
        rw [if_neg Bool.false_ne_true]
        rcases ef with ⟨rfl, rfl, _⟩ | ⟨rfl, rfl, _⟩ <;> (split <;> omega)
    obtain ⟨vk, Lk, ck, fok, CMk, lk, _⟩ := id kz
    refine ⟨_, rfl, _, _, rfl, rfl, _, rfl, z, vk, qk, rk, rfl, ck, by omega, _, _, rfl, _, rfl, (by show 2 ≤ sizeLine; decide), fun T2 hT => ?_⟩
    rw [lk, Nat.add_sub_cancel]
    refine k T2 z (n + 1) _ fk qk bk rk ?_ (kz.same (same_new hT)) ek (by omega) (by omega) (fun j hj => hk j (by omega)) (Same.trans sm1 (Same.trans s3 (same_new hT)))
    rw [show ((n + 1 : Nat) : Int) = (if (bk : Int) > (n : Int) + 1 then (bk : Int) else (n : Int) + 1) by rw [if_neg (by omega)]; omega]
    exact upd_same
def spJbyW (K : PySem.W.Frag) (C CT : Addr) (S : Addr → Option Sp) : Sp := fun vs H Q E => ∃ (jf x y : Addr) (h : Int → Int → Int) (L M : Nat → V) (q q' n p : Nat) (g : Int), vs = [.ref jf, .ref x, .ref y, .int n, .int p, .int g] ∧ S jf = some (spRowJ K h) ∧ KCur H C x L q ∧ KCur H C y M q' ∧
  (∀ j, L j ≠ .non) ∧ (∀ j, M j ≠ .non) ∧ 0 < p ∧ p ≤ n ∧ n ≤ 20000 ∧ p ≤ 10000 ∧ 0 ≤ g ∧ g ≤ 1000000000000000000 ∧ MF.QP (fun j => h (ival (L j)) (ival (M j))) p g (n - p) ∧
  HandJ C CT (fun j => joinV h (L j) (M j)) H Q E
theorem ok_jbyW {f C CT : Addr} {fd : FuncData} {S : Addr → Option Sp} (F : Fun K "joined_by" "joined_by" sJby f fd) (AH : ∀ f sp, S f = some sp → Held P w K mg base 1 f sp)
    (c_fir : Cal P w K mg base CX0 3 "first_values" ["curve", "many"] (spFirst K C)) (c_made : Cal P w K mg base (L2.CX P w) 6 "made" ["row", "period", "growth"] (spMadeC K C CT)) :
    FnOk P w K mg base (L2.CX P w) 7 f fd nJby (spJbyW K C CT S) := by
  refine F.okX scJby (fun vs H Q E h => ?_) (fun cdv A outer s H vs Q E hr h => ?_)
  · obtain ⟨jf, x, y, h, L, M, q, q', n, p, g, rfl, _⟩ := h
    rfl
  · obtain ⟨jf, x, y, h, L, M, q, q', n, p, g, rfl, hS, ⟨v, r, cx, fx, CMx, lx⟩, ⟨v', r', cy, fy, CMy, ly⟩, nL, nM, p0, pn, n4, p4, g0, g1, Qp, k⟩ := h
    have px := fx.len
    have py := fy.len
    have rx := fx.rowF (by omega)
    have ry := fy.rowF (by omega)
    have eL := row_ival2 fx (n := n) fun j _ => nL j
    have eM := row_ival2 fy (n := n) fun j _ => nM j
    refine ⟨_, (pss_one
 (ps_ret (pe_callC c_made (hr.mono (by decide)) rfl (passX (E := E) (takes_of rfl rfl rfl rfl) fun _ _ _ _ h => h) (pa_cons (pe_callA (S := S) (i := 0) AH (hr.mono (by decide)) rfl (Or.inl rfl) (pa_cons (pe_callC c_fir (hr.mono (by decide)) rfl pass0 (pa_cons (pv 1) (pa_cons (pv 3) pa_nil))) (pa_cons (pe_callC c_fir (hr.mono (by decide)) rfl pass0 (pa_cons (pv 2) (pa_cons (pv 3) pa_nil))) pa_nil))) (pa_cons (pv 4) (pa_cons (pv 5) pa_nil)))))), ?_⟩
    refine ⟨jf, _, rfl, hS, _, rfl, _, rfl, x, v, q, n, r, L, rfl, cx, rx, CMx, by omega, by omega, by omega, fun z1 H2 hz1 e1 s2 => ?_⟩
    refine ⟨_, rfl, _, rfl, y, v', q', n, r', M, rfl, cy.same s2, ry, CMy, by omega, by omega, by omega, fun z2 H3 hz2 e2 s3 => ?_⟩
    rw [eL] at e1
    rw [eM] at e2
    refine ⟨z1, z2, n, _, _, rfl, s3 _ _ e1, e2, by omega, fun z3 H4 hz3 e3 s4 => ?_⟩
    have s24 := Same.trans s2 (Same.trans s3 s4)
    have R := row_int (f := fun j => h (ival (L j)) (ival (M j))) p0 pn (by omega) Qp
    refine ⟨_, rfl, _, rfl, z3, _, p, g, rfl, e3, in_int p0 pn (by omega) g0 g1, fun vals q2 r2 z4 H5 fv l4 hz4 cu s5 => ?_, fun vals q2 r2 fv l4 => ?_⟩
    · obtain ⟨q3, rfl, fo⟩ := form_g fv R
      refine k.1 vals q3 r2 z4 H5 ?_ l4 (s24.free hz4) cu (Same.trans s24 s5)
      have e : (fun j => joinV h (L j) (M j)) = fun j => V.int (h (ival (L j)) (ival (M j))) := by
        funext j
        refine joinV_int ?_ ?_
        · rcases fx.flatL j with z | z
          · exact absurd z (nL j)
          · exact z
        · rcases fy.flatL j with z | z
          · exact absurd z (nM j)
          · exact z
      rw [e]
      exact fo
    · obtain ⟨q3, rfl, fo⟩ := form_g fv R
      refine fun d H5 rd => k.2 (fun v p g fg => ?_) d H5 (Raised.same s24 rd)
      have e : (fun j => joinV h (L j) (M j)) = fun j => V.int (h (ival (L j)) (ival (M j))) := by
        funext j
        refine joinV_int ?_ ?_
        · rcases fx.flatL j with z | z
          · exact absurd z (nL j)
          · exact z
        · rcases fy.flatL j with z | z
          · exact absurd z (nM j)
          · exact z
      rw [e] at fg
      rw [(fg.uniq fo).1]
      exact l4
def spJenW (K : PySem.W.Frag) (C : Addr) (S : Addr → Option Sp) : Sp := fun vs H Q _ => ∃ (jf x y : Addr) (h : Int → Int → Int) (L M : Nat → V) (q q' : Nat), vs = [.ref jf, .ref x, .ref y] ∧ S jf = some (spRowJ K h) ∧ KCur H C x L q ∧ KCur H C y M q' ∧
  (∃ j, L j = .non ∨ M j = .non) ∧ ∀ (z : Addr) (H' : Hp), H z = none → IsC4 H' C z (fun j => joinV h (L j) (M j)) → Same H H' → Q (.ref z) H'
theorem ok_jenW {f C CT : Addr} {fd : FuncData} {S : Addr → Option Sp} (F : Fun K "joined_ends" "joined_ends" sJen f fd) (AH : ∀ f sp, S f = some sp → Held P w K mg base 1 f sp)
    (c_sho : Cal P w K mg base CX0 2 "shorter_end" ["curve", "other"] (spSho K C))
    (c_fir : Cal P w K mg base CX0 3 "first_values" ["curve", "many"] (spFirst K C)) (c_made : Cal P w K mg base (L2.CX P w) 6 "made" ["row", "period", "growth"] (spMadeC K C CT)) :
    FnOk P w K mg base (L2.CX P w) 7 f fd ["joined_row", "curve", "other"] (spJenW K C S) := by
  refine F.okX scJen (fun vs H Q E h => ?_) (fun cdv A outer s H vs Q E hr h => ?_)
  · obtain ⟨jf, x, y, h, L, M, q, q', rfl, _⟩ := h
    rfl
  · obtain ⟨jf, x, y, h, L, M, q, q', rfl, hS, kx, ky, hne, k⟩ := h
    obtain ⟨v, r, cx, fx, CMx, lx⟩ := id kx
    obtain ⟨v', r', cy, fy, CMy, ly⟩ := id ky
    have px := fx.len
    have py := fy.len
    have rx := fx.rowF (by omega)
    have ry := fy.rowF (by omega)
    refine ⟨_, (C8.pss_cut (ps_set (i := 3) scJen.nd rfl (Or.inl rfl) (pe_callC c_sho (hr.mono (by decide)) rfl pass0 (pa_cons (pv 1) (pa_cons (pv 2) pa_nil))))
 (pss_one
 (ps_ret (pe_callC c_made (hr.mono (by decide)) rfl (passX (E := E) (takes_of rfl rfl rfl rfl) fun _ _ _ _ h => h) (pa_cons (pe_op op_cat (pe_callA (S := S) (i := 0) AH (hr.mono (by decide)) rfl (Or.inl rfl) (pa_cons (pe_callC c_fir (hr.mono (by decide)) rfl pass0 (pa_cons (pv 1) (pa_cons (pv 3) pa_nil))) (pa_cons (pe_callC c_fir (hr.mono (by decide)) rfl pass0 (pa_cons (pv 2) (pa_cons (pv 3) pa_nil))) pa_nil))) (pe_lst (pa_cons pe_non pa_nil))) (pa_cons pe_int (pa_cons pe_int pa_nil))))))), ?_⟩
    refine ⟨fun σ H' => ∃ m : Nat, σ = [some (.ref jf), some (.ref x), some (.ref y), some (.int m)] ∧ IsEnd L M m ∧ m + 1 ≤ 4000 ∧ Same H H', ?_, ?_⟩
    · exact ⟨_, rfl, _, rfl, x, y, L, M, q, q', rfl, kx, ky, hne, fun m hm h4 H1 s1 => ⟨m, rfl, hm, h4, s1⟩⟩
    rintro σ H1 ⟨m, rfl, hm, h4, s1⟩
    have eL := row_ival2 fx (n := m) fun j hj => (hm.2 j hj).1
    have eM := row_ival2 fy (n := m) fun j hj => (hm.2 j hj).2
    refine ⟨jf, _, rfl, hS, _, rfl, _, rfl, x, v, q, m, r, L, rfl, cx.same s1, rx, CMx, by omega, by omega, by omega, fun z1 H2 hz1 e1 s2 => ?_⟩
    refine ⟨_, rfl, _, rfl, y, v', q', m, r', M, rfl, cy.same (Same.trans s1 s2), ry, CMy, by omega, by omega, by omega, fun z2 H3 hz2 e2 s3 => ?_⟩
    rw [eL] at e1
    rw [eM] at e2
    refine ⟨z1, z2, m, _, _, rfl, s3 _ _ e1, e2, by omega, fun z3 H4 hz3 e3 s4 => ?_⟩
    refine ⟨(by show 1 ≤ sizeLine; decide), fun u hu => ?_⟩
    generalize g5 : upd H4 u _ = H5
    obtain ⟨s5, f5⟩ := alloc g5 hu
    refine ⟨z3, u, _, _, rfl, rfl, s5 _ _ e3, f5, (by rw [List.length_map, List.length_range]; exact line_le (show m + 1 ≤ 200000 by omega)), fun z4 hz4 => ?_⟩
    generalize g6 : upd H5 z4 _ = H6
    obtain ⟨s6, f6⟩ := alloc g6 hz4
    have s16 : Same H H6 := Same.trans s1 (Same.trans s2 (Same.trans s3 (Same.trans s4 (Same.trans s5 s6))))
    generalize hs : (List.range m).map (fun j => h (ival (L j)) (ival (M j))) = sv
    have lsv : sv.length = m := by rw [← hs, List.length_map, List.length_range]
    have er : (List.range m).map (fun j => V.int (h (ival (L j)) (ival (M j)))) ++ [V.non] = (List.range (m + 1)).map (FN sv) := by
      rw [range_fn (s := sv) (n := m + 1) (by omega), lsv, show m + 1 - m = 1 by omega, ← hs, List.map_map]
      rfl
    have R := row_non (s := sv) (n := m + 1) (p := 1) (g := 0) (by omega)
    rw [er] at f6
    refine ⟨z4, _, 1, 0, rfl, f6, in_non (by omega) (by omega), fun vals q2 r2 z5 H7 fv l4 hz5 cu s7 => ?_, fun vals q2 r2 fv l4 => ?_⟩
    · obtain ⟨q3, rfl, fo⟩ := form_g fv R
      refine k z5 H7 (s16.free hz5) ?_ (Same.trans s16 s7)
      have e : (fun j => joinV h (L j) (M j)) = FN sv := by
        funext j
        by_cases c : j < m
        · rw [fn_low (by omega)]
          have := hm.2 j c
          rw [joinV_int (h := h) (a := L j) (b := M j) (by rcases fx.flatL j with z | z; exact absurd z this.1; exact z) (by rcases fy.flatL j with z | z; exact absurd z this.2; exact z)]
          rw [← hs, List.getD_eq_getElem?_getD, List.getElem?_map, List.getElem?_range c]
          rfl
        · rw [fn_high (by omega)]
          refine joinV_non ?_
          rcases hm.1 with z | z
          · obtain ⟨_, lv, _, ev⟩ := fx.ends
            rcases ev with ⟨_, ev⟩ | ⟨_, ev⟩
            · exact .inl ((ev j).mpr (by have := (ev m).mp z; omega))
            · exact absurd z (ev m)
          · obtain ⟨_, lv, _, ev⟩ := fy.ends
            rcases ev with ⟨_, ev⟩ | ⟨_, ev⟩
            · exact .inr ((ev j).mpr (by have := (ev m).mp z; omega))
            · exact absurd z (ev m)
      rw [e]
      exact ⟨vals, q3, r2, cu, fo, l4⟩
    · exfalso
      have := formV_len fv
      rw [List.length_map, List.length_range] at this
      omega
def spJnuW (K : PySem.W.Frag) (C CT : Addr) (S : Addr → Option Sp) : Sp := fun vs H Q E => ∃ (jf x y : Addr) (least : Bool) (f g : Nat → Int) (q b q' b' : Nat) (r r' : Int), vs = [.ref jf, .ref x, .ref y, .bl least] ∧ S jf = some (spRowJ K (hm least)) ∧ NumC H C x f q b r ∧ NumC H C y g q' b' r' ∧ Nat.lcm q q' ≤ 4000 ∧ q ≤ 4000 ∧ q' ≤ 4000 ∧ b + q ≤ 4000 ∧ b' + q' ≤ 4000 ∧
  HandJ C CT (fun j => .int (hm least (f j) (g j))) H Q E
theorem ok_jnuW {f C CT fI fE : Addr} {fd : FuncData} {S : Addr → Option Sp} (F : Fun K "joined_numbers" "joined_numbers" sJnu f fd) (T : CurG mg) (U : CurT K mg C fI fE) (nmax : mg "max" = none)
    (c_per : Cal P w K mg base (L2.CX P w) 3 "common_period" ["curve", "other"] (spPer K C CT)) (c_gai : Cal P w K mg base CX0 1 "gain_in" ["curve", "other", "step"] (spGai K C)) (c_reg : Cal P w K mg base CX0 1 "regular_from" ["curve"] (spRegular K C))
    (c_jby : Cal P w K mg base (L2.CX P w) 7 "joined_by" nJby (spJbyW K C CT S)) (c_set : Cal P w K mg base (L2.CX P w) 5 "settled" ["curve", "other", "least"] (spSetW K C CT)) :
    FnOk P w K mg base (L2.CX P w) 8 f fd ["joined_row", "curve", "other", "least"] (spJnuW K C CT S) := by
  refine F.okX scJnu (fun vs H Q E h => ?_) (fun cdv A outer s H vs Q E hr h => ?_)
  · obtain ⟨jf, x, y, least, f, g, q, b, q', b', r, r', rfl, _⟩ := h
    rfl
  · obtain ⟨jf, x, y, least, f, g, q, b, q', b', r, r', rfl, hS, kx, ky, S4, q4, q4', b4, b4', k⟩ := h
    refine ⟨_, (C8.pss_cut (ps_set (i := 4) scJnu.nd rfl (Or.inl rfl) (pe_callC c_per (hr.mono (by decide)) rfl (passX (E := E) (takes_of rfl rfl rfl rfl) fun _ _ _ _ h => h) (pa_cons (pv 1) (pa_cons (pv 2) pa_nil))))
 (C8.pss_cut (ps_if (pt_cmpR op_eq (pe_callC c_gai (hr.mono (by decide)) rfl pass0 (pa_cons (pv 1) (pa_cons (pv 2) (pa_cons (pv 4) pa_nil)))) pe_int (nomark _)) (C8.pss_cut (ps_set (i := 5) scJnu.nd rfl (Or.inl rfl) (pe_callB (call_max2 rfl) (by rfl) nmax (by decide +kernel) (pa_cons (pe_callC c_reg (hr.mono (by decide)) rfl pass0 (pa_cons (pv 1) pa_nil)) (pa_cons (pe_callC c_reg (hr.mono (by decide)) rfl pass0 (pa_cons (pv 2) pa_nil)) pa_nil))))
 (C8.pss_cut (ps_set (i := 6) scJnu.nd rfl (Or.inl rfl) (pe_op op_mul (pe_op op_fdivN (pv 4) (pe_fld (pv 1) rfl)) (pe_fld (pv 1) rfl)))
 (pss_one
 (ps_ret (pe_callC c_jby (hr.mono (by decide)) rfl (passX (E := E) (takes_of rfl rfl rfl rfl) fun _ _ _ _ h => h) (pa_cons (pv 0) (pa_cons (pv 1) (pa_cons (pv 2) (pa_cons (pe_op op_add (pv 5) (pv 4)) (pa_cons (pv 4) (pa_cons (pv 6) pa_nil))))))))))) pss_nil)
 (C8.pss_cut (ps_asg (pe_callC c_set (hr.mono (by decide)) rfl (passX (E := E) (takes_of rfl rfl rfl rfl) fun _ _ _ _ h => h) (pa_cons (pv 1) (pa_cons (pv 2) (pa_cons (pv 3) pa_nil)))) (pg_tup rfl (pgs_cons (pg_name (i := 5) scJnu.nd rfl (Or.inl rfl)) (pgs_cons (pg_name (i := 7) scJnu.nd rfl (Or.inl rfl)) pgs_nil))))
 (pss_one
 (ps_ret (pe_callC c_jby (hr.mono (by decide)) rfl (passX (E := E) (takes_of rfl rfl rfl rfl) fun _ _ _ _ h => h) (pa_cons (pv 0) (pa_cons (pv 1) (pa_cons (pv 2) (pa_cons (pe_op op_add (pv 5) (pe_fld (pv 7) rfl)) (pa_cons (pe_fld (pv 7) rfl) (pa_cons (pe_fld (pv 7) rfl) pa_nil)))))))))))), ?_⟩
    obtain ⟨v, L, cx, fx, CMx, lx, ex, Qx, q0⟩ := id kx
    obtain ⟨v', L', cy, fy, CMy, ly, ey, Qy, q0'⟩ := id ky
    have S0 : 0 < Nat.lcm q q' := Nat.lcm_pos q0 q0'
    have dq : Nat.lcm q q' / q * q = Nat.lcm q q' := Nat.div_mul_cancel (Nat.dvd_lcm_left q q')
    have dq' : Nat.lcm q q' / q' * q' = Nat.lcm q q' := Nat.div_mul_cancel (Nat.dvd_lcm_right q q')
    have ql : q ≤ Nat.lcm q q' := Nat.le_of_dvd S0 (Nat.dvd_lcm_left q q')
    have ql' : q' ≤ Nat.lcm q q' := Nat.le_of_dvd S0 (Nat.dvd_lcm_right q q')
    generalize hSS : Nat.lcm q q' = SS at *
    have kcx := kx.kcur (by omega)
    have kcy := ky.kcur (by omega)
    have fin : ∀ {H1 : Hp}, Same H H1 → HandJ C CT (fun j => joinV (hm least) (V.int (f j)) (V.int (g j))) H1 Q E := fun s1 => k.same s1
    refine ⟨fun σ H' => σ = [some (.ref jf), some (.ref x), some (.ref y), some (.bl least), some (.int SS), none, none, none] ∧ H' = H, ⟨_, rfl, _, rfl, x, y, v, v', q, q', r, r', rfl, cx, cy, by omega, by omega, fun _ => ⟨by rw [hSS]; rfl, rfl⟩, fun z => absurd z (by omega)⟩, ?_⟩
    rintro σ H1 ⟨rfl, rfl⟩
    have e1 : ((SS / q : Nat) : Int) * (q : Int) = (SS : Int) := by rw [← Int.natCast_mul, dq]
    have e2 : ((SS / q' : Nat) : Int) * (q' : Int) = (SS : Int) := by rw [← Int.natCast_mul, dq']
    have p1 : 0 < ((SS / q : Nat) : Int) := by
      have : 0 < SS / q := Nat.div_pos ql q0
      omega
    have p2 : 0 < ((SS / q' : Nat) : Int) := by
      have : 0 < SS / q' := Nat.div_pos ql' q0'
      omega
    -- the rates, by the gain
    have rate : ((SS / q : Nat) : Int) * r = ((SS / q' : Nat) : Int) * r' ∨ r * (q' : Int) < r' * (q : Int) ∨ r' * (q : Int) < r * (q' : Int) := by
      rcases Int.lt_trichotomy (r * (q' : Int)) (r' * (q : Int)) with z | z | z
      · exact .inr (.inl z)
      · left
        have h2 : r * (q' : Int) * (((SS / q : Nat) : Int) * ((SS / q' : Nat) : Int)) = (((SS / q : Nat) : Int) * r) * (SS : Int) := by rw [← e2]; simp only [Int.mul_assoc, Int.mul_comm, Int.mul_left_comm]
        have h3 : r' * (q : Int) * (((SS / q : Nat) : Int) * ((SS / q' : Nat) : Int)) = (((SS / q' : Nat) : Int) * r') * (SS : Int) := by rw [← e1]; simp only [Int.mul_assoc, Int.mul_comm, Int.mul_left_comm]
        rw [z, h3] at h2
        exact (Int.eq_of_mul_eq_mul_right (by omega) h2).symm
      · exact .inr (.inr z)
    have rate2 : ((SS / q : Nat) : Int) * r = ((SS / q' : Nat) : Int) * r' → r * (q' : Int) = r' * (q : Int) := fun z => by
      have h2 : r * (q' : Int) * (((SS / q : Nat) : Int) * ((SS / q' : Nat) : Int)) = (((SS / q : Nat) : Int) * r) * (SS : Int) := by rw [← e2]; simp only [Int.mul_assoc, Int.mul_comm, Int.mul_left_comm]
      have h3 : r' * (q : Int) * (((SS / q : Nat) : Int) * ((SS / q' : Nat) : Int)) = (((SS / q' : Nat) : Int) * r') * (SS : Int) := by rw [← e1]; simp only [Int.mul_assoc, Int.mul_comm, Int.mul_left_comm]
      rw [z, ← h3] at h2
      exact Int.eq_of_mul_eq_mul_right (by have := Int.mul_pos p1 p2; omega) h2
    have r0 := CMx.g0
    have r1 := CMx.g1
    have g3 : ((SS / q : Nat) : Int) * r ≤ 4000 * 2 ^ 30 := Int.mul_le_mul (by have := Nat.div_le_self SS q; omega) (by omega) r0 (by decide)
    have g4 : 0 ≤ ((SS / q : Nat) : Int) * r := Int.mul_nonneg (by omega) r0
    refine ⟨fun σ H' => σ = [some (.ref jf), some (.ref x), some (.ref y), some (.bl least), some (.int SS), none, none, none] ∧ H' = H1 ∧ (r * (q' : Int) < r' * (q : Int) ∨ r' * (q : Int) < r * (q' : Int)), ?_, ?_⟩
    · refine ⟨_, rfl, _, rfl, _, rfl, x, y, v, v', q, q', SS, r, r', rfl, cx, cy, q0, q0', by omega, by omega, by omega, rfl, _, rfl, ?_⟩
      by_cases eq : ((SS / q : Nat) : Int) * r = ((SS / q' : Nat) : Int) * r'
      · rw [decide_eq_true (by rw [eq, Int.sub_self])]
        refine iteT ?_
        refine ⟨fun σ H' => σ = [some (.ref jf), some (.ref x), some (.ref y), some (.bl least), some (.int SS), some (.int (max b b' : Nat)), none, none] ∧ H' = H1, ?_, ?_⟩
        · refine ⟨_, rfl, x, v, q, r, rfl, cx, by omega, _, rfl, y, v', q', r', rfl, cy, by omega, _, _, rfl, ?_, rfl⟩
          rw [lx, ly, Nat.add_sub_cancel, Nat.add_sub_cancel]
          show [_, _, _, _, _, some (V.int (if (b' : Int) > (b : Int) then (b' : Int) else (b : Int))), _, _] = _
          rw [show (if (b' : Int) > (b : Int) then (b' : Int) else (b : Int)) = ((max b b' : Nat) : Int) by split <;> omega]
        rintro σ H2 ⟨rfl, rfl⟩
        obtain ⟨dx, tx, x1, x2⟩ := id cx
        have fe : Int.fdiv (SS : Int) (q : Int) = ((SS / q : Nat) : Int) := by
          rw [Int.fdiv_eq_ediv_of_nonneg _ (by omega)]
          rfl
        refine ⟨fun σ H' => σ = [some (.ref jf), some (.ref x), some (.ref y), some (.bl least), some (.int SS), some (.int (max b b' : Nat)), some (.int (((SS / q : Nat) : Int) * r)), none] ∧ H' = H2, ?_, ?_⟩
        · have hb : SS / q ≤ SS := Nat.div_le_self _ _
          refine ⟨_, rfl, _, rfl, x, C, dx, _, .int q, rfl, x1, U.cl, U.nP, rfl, _, _, rfl, rfl, ⟨by omega, by omega⟩, _, rfl, x, C, dx, _, .int r, rfl, x1, U.cl, U.nG, rfl, _, _, rfl, rfl, .inr ⟨by omega, by omega⟩, ?_, rfl⟩
          show [_, _, _, _, _, _, some (V.int (Int.fdiv (SS : Int) (q : Int) * r)), _] = _
          rw [fe]
        rintro σ H3 ⟨rfl, rfl⟩
        have Q1 := (Qx.up (SS / q)).to (Nat.le_max_left b b')
        have Q2 := (Qy.up (SS / q')).to (Nat.le_max_right b b')
        rw [dq] at Q1
        rw [dq', ← eq] at Q2
        have B3 : max b b' ≤ 4000 := by omega
        refine ⟨_, rfl, _, rfl, _, rfl, _, rfl, _, rfl, _, _, rfl, rfl, _, rfl, _, rfl, jf, x, y, hm least, _, _, q, q', max b b' + SS, SS, _, rfl, hS, kcx, kcy, (fun j z => by cases z), (fun j z => by cases z), S0, by omega, by omega, by omega, g4, by omega, ?_, fin (Same.refl _)⟩
        rw [Nat.add_sub_cancel]
        intro j hj
        have a1 := Q1 j hj
        have a2 := Q2 j hj
        show hm least (f (j + SS)) (g (j + SS)) = hm least (f j) (g j) + _
        rw [a1, a2]
        unfold hm
        split <;> (split <;> split <;> omega)
      · rw [decide_eq_false (by intro z; have z := V.int.inj z; exact eq (by omega))]
        refine iteF ⟨rfl, rfl, ?_⟩
        rcases rate with z | z | z
        · exact absurd z eq
        · exact .inl z
        · exact .inr z
    rintro σ H2 ⟨rfl, rfl, hc⟩
    refine ⟨fun σ H' => ∃ (z : Addr) (n : Nat) (fk : Nat → Int) (qk bk : Nat) (rk : Int), σ = [some (.ref jf), some (.ref x), some (.ref y), some (.bl least), some (.int SS), some (.int n), none, some (.ref z)] ∧ Same H2 H' ∧ NumC H' C z fk qk bk rk ∧ (qk = q ∨ qk = q') ∧ bk ≤ n ∧ n ≤ 4001 ∧ ∀ j, n ≤ j → hm least (f j) (g j) = fk j, ?_, ?_⟩
    · refine ⟨_, rfl, _, rfl, _, rfl, x, y, least, f, g, q, b, q', b', r, r', rfl, kx, ky, by omega, by omega, by omega, by omega, by omega, hc, fun T2 z n H3 fk qk bk rk hT kz ek h1 h2 h3 s3 => ?_, fun ⟨j, j4, aj⟩ => k.2 fun v p g9 fg9 => ?_⟩
      rotate_left
      · rcases aj with ⟨sl, ab⟩ | ⟨sl, ab⟩
        · have := late_long q0 q0' Qx Qy (by omega) (by omega) sl ab (least := least) rfl fg9
          omega
        · have := late_long q0' q0 Qy Qx (by omega) (by omega) sl ab (least := least) (funext fun t => by rw [hm_comm]) fg9
          omega
      exact ⟨T2, _, rfl, SqT.of hT, rfl, _, _, rfl, _, _, rfl, rfl, z, n, fk, qk, bk, rk, rfl, s3, kz, ek, h1, h2, h3⟩
    rintro σ H3 ⟨z, n, fk, qk, bk, rk, rfl, s3, kz, ek, h1, h2, h3⟩
    obtain ⟨vk, Lk, ck, fok, CMk, lk, exk, Qk, qk0⟩ := id kz
    obtain ⟨dk, tk, k1, k2⟩ := id ck
    have rk1 := CMk.g1
    refine ⟨_, rfl, _, rfl, _, rfl, _, rfl, _, rfl, z, C, dk, _, .int qk, rfl, k1, U.cl, U.nP, rfl, _, _, rfl, rfl, _, rfl, z, C, dk, _, .int qk, rfl, k1, U.cl, U.nP, rfl, _, rfl, z, C, dk, _, .int rk, rfl, k1, U.cl, U.nG, rfl, jf, x, y, hm least, _, _, q, q', n + qk, qk, rk, rfl, hS, kcx.same s3, kcy.same s3, (fun j z => by cases z), (fun j z => by cases z), qk0, by omega, by omega, by omega, CMk.g0, by omega, ?_, fin s3⟩
    rw [Nat.add_sub_cancel]
    intro j hj
    show hm least (f (j + qk)) (g (j + qk)) = hm least (f j) (g j) + rk
    rw [h3 j hj, h3 (j + qk) (by omega)]
    exact Qk j (by omega)
theorem num4 {H : Hp} {C a b : Addr} {L M : Nat → V} {q q' : Nat} (ka : KCn 4000 H C a L q) (kb : KCn 4000 H C b M q') (nL : ∀ j, L j ≠ .non) (nM : ∀ j, M j ≠ .non) :
    ∃ (f g : Nat → Int) (b1 b2 : Nat) (r r' : Int), (∀ j, L j = .int (f j)) ∧ (∀ j, M j = .int (g j)) ∧ NumC H C a f q b1 r ∧ NumC H C b g q' b2 r' ∧ b1 + q ≤ 4000 ∧ b2 + q' ≤ 4000 := by
  obtain ⟨v, r, cx, fx, CMx, lx⟩ := ka
  obtain ⟨v', r', cy, fy, CMy, ly⟩ := kb
  obtain ⟨b1, lb1, Q1⟩ := num_of fx nL
  obtain ⟨b2, lb2, Q2⟩ := num_of fy nM
  have eL : ∀ j, L j = .int (ival (L j)) := fun j => by
    rcases fx.flatL j with z | z
    · exact absurd z (nL j)
    · exact z
  have eM : ∀ j, M j = .int (ival (M j)) := fun j => by
    rcases fy.flatL j with z | z
    · exact absurd z (nM j)
    · exact z
  exact ⟨_, _, b1, b2, r, r', eL, eM, ⟨v, L, cx, fx, CMx, lb1, eL, Q1, fx.len.1⟩, ⟨v', M, cy, fy, CMy, lb2, eM, Q2, fy.len.1⟩, by omega, by omega⟩
def spMofW (K : PySem.W.Frag) (C CB CT : Addr) : Sp := fun vs H Q E => ∃ x y : V, vs = [x, y] ∧
  ((∃ (a b : Addr) (L M : Nat → V) (q q' : Nat), x = .ref a ∧ y = .ref b ∧ KCn 4000 H C a L q ∧ KCn 4000 H C b M q' ∧ Nat.lcm q q' ≤ 4000 ∧ HandJ C CT (fun j => joinV (hm false) (L j) (M j)) H Q E) ∨ BadTwo K C CB H x y E)
theorem ok_mofW {f fGre C CB CT : Addr} {fd : FuncData} {S : Addr → Option Sp} (F : Fun K "most_of" "most_of" sMof f fd) (m_gre : mg "greater_row" = some (.ref fGre)) (hS : S fGre = some (spRowJ K (hm false)))
    (c_two : Cal P w K mg base (L2.CX P w) 4 "need_two" ["curve", "other"] (spTwo K C CB)) (c_has : Cal P w K mg base CX0 1 "has_none" ["curve"] (spHas K C))
    (c_jen : Cal P w K mg base (L2.CX P w) 7 "joined_ends" ["joined_row", "curve", "other"] (spJenW K C S)) (c_jnu : Cal P w K mg base (L2.CX P w) 8 "joined_numbers" ["joined_row", "curve", "other", "least"] (spJnuW K C CT S)) :
    FnOk P w K mg base (L2.CX P w) 9 f fd nMof (spMofW K C CB CT) := by
  refine F.okX scMof (fun vs H Q E h => ?_) (fun cdv A outer s H vs Q E hr h => ?_)
  · obtain ⟨x, y, rfl, _⟩ := h
    rfl
  · obtain ⟨x, y, rfl, h⟩ := h
    refine ⟨_, (C8.pss_cut (ps_expr (pe_callC c_two (hr.mono (by decide)) rfl (passX (E := E) (takes_of rfl rfl rfl rfl) fun _ _ _ _ h => h) (pa_cons (pv 0) (pa_cons (pv 1) pa_nil))))
 (C8.pss_cut (ps_if (PW.pt (pw_or (pt_val (pe_callC c_has (hr.mono (by decide)) rfl pass0 (pa_cons (pv 0) pa_nil))) (pw_or1 (pt_val (pe_callC c_has (hr.mono (by decide)) rfl pass0 (pa_cons (pv 1) pa_nil)))))) (pss_one
 (ps_ret (pe_callC c_jen (hr.mono (by decide)) rfl (passX (E := E) (takes_of rfl rfl rfl rfl) fun _ _ _ _ h => h) (pa_cons (pe_glob (v := .ref fGre) rfl m_gre rfl) (pa_cons (pv 0) (pa_cons (pv 1) pa_nil)))))) pss_nil)
 (pss_one
 (ps_ret (pe_callC c_jnu (hr.mono (by decide)) rfl (passX (E := E) (takes_of rfl rfl rfl rfl) fun _ _ _ _ h => h) (pa_cons (pe_glob (v := .ref fGre) rfl m_gre rfl) (pa_cons (pv 0) (pa_cons (pv 1) (pa_cons pe_bl pa_nil))))))))), ?_⟩
    rcases h with ⟨a, b, L, M, q, q', rfl, rfl, ka, kb, hl, k⟩ | ⟨no, k⟩
    rotate_left
    · refine ⟨fun _ _ => False, ⟨_, rfl, _, rfl, x, y, rfl, .inr ⟨no, k⟩⟩, fun _ _ z => z.elim⟩
    refine ⟨fun σ H' => σ = [some (.ref a), some (.ref b)] ∧ H' = H, ⟨_, rfl, _, rfl, _, _, rfl, .inl ⟨a, b, rfl, rfl, ka.has, kb.has, rfl, rfl⟩⟩, ?_⟩
    rintro σ H0 ⟨rfl, rfl⟩
    obtain ⟨v, r, cx, fx, CMx, lx⟩ := id ka
    obtain ⟨v', r', cy, fy, CMy, ly⟩ := id kb
    obtain ⟨_, lv, gv, ev⟩ := fx.ends
    obtain ⟨_, lv', gv', ev'⟩ := fy.ends
    refine ⟨fun σ H' => σ = [some (.ref a), some (.ref b)] ∧ H' = H0 ∧ (∀ j, L j ≠ .non) ∧ ∀ j, M j ≠ .non, ?_, ?_⟩
    · refine ⟨_, rfl, a, v, _, _, lv, rfl, cx, gv, ?_⟩
      rcases ev with ⟨e, ev⟩ | ⟨e, ev⟩
      · exact ⟨true, bT e, iteT (iteT ⟨_, rfl, _, rfl, fGre, a, b, hm false, L, M, q, q', rfl, hS, ka.kcur (by omega), kb.kcur (by omega), ⟨v.length - 1, .inl ((ev _).mpr (Nat.le_refl _))⟩, fun z H' hz ⟨v2, q2, r2, cu, fg, l4⟩ s' => k.1 v2 q2 r2 z H' fg l4 hz cu s'⟩)⟩
      refine ⟨false, bF e, iteF ⟨_, rfl, b, v', _, _, lv', rfl, cy, gv', ?_⟩⟩
      rcases ev' with ⟨e', ev'⟩ | ⟨e', ev'⟩
      · exact ⟨true, bT e', iteT ⟨_, rfl, _, rfl, fGre, a, b, hm false, L, M, q, q', rfl, hS, ka.kcur (by omega), kb.kcur (by omega), ⟨v'.length - 1, .inr ((ev' _).mpr (Nat.le_refl _))⟩, fun z H' hz ⟨v2, q2, r2, cu, fg, l4⟩ s' => k.1 v2 q2 r2 z H' fg l4 hz cu s'⟩⟩
      · exact ⟨false, bF e', iteF ⟨rfl, rfl, ev, ev'⟩⟩
    rintro σ H1 ⟨rfl, rfl, nL, nM⟩
    obtain ⟨f, g, b1, b2, r1, r2, eL, eM, n1, n2, h1, h2⟩ := num4 ka kb nL nM
    have q0 := fx.len
    have q0' := fy.len
    have e : (fun j => joinV (hm false) (L j) (M j)) = fun j => V.int (hm false (f j) (g j)) := by
      funext j
      rw [eL, eM]
      rfl
    rw [e] at k
    exact ⟨_, rfl, _, rfl, fGre, a, b, false, f, g, q, b1, q', b2, r1, r2, rfl, hS, n1, n2, hl, by omega, by omega, h1, h2, k⟩
def spLofW (K : PySem.W.Frag) (C CB CT : Addr) : Sp := fun vs H Q E => ∃ x y : V, vs = [x, y] ∧
  ((∃ (a b : Addr) (L M : Nat → V) (q q' : Nat), x = .ref a ∧ y = .ref b ∧ KCn 4000 H C a L q ∧ KCn 4000 H C b M q' ∧ Nat.lcm q q' ≤ 4000 ∧ HandJ C CT (fun j => lesV (L j) (M j)) H Q E) ∨ BadTwo K C CB H x y E)
theorem ok_lofW {f fLes fI fE C CB CT : Addr} {fd : FuncData} {S : Addr → Option Sp} (F : Fun K "least_of" "least_of" sLof f fd) (T : CurG mg) (U : CurT K mg C fI fE) (nmax : mg "max" = none) (m_les : mg "lesser_row" = some (.ref fLes)) (hS : S fLes = some (spRowJ K (hm true)))
    (c_two : Cal P w K mg base (L2.CX P w) 4 "need_two" ["curve", "other"] (spTwo K C CB)) (c_has : Cal P w K mg base CX0 1 "has_none" ["curve"] (spHas K C)) (c_sho : Cal P w K mg base CX0 2 "shorter_end" ["curve", "other"] (spSho K C)) (c_cat : Cal P w K mg base CX0 2 "at" ["curve", "beat"] (spCat K C))
    (c_fir : Cal P w K mg base CX0 3 "first_values" ["curve", "many"] (spFirst K C)) (c_made : Cal P w K mg base (L2.CX P w) 6 "made" ["row", "period", "growth"] (spMadeC K C CT))
    (c_les : Cal P w K mg base CX0 1 "lesser_row" ["row", "other_row"] (spRowJ K fun i j => if i < j then i else j)) (c_jnu : Cal P w K mg base (L2.CX P w) 8 "joined_numbers" ["joined_row", "curve", "other", "least"] (spJnuW K C CT S)) :
    FnOk P w K mg base (L2.CX P w) 9 f fd ["curve", "other"] (spLofW K C CB CT) := by
  refine F.okX scLof (fun vs H Q E h => ?_) (fun cdv A outer s H vs Q E hr h => ?_)
  · obtain ⟨x, y, rfl, _⟩ := h
    rfl
  · obtain ⟨x, y, rfl, h⟩ := h
    refine ⟨_, (C8.pss_cut (ps_expr (pe_callC c_two (hr.mono (by decide)) rfl (passX (E := E) (takes_of rfl rfl rfl rfl) fun _ _ _ _ h => h) (pa_cons (pv 0) (pa_cons (pv 1) pa_nil))))
 (C8.pss_cut (ps_if (PW.pt (pw_and (pt_not (pt_val (pe_callC c_has (hr.mono (by decide)) rfl pass0 (pa_cons (pv 0) pa_nil)))) (pw_and1 (pt_not (pt_val (pe_callC c_has (hr.mono (by decide)) rfl pass0 (pa_cons (pv 1) pa_nil))))))) (pss_one
 (ps_ret (pe_callC c_jnu (hr.mono (by decide)) rfl (passX (E := E) (takes_of rfl rfl rfl rfl) fun _ _ _ _ h => h) (pa_cons (pe_glob (v := .ref fLes) rfl m_les rfl) (pa_cons (pv 0) (pa_cons (pv 1) (pa_cons pe_bl pa_nil))))))) pss_nil)
 (C8.pss_cut (ps_set (i := 2) scLof.nd rfl (Or.inl rfl) (pe_callC c_sho (hr.mono (by decide)) rfl pass0 (pa_cons (pv 0) (pa_cons (pv 1) pa_nil))))
 (C8.pss_cut (ps_set (i := 3) scLof.nd rfl (Or.inl rfl) (pe_ifExp (pt_cmpR op_isN (pe_callC c_cat (hr.mono (by decide)) rfl pass0 (pa_cons (pv 0) (pa_cons (pv 2) pa_nil))) pe_non (nomark _)) (pv 1) (pv 0)))
 (C8.pss_cut (ps_set (i := 4) scLof.nd rfl (Or.inl rfl) (pe_callC c_les (hr.mono (by decide)) rfl pass0 (pa_cons (pe_callC c_fir (hr.mono (by decide)) rfl pass0 (pa_cons (pv 0) (pa_cons (pv 2) pa_nil))) (pa_cons (pe_callC c_fir (hr.mono (by decide)) rfl pass0 (pa_cons (pv 1) (pa_cons (pv 2) pa_nil))) pa_nil))))
 (C8.pss_cut (ps_set (i := 5) scLof.nd rfl (Or.inl rfl) (pe_callB (call_max2 rfl) (by rfl) nmax (by decide +kernel) (pa_cons (pe_op op_add (pv 2) (pe_fld (pv 3) rfl)) (pa_cons (pe_callB call_len_seq (by rfl) T.len PySem.boot_len (pa_cons (pe_fld (pv 3) rfl) pa_nil)) pa_nil))))
 (pss_one
 (ps_ret (pe_callC c_made (hr.mono (by decide)) rfl (passX (E := E) (takes_of rfl rfl rfl rfl) fun _ _ _ _ h => h) (pa_cons (pe_op op_cat (pv 4) (pe_slice sl_list (pe_callC c_fir (hr.mono (by decide)) rfl pass0 (pa_cons (pv 3) (pa_cons (pv 5) pa_nil))) (po_some (pv 2)) po_none)) (pa_cons (pe_fld (pv 3) rfl) (pa_cons (pe_fld (pv 3) rfl) pa_nil)))))))))))), ?_⟩
    rcases h with ⟨a, b, L, M, q, q', rfl, rfl, ka, kb, hl, k⟩ | ⟨no, k⟩
    rotate_left
    · refine ⟨fun _ _ => False, ⟨_, rfl, _, rfl, x, y, rfl, .inr ⟨no, k⟩⟩, fun _ _ z => z.elim⟩
    refine ⟨fun σ H' => σ = [some (.ref a), some (.ref b), none, none, none, none] ∧ H' = H, ⟨_, rfl, _, rfl, _, _, rfl, .inl ⟨a, b, rfl, rfl, ka.has, kb.has, rfl, rfl⟩⟩, ?_⟩
    rintro σ H0 ⟨rfl, rfl⟩
    obtain ⟨v, r, cx, fx, CMx, lx⟩ := id ka
    obtain ⟨v', r', cy, fy, CMy, ly⟩ := id kb
    have px := fx.len
    have py := fy.len
    have rx := fx.rowF (by omega)
    have ry := fy.rowF (by omega)
    obtain ⟨_, lv, gv, ev⟩ := id fx.ends
    obtain ⟨_, lv', gv', ev'⟩ := id fy.ends
    have num : (∀ j, L j ≠ .non) → (∀ j, M j ≠ .non) → ∀ {D : VK}, D = Q → True := fun _ _ _ _ => trivial
    clear num
    refine ⟨fun σ H' => σ = [some (.ref a), some (.ref b), none, none, none, none] ∧ H' = H0 ∧ ∃ j, L j = .non ∨ M j = .non, ?_, ?_⟩
    · refine ⟨_, rfl, a, v, _, _, lv, rfl, cx, gv, ?_⟩
      rcases ev with ⟨e, ev⟩ | ⟨e, ev⟩
      · exact ⟨true, bT e, iteF (iteF ⟨rfl, rfl, v.length - 1, .inl ((ev _).mpr (Nat.le_refl _))⟩)⟩
      refine ⟨false, bF e, iteT ⟨_, rfl, b, v', _, _, lv', rfl, cy, gv', ?_⟩⟩
      rcases ev' with ⟨e', ev'⟩ | ⟨e', ev'⟩
      · exact ⟨true, bT e', iteF ⟨rfl, rfl, v'.length - 1, .inr ((ev' _).mpr (Nat.le_refl _))⟩⟩
      · obtain ⟨f, g, b1, b2, r1, r2, eL, eM, n1, n2, h1, h2⟩ := num4 ka kb ev ev'
        have e : (fun j => lesV (L j) (M j)) = fun j => V.int (hm true (f j) (g j)) := by
          funext j
          rw [eL, eM]
          rfl
        rw [e] at k
        exact ⟨false, bF e', iteT ⟨_, rfl, _, rfl, fLes, a, b, true, f, g, q, b1, q', b2, r1, r2, rfl, hS, n1, n2, hl, by omega, by omega, h1, h2, k⟩⟩
    clear gv gv' ev ev'
    rintro σ H1 ⟨rfl, rfl, hne⟩
    refine ⟨fun σ H' => ∃ m : Nat, σ = [some (.ref a), some (.ref b), some (.int m), none, none, none] ∧ IsEnd L M m ∧ m ≤ 4000 ∧ Same H1 H', ?_, ?_⟩
    · refine ⟨_, rfl, _, rfl, a, b, L, M, q, q', rfl, ka.kcur (by omega), kb.kcur (by omega), hne, fun m hm h4 H2 s2 => ⟨m, rfl, hm, ?_, s2⟩⟩
      rcases hm.1 with z | z
      · obtain ⟨_, lw, _, ew⟩ := fx.ends
        rcases ew with ⟨_, ew⟩ | ⟨_, ew⟩
        · rcases Nat.lt_or_ge 4000 m with c | c
          · exact absurd ((ew 4000).mpr (by omega)) (hm.2 4000 c).1
          · exact c
        · exact absurd z (ew m)
      · obtain ⟨_, lw, _, ew⟩ := fy.ends
        rcases ew with ⟨_, ew⟩ | ⟨_, ew⟩
        · rcases Nat.lt_or_ge 4000 m with c | c
          · exact absurd ((ew 4000).mpr (by omega)) (hm.2 4000 c).2
          · exact c
        · exact absurd z (ew m)
    rintro σ H2 ⟨m, rfl, hm, m4, s2⟩
    -- which one goes on
    refine ⟨fun σ H' => ∃ (u : Addr) (G : Nat → V) (vg : List V) (qg : Nat) (rg : Int), σ = [some (.ref a), some (.ref b), some (.int m), some (.ref u), none, none] ∧ H' = H2 ∧ CurveAt H2 C u vg qg rg ∧ FormG G vg qg rg ∧ Calm vg qg rg ∧ vg.length ≤ 4000 ∧ qg ≤ 4000 ∧ (∀ j, m ≤ j → lesV (L j) (M j) = G j) ∧ (m ≤ vg.length ∨ ∀ j, G j ≠ .non), ?_, ?_⟩
    · refine ⟨_, rfl, _, rfl, a, v, q, m, r, L, rfl, cx.same s2, rx, by omega, ?_⟩
      have short : ∀ {G : Nat → V} {vg : List V} {qg : Nat} {rg : Int}, FormG G vg qg rg → (∀ j, j < m → G j ≠ .non) → (m ≤ vg.length ∨ ∀ j, G j ≠ .non) := fun {G vg qg rg} fo hn => by
        obtain ⟨_, lw, _, ew⟩ := fo.ends
        rcases ew with ⟨_, ew⟩ | ⟨_, ew⟩
        · rcases Nat.lt_or_ge vg.length m with c | c
          · exact absurd ((ew vg.length).mpr (by omega)) (hn _ c)
          · exact .inl c
        · exact .inr ew
      by_cases cL : L m = .non
      · refine ⟨rfl, true, bT cL, iteT ⟨_, rfl, b, M, v', q', r', rfl, rfl, cy.same s2, fy, CMy, ly, by omega, fun j hj => ?_, short fy fun j hj => (hm.2 j hj).2⟩⟩
        obtain ⟨_, lw, _, ew⟩ := fx.ends
        rcases ew with ⟨_, ew⟩ | ⟨_, ew⟩
        · exact lesV_l ((ew j).mpr (by have := (ew m).mp cL; omega))
        · exact absurd cL (ew m)
      · refine ⟨rfl, false, bF cL, iteF ⟨_, rfl, a, L, v, q, r, rfl, rfl, cx.same s2, fx, CMx, lx, by omega, fun j hj => ?_, short fx fun j hj => (hm.2 j hj).1⟩⟩
        have cM : M m = .non := by
          rcases hm.1 with z | z
          · exact absurd z cL
          · exact z
        obtain ⟨_, lw, _, ew⟩ := fy.ends
        rcases ew with ⟨_, ew⟩ | ⟨_, ew⟩
        · exact lesV_r (fx.flatL j) ((ew j).mpr (by have := (ew m).mp cM; omega))
        · exact absurd cM (ew m)
    rintro σ H3 ⟨u, G, vg, qg, rg, rfl, rfl, cu, fg, CMg, lg, qg9, eG, sh⟩
    have pg := fg.len
    have rgF := fg.rowF (by omega)
    have eL := row_ival2 fx (n := m) fun j hj => (hm.2 j hj).1
    have eM := row_ival2 fy (n := m) fun j hj => (hm.2 j hj).2
    have lowJ : ∀ j, j < m → lesV (L j) (M j) = .int (WW.hm true (ival (L j)) (ival (M j))) := fun j hj => by
      refine lesV_int ?_ ?_
      · rcases fx.flatL j with z | z
        · exact absurd z (hm.2 j hj).1
        · exact z
      · rcases fy.flatL j with z | z
        · exact absurd z (hm.2 j hj).2
        · exact z
    refine ⟨fun σ H' => ∃ z, σ = [some (.ref a), some (.ref b), some (.int m), some (.ref u), some (.ref z), none] ∧ H' z = some (.lst ((List.range m).map fun j => V.int (WW.hm true (ival (L j)) (ival (M j))))) ∧ Same H3 H', ?_, ?_⟩
    · refine ⟨_, rfl, _, rfl, a, v, q, m, r, L, rfl, cx.same s2, rx, CMx, by omega, by omega, by omega, fun z1 H4 hz1 e1 s4 => ?_⟩
      refine ⟨_, rfl, _, rfl, b, v', q', m, r', M, rfl, cy.same (Same.trans s2 s4), ry, CMy, by omega, by omega, by omega, fun z2 H5 hz2 e2 s5 => ?_⟩
      rw [eL] at e1
      rw [eM] at e2
      exact ⟨z1, z2, m, _, _, rfl, s5 _ _ e1, e2, by omega, fun z H6 hz ez s6 => ⟨z, rfl, ez, Same.trans s4 (Same.trans s5 s6)⟩⟩
    rintro σ H4 ⟨z, rfl, hz, s4⟩
    have cu4 := cu.same s4
    obtain ⟨du, tu, u1, u2⟩ := id cu4
    refine ⟨fun σ H' => ∃ n : Nat, σ = [some (.ref a), some (.ref b), some (.int m), some (.ref u), some (.ref z), some (.int n)] ∧ H' = H4 ∧ vg.length ≤ n ∧ m + qg ≤ n ∧ n ≤ 8000, ?_, ?_⟩
    · refine ⟨_, rfl, _, rfl, u, C, du, _, .int qg, rfl, u1, U.cl, U.nP, rfl, _, _, rfl, rfl, _, rfl, u, C, du, _, .ref tu, rfl, u1, U.cl, U.nS, rfl, tu, vg, rfl, .inr (SqT.of u2), _, _, rfl, max (m + qg) vg.length, ?_, rfl, Nat.le_max_right _ _, Nat.le_max_left _ _, by omega⟩
      show [_, _, _, _, _, some (V.int (if (vg.length : Int) > (m : Int) + (qg : Int) then (vg.length : Int) else (m : Int) + (qg : Int)))] = _
      rw [show (if (vg.length : Int) > (m : Int) + (qg : Int) then (vg.length : Int) else (m : Int) + (qg : Int)) = ((max (m + qg) vg.length : Nat) : Int) by split <;> omega]
    rintro σ H5 ⟨n, rfl, rfl, n1, n2, n3⟩
    obtain ⟨fi, R⟩ := goes_on fg CMg eG (fun j hj => by rw [lowJ j hj]; rfl) n1 n2 (by omega) sh
    refine ⟨_, rfl, _, rfl, _, rfl, u, vg, qg, n, rg, G, rfl, cu4, rgF, CMg, by omega, by omega, by omega, fun z1 H6 hz1 e1 s6 => ?_⟩
    refine ⟨_, rfl, (m : Int), rfl, z1, _, rfl, SqL.of e1, fun w1 hw1 => ?_⟩
    generalize g7 : upd H6 w1 _ = H7
    obtain ⟨s7, f7⟩ := alloc g7 hw1
    rw [cutL (by rw [List.length_map, List.length_range]; omega)] at f7
    refine ⟨z, w1, _, _, rfl, rfl, s7 _ _ (s6 _ _ hz), f7, (by rw [List.length_map, List.length_range, List.length_drop, List.length_map, List.length_range]; exact line_le (by omega)), fun z3 hz3 => ?_⟩
    generalize g8 : upd H7 z3 _ = H8
    obtain ⟨s8, f8⟩ := alloc g8 hz3
    have s18 : Same H5 H8 := Same.trans s6 (Same.trans s7 s8)
    have er : (List.range m).map (fun j => V.int (WW.hm true (ival (L j)) (ival (M j)))) ++ ((List.range n).map G).drop m = (List.range n).map fun j => lesV (L j) (M j) := by
      have e1 : (List.range m).map (fun j => V.int (WW.hm true (ival (L j)) (ival (M j)))) = (List.range m).map fun j => lesV (L j) (M j) := List.map_congr_left fun j hj => (lowJ j (List.mem_range.mp hj)).symm
      rw [e1, ← List.map_drop, show n = m + (n - m) by omega, List.range_add, List.drop_append, List.length_range, Nat.sub_self, List.drop_of_length_le (by rw [List.length_range]; exact Nat.le_refl _), List.nil_append, List.drop_zero, List.map_append, List.map_map, List.map_map]
      congr 1
      exact List.map_congr_left fun j _ => (eG (m + j) (by omega)).symm
    rw [er] at f8
    obtain ⟨dv, tv, v1, v2⟩ := cu4.same s18
    refine ⟨_, rfl, u, C, dv, _, .int qg, rfl, v1, U.cl, U.nP, rfl, _, rfl, u, C, dv, _, .int rg, rfl, v1, U.cl, U.nG, rfl, z3, _, qg, rg, rfl, f8, fi, fun vals q2 r2 z4 H9 fv l4 hz4 cu9 s9 => ?_, fun vals q2 r2 fv l4 => ?_⟩
    · obtain ⟨q3, rfl, fo⟩ := form_g fv R
      have sA : Same H1 H8 := Same.trans s2 (Same.trans s4 s18)
      exact k.1 vals q3 r2 z4 H9 fo l4 (sA.free hz4) cu9 (Same.trans sA s9)
    · have sA : Same H1 H8 := Same.trans s2 (Same.trans s4 s18)
      obtain ⟨q3, rfl, fo⟩ := form_g fv R
      exact fun d H9 rd => k.2 (fun v p g fg => by rw [(fg.uniq fo).1]; exact l4) d H9 (Raised.same sA rd)
end
end WW
end

section
set_option Elab.async false
set_option linter.all false
set_option maxRecDepth 100000
set_option maxHeartbeats 8000000
namespace WW
open PySem L2 WO WG RZ WQ WT WC
abbrev sSum : Stmt := top 56
abbrev sLat : Stmt := top 57
/-- what isn't a curve, or no number beside a curve -/
abbrev BadNum (K : PySem.W.Frag) (C CB CN : Addr) (H : Hp) (x y : V) (hi : Int) (part : Str) (E : XK) : Prop :=
  (NoCur K H C x ∧ ∀ d H', Raised H "part" .non d H' → E (.ref CB) (some d) H') ∨ ((∃ a : Addr, x = .ref a ∧ HasCur H C a) ∧ badFrom K H y 0 hi ∧ ∀ d H', Raised H "part" (.str part) d H' → E (.ref CN) (some d) H')
theorem FormG.row {L : Nat → V} {v : List V} {q : Nat} {r : Int} (h : FormG L v q r) : v = (List.range v.length).map L := by
  rcases h.cases' with ⟨f, b, e, hf, rfl⟩ | ⟨s, e, rfl, rfl, rfl⟩
  · rw [List.length_map, List.length_range]
    exact List.map_congr_left fun j _ => (e j).symm
  · have := range_fn (s := s) (n := s.length + 1) (by omega)
    rw [show s.length + 1 - s.length = 1 by omega] at this
    rw [List.length_append, List.length_map]
    show _ = (List.range (s.length + 1)).map L
    have e2 : L = FN s := funext e
    rw [e2, this]
    rfl
section
variable {P : Program} {w : World} {K : PySem.W.Frag} {mg : Str → Option Value} {base : Heap}
abbrev nSum : List Str := ["curve", "other", "step", "begin", "growth"]
theorem scSum : FnScope nSum ["curve", "other"] (defScope sSum) := ⟨rfl, rfl, rfl, by decide +kernel, rfl, by decide +kernel, by decide +kernel⟩
def spSum (K : PySem.W.Frag) (C CB : Addr) (kn : Nat := 400) : Sp := fun vs H Q E => ∃ x y : V, vs = [x, y] ∧
  ((∃ (a b : Addr) (L M : Nat → V) (q q' : Nat), x = .ref a ∧ y = .ref b ∧ KCn kn H C a L q ∧ KCn kn H C b M q' ∧ Nat.lcm q q' ≤ 4000 - kn ∧
    ∀ (z : Addr) (H' : Hp), H z = none → IsCur H' C z (fun j => joinV (fun i k => i + k) (L j) (M j)) → Same H H' → Q (.ref z) H') ∨ BadTwo K C CB H x y E)
theorem ok_sum {kn : Nat} (hkn : kn ≤ 4000) {f fAdd fI fE C CB CT : Addr} {fd : FuncData} {S : Addr → Option Sp} (F : Fun K "sum_of" "sum_of" sSum f fd) (U : CurT K mg C fI fE) (nmax : mg "max" = none) (m_add : mg "added_row" = some (.ref fAdd)) (hS : S fAdd = some (spRowJ K fun i k => i + k))
    (c_two : Cal P w K mg base (L2.CX P w) 4 "need_two" ["curve", "other"] (spTwo K C CB)) (c_has : Cal P w K mg base CX0 1 "has_none" ["curve"] (spHas K C)) (c_per : Cal P w K mg base (L2.CX P w) 3 "common_period" ["curve", "other"] (spPer K C CT)) (c_reg : Cal P w K mg base CX0 1 "regular_from" ["curve"] (spRegular K C))
    (c_jen : Cal P w K mg base (L2.CX P w) 7 "joined_ends" ["joined_row", "curve", "other"] (spJen K C S)) (c_jby : Cal P w K mg base (L2.CX P w) 7 "joined_by" nJby (spJby K C S)) :
    FnOk P w K mg base (L2.CX P w) 8 f fd ["curve", "other"] (spSum K C CB kn) := by
  refine F.okX scSum (fun vs H Q E h => ?_) (fun cdv A outer s H vs Q E hr h => ?_)
  · obtain ⟨x, y, rfl, _⟩ := h
    rfl
  · obtain ⟨x, y, rfl, h⟩ := h
    refine ⟨_, (C8.pss_cut (ps_expr (pe_callC c_two (hr.mono (by decide)) rfl (passX (E := E) (takes_of rfl rfl rfl rfl) fun _ _ _ _ h => h) (pa_cons (pv 0) (pa_cons (pv 1) pa_nil))))
 (C8.pss_cut (ps_if (PW.pt (pw_or (pt_val (pe_callC c_has (hr.mono (by decide)) rfl pass0 (pa_cons (pv 0) pa_nil))) (pw_or1 (pt_val (pe_callC c_has (hr.mono (by decide)) rfl pass0 (pa_cons (pv 1) pa_nil)))))) (pss_one
 (ps_ret (pe_callC c_jen (hr.mono (by decide)) rfl (passX (E := E) (takes_of rfl rfl rfl rfl) fun _ _ _ _ h => h) (pa_cons (pe_glob (v := .ref fAdd) rfl m_add rfl) (pa_cons (pv 0) (pa_cons (pv 1) pa_nil)))))) pss_nil)
 (C8.pss_cut (ps_set (i := 2) scSum.nd rfl (Or.inl rfl) (pe_callC c_per (hr.mono (by decide)) rfl (passX (E := E) (takes_of rfl rfl rfl rfl) fun _ _ _ _ h => h) (pa_cons (pv 0) (pa_cons (pv 1) pa_nil))))
 (C8.pss_cut (ps_set (i := 3) scSum.nd rfl (Or.inl rfl) (pe_callB (call_max2 rfl) (by rfl) nmax (by decide +kernel) (pa_cons (pe_callC c_reg (hr.mono (by decide)) rfl pass0 (pa_cons (pv 0) pa_nil)) (pa_cons (pe_callC c_reg (hr.mono (by decide)) rfl pass0 (pa_cons (pv 1) pa_nil)) pa_nil))))
 (C8.pss_cut (ps_set (i := 4) scSum.nd rfl (Or.inl rfl) (pe_op op_add (pe_op op_mul (pe_op op_fdivN (pv 2) (pe_fld (pv 0) rfl)) (pe_fld (pv 0) rfl)) (pe_op op_mul (pe_op op_fdivN (pv 2) (pe_fld (pv 1) rfl)) (pe_fld (pv 1) rfl))))
 (pss_one
 (ps_ret (pe_callC c_jby (hr.mono (by decide)) rfl (passX (E := E) (takes_of rfl rfl rfl rfl) fun _ _ _ _ h => h) (pa_cons (pe_glob (v := .ref fAdd) rfl m_add rfl) (pa_cons (pv 0) (pa_cons (pv 1) (pa_cons (pe_op op_add (pv 3) (pv 2)) (pa_cons (pv 2) (pa_cons (pv 4) pa_nil)))))))))))))), ?_⟩
    rcases h with ⟨a, b, L, M, q, q', rfl, rfl, ka, kb, hl, k⟩ | ⟨no, k⟩
    rotate_left
    · refine ⟨fun _ _ => False, ⟨_, rfl, _, rfl, x, y, rfl, .inr ⟨no, k⟩⟩, fun _ _ z => z.elim⟩
    refine ⟨fun σ H' => σ = [some (.ref a), some (.ref b), none, none, none] ∧ H' = H, ⟨_, rfl, _, rfl, _, _, rfl, .inl ⟨a, b, rfl, rfl, ka.has, kb.has, rfl, rfl⟩⟩, ?_⟩
    rintro σ H0 ⟨rfl, rfl⟩
    obtain ⟨v, r, cx, fx, CMx, lx⟩ := id ka
    obtain ⟨v', r', cy, fy, CMy, ly⟩ := id kb
    have px := fx.len
    have py := fy.len
    obtain ⟨_, lv, gv, ev⟩ := id fx.ends
    obtain ⟨_, lv', gv', ev'⟩ := id fy.ends
    refine ⟨fun σ H' => σ = [some (.ref a), some (.ref b), none, none, none] ∧ H' = H0 ∧ (∀ j, L j ≠ .non) ∧ ∀ j, M j ≠ .non, ?_, ?_⟩
    · refine ⟨_, rfl, a, v, _, _, lv, rfl, cx, gv, ?_⟩
      rcases ev with ⟨e, ev⟩ | ⟨e, ev⟩
      · exact ⟨true, bT e, iteT (iteT ⟨_, rfl, _, rfl, fAdd, a, b, _, L, M, q, q', rfl, hS, ka.kcur hkn, kb.kcur hkn, ⟨v.length - 1, .inl ((ev _).mpr (Nat.le_refl _))⟩, k⟩)⟩
      refine ⟨false, bF e, iteF ⟨_, rfl, b, v', _, _, lv', rfl, cy, gv', ?_⟩⟩
      rcases ev' with ⟨e', ev'⟩ | ⟨e', ev'⟩
      · exact ⟨true, bT e', iteT ⟨_, rfl, _, rfl, fAdd, a, b, _, L, M, q, q', rfl, hS, ka.kcur hkn, kb.kcur hkn, ⟨v'.length - 1, .inr ((ev' _).mpr (Nat.le_refl _))⟩, k⟩⟩
      · exact ⟨false, bF e', iteF ⟨rfl, rfl, ev, ev'⟩⟩
    clear ev ev'
    rintro σ H1 ⟨rfl, rfl, nL, nM⟩
    obtain ⟨b1, lb1, Q1⟩ : ∃ b, v.length = b + q ∧ MF.QP (fun j => ival (L j)) q r b := by
      rcases fx.cases' with ⟨f, b, e, hf, rfl⟩ | ⟨s, e, _⟩
      · refine ⟨b, by rw [List.length_map, List.length_range], fun j hj => ?_⟩
        show ival (L (j + q)) = ival (L j) + r
        rw [e, e]
        exact hf.qp j hj
      · exact absurd (by rw [e]; exact fn_high (Nat.le_refl _)) (nL s.length)
    obtain ⟨b2, lb2, Q2⟩ : ∃ b, v'.length = b + q' ∧ MF.QP (fun j => ival (M j)) q' r' b := by
      rcases fy.cases' with ⟨f, b, e, hf, rfl⟩ | ⟨s, e, _⟩
      · refine ⟨b, by rw [List.length_map, List.length_range], fun j hj => ?_⟩
        show ival (M (j + q')) = ival (M j) + r'
        rw [e, e]
        exact hf.qp j hj
      · exact absurd (by rw [e]; exact fn_high (Nat.le_refl _)) (nM s.length)
    have S0 : 0 < Nat.lcm q q' := Nat.lcm_pos px.1 py.1
    have dq : Nat.lcm q q' / q * q = Nat.lcm q q' := Nat.div_mul_cancel (Nat.dvd_lcm_left q q')
    have dq' : Nat.lcm q q' / q' * q' = Nat.lcm q q' := Nat.div_mul_cancel (Nat.dvd_lcm_right q q')
    have Q1 := (Q1.up (Nat.lcm q q' / q)).to (Nat.le_max_left b1 b2)
    have Q2 := (Q2.up (Nat.lcm q q' / q')).to (Nat.le_max_right b1 b2)
    rw [dq] at Q1
    rw [dq'] at Q2
    have B4 : max b1 b2 ≤ kn := by omega
    refine ⟨fun σ H' => σ = [some (.ref a), some (.ref b), some (.int (Nat.lcm q q' : Nat)), none, none] ∧ H' = H1, ⟨_, rfl, _, rfl, a, b, v, v', q, q', r, r', rfl, cx, cy, by omega, by omega, fun _ => ⟨rfl, rfl⟩, fun z => absurd z (by omega)⟩, ?_⟩
    rintro σ H2 ⟨rfl, rfl⟩
    generalize hSS : Nat.lcm q q' = SS at *
    refine ⟨fun σ H' => σ = [some (.ref a), some (.ref b), some (.int SS), some (.int (max b1 b2 : Nat)), none] ∧ H' = H2, ?_, ?_⟩
    · refine ⟨_, rfl, a, v, q, r, rfl, cx, px.2, _, rfl, b, v', q', r', rfl, cy, py.2, _, _, rfl, ?_, rfl⟩
      rw [lb1, lb2, Nat.add_sub_cancel, Nat.add_sub_cancel]
      show [_, _, _, some (V.int (if (b2 : Int) > (b1 : Int) then (b2 : Int) else (b1 : Int))), _] = _
      rw [show (if (b2 : Int) > (b1 : Int) then (b2 : Int) else (b1 : Int)) = ((max b1 b2 : Nat) : Int) by split <;> omega]
    rintro σ H3 ⟨rfl, rfl⟩
    generalize max b1 b2 = B at *
    obtain ⟨dx, tx, x1, x2⟩ := id cx
    obtain ⟨dy, ty, y1, y2⟩ := id cy
    have fe : ∀ q : Nat, Int.fdiv (SS : Int) (q : Int) = ((SS / q : Nat) : Int) := fun q => by
      rw [Int.fdiv_eq_ediv_of_nonneg _ (by omega)]
      rfl
    have u1 : SS / q ≤ 4000 := Nat.le_trans (Nat.div_le_self _ _) (by omega)
    have u2 : SS / q' ≤ 4000 := Nat.le_trans (Nat.div_le_self _ _) (by omega)
    have g1 : ((SS / q : Nat) : Int) * r ≤ 4000 * 2 ^ 30 := Int.mul_le_mul (by omega) (by have := CMx.g1; omega) CMx.g0 (by decide)
    have g2 : ((SS / q' : Nat) : Int) * r' ≤ 4000 * 2 ^ 30 := Int.mul_le_mul (by omega) (by have := CMy.g1; omega) CMy.g0 (by decide)
    have g3 : 0 ≤ ((SS / q : Nat) : Int) * r := Int.mul_nonneg (Int.natCast_nonneg _) CMx.g0
    have g4 : 0 ≤ ((SS / q' : Nat) : Int) * r' := Int.mul_nonneg (Int.natCast_nonneg _) CMy.g0
    have r0 := CMx.g0
    have r1 := CMx.g1
    have r0' := CMy.g0
    have r1' := CMy.g1
    refine ⟨fun σ H' => σ = [some (.ref a), some (.ref b), some (.int SS), some (.int B), some (.int (((SS / q : Nat) : Int) * r + ((SS / q' : Nat) : Int) * r'))] ∧ H' = H3, ?_, ?_⟩
    · refine ⟨_, rfl, _, rfl, a, C, dx, _, .int q, rfl, x1, U.cl, U.nP, rfl, _, _, rfl, rfl, ⟨by omega, by omega⟩, _, rfl, a, C, dx, _, .int r, rfl, x1, U.cl, U.nG, rfl, _, _, rfl, rfl, .inr ⟨by omega, by omega⟩, _, rfl, _, rfl, b, C, dy, _, .int q', rfl, y1, U.cl, U.nP, rfl, _, _, rfl, rfl, ⟨by omega, by omega⟩, _, rfl, b, C, dy, _, .int r', rfl, y1, U.cl, U.nG, rfl, _, _, rfl, rfl, .inr ⟨by omega, by omega⟩, _, _, rfl, rfl, ?_, rfl⟩
      show [_, _, _, _, some (V.int (Int.fdiv (SS : Int) (q : Int) * r + Int.fdiv (SS : Int) (q' : Int) * r'))] = _
      rw [fe, fe]
    rintro σ H4 ⟨rfl, rfl⟩
    refine ⟨_, rfl, _, rfl, _, rfl, _, rfl, _, _, rfl, rfl, _, rfl, _, rfl, fAdd, a, b, _, L, M, q, q', B + SS, SS, _, rfl, hS, ka.kcur hkn, kb.kcur hkn, nL, nM, S0, by omega, by omega, by omega, by omega, ?_, k⟩
    rw [Nat.add_sub_cancel]
    intro j hj
    have a1 := Q1 j hj
    have a2 := Q2 j hj
    show ival (L (j + SS)) + ival (M (j + SS)) = ival (L j) + ival (M j) + _
    have a1 : ival (L (j + SS)) = ival (L j) + ((SS / q : Nat) : Int) * r := a1
    have a2 : ival (M (j + SS)) = ival (M j) + ((SS / q' : Nat) : Int) * r' := a2
    omega
/-- a curve's row moved or changed beat by beat: its form -/
theorem num_or_end {L : Nat → V} {v : List V} {q : Nat} {r : Int} (fo : FormG L v q r) : (∃ b, v.length = b + q ∧ (∀ j, L j = .int (ival (L j))) ∧ MF.QP (fun j => ival (L j)) q r b) ∨ (q = 1 ∧ r = 0 ∧ ∃ t, v.length = t + 1 ∧ (∀ j, j < t → L j = .int (ival (L j))) ∧ ∀ j, t ≤ j → L j = .non) := by
  rcases fo.cases' with ⟨f, b, e, hf, rfl⟩ | ⟨s, e, rfl, rfl, rfl⟩
  · refine .inl ⟨b, by rw [List.length_map, List.length_range], fun j => by rw [e]; rfl, fun j hj => ?_⟩
    show ival (L (j + q)) = ival (L j) + r
    rw [e, e]
    exact hf.qp j hj
  · refine .inr ⟨rfl, rfl, s.length, by rw [List.length_append, List.length_map]; rfl, fun j hj => ?_, fun j hj => by rw [e]; exact fn_high hj⟩
    rw [e, fn_low hj]
    rfl
abbrev nLat : List Str := ["curve", "beats"]
theorem scLat : FnScope nLat nLat (defScope sLat) := ⟨rfl, rfl, rfl, by decide +kernel, rfl, by decide +kernel, by decide +kernel⟩
def latV (L : Nat → V) (b : Nat) (j : Nat) : V := if j < b then .int 0 else L (j - b)
def spLat (K : PySem.W.Frag) (C CB CN : Addr) (kn : Nat := 400) : Sp := fun vs H Q E => ∃ x y : V, vs = [x, y] ∧
  ((∃ (a : Addr) (L : Nat → V) (q b : Nat), x = .ref a ∧ y = .int b ∧ KCn kn H C a L q ∧ b ≤ 4000 - kn ∧ ∀ (z : Addr) (H' : Hp), H z = none → IsCur H' C z (latV L b) → Same H H' → Q (.ref z) H') ∨ BadNum K C CB CN H x y 4000 "beats" E)
theorem ok_lat {kn : Nat} (hkn : kn ≤ 4000) {f fI fE C CB CN CT : Addr} {fd : FuncData} (F : Fun K "later" "later" sLat f fd) (T : CurG mg) (U : CurT K mg C fI fE) (MM : ∃ t, mg "MOST_MADE" = some (.int 4000 t))
    (c_ncu : Cal P w K mg base (L2.CX P w) 3 "need_curve" ["thing"] (spNeedCur K C CB)) (c_nnm : Cal P w K mg base (L2.CX P w) 4 "need_number" ["thing", "low", "high", "part"] (spNeedNum K CN)) (c_made : Cal P w K mg base (L2.CX P w) 6 "made" ["row", "period", "growth"] (spMadeC K C CT)) :
    FnOk P w K mg base (L2.CX P w) 7 f fd nLat (spLat K C CB CN kn) := by
  refine F.okX scLat (fun vs H Q E h => ?_) (fun cdv A outer s H vs Q E hr h => ?_)
  · obtain ⟨x, y, rfl, _⟩ := h
    rfl
  · obtain ⟨x, y, rfl, h⟩ := h
    obtain ⟨tmm, mMOST_MADE⟩ := MM
    refine ⟨_, (pss_cons (ps_expr (pe_callC c_ncu (hr.mono (by decide)) rfl (passX (E := E) (takes_of rfl rfl rfl rfl) fun _ _ _ _ h => h) (pa_cons (pv 0) pa_nil)))
 (pss_cons (ps_expr (pe_callC c_nnm (hr.mono (by decide)) rfl (passX (E := E) (takes_of rfl rfl rfl rfl) fun _ _ _ _ h => h) (pa_cons (pv 1) (pa_cons pe_int (pa_cons (pe_glob (v := .int 4000) rfl mMOST_MADE ⟨_, rfl⟩) (pa_cons pe_str pa_nil))))))
 (pss_one
 (ps_ret (pe_callC c_made (hr.mono (by decide)) rfl (passX (E := E) (takes_of rfl rfl rfl rfl) fun _ _ _ _ h => h) (pa_cons (pe_op op_cat (pe_op op_rep (pe_lst (pa_cons pe_int pa_nil)) (pv 1)) (pe_callTy call_list_of (by rfl) T.list (by decide +kernel) (pa_cons (pe_fld (pv 0) rfl) pa_nil))) (pa_cons (pe_fld (pv 0) rfl) (pa_cons (pe_fld (pv 0) rfl) pa_nil)))))))), ?_⟩
    rcases h with ⟨a, L, q, b, rfl, rfl, ⟨v, r, cx, fx, CMx, lx⟩, hb, k⟩ | ⟨no, k⟩ | ⟨⟨a, rfl, ⟨v, q, r, ca⟩⟩, bad, k⟩
    rotate_left
    · exact ⟨_, rfl, _, rfl, .inr ⟨no, k⟩⟩
    · exact ⟨_, rfl, _, rfl, .inl ⟨a, v, q, r, rfl, ca, _, rfl, _, _, _, _, rfl, .inr ⟨bad, k⟩⟩⟩
    have px := fx.len
    obtain ⟨dx, t, x1, x2⟩ := id cx
    refine ⟨_, rfl, _, rfl, .inl ⟨a, v, q, r, rfl, cx, _, rfl, _, _, _, _, rfl, .inl ⟨b, rfl, by omega, by omega, ?_⟩⟩⟩
    refine ⟨(by show 1 ≤ sizeLine; decide), fun u hu => ?_⟩
    generalize g2 : upd H u _ = H2
    obtain ⟨s2, f2⟩ := alloc g2 hu
    refine ⟨_, rfl, u, b, [.int 0], rfl, rfl, f2, by omega, by omega, (by show 1 * _ ≤ sizeLine; exact line_le (by omega)), fun z1 hz1 => ?_⟩
    generalize g3 : upd H2 z1 _ = H3
    obtain ⟨s3, f3⟩ := alloc g3 hz1
    have s13 := Same.trans s2 s3
    refine ⟨_, rfl, a, C, dx, _, .ref t, rfl, s13 _ _ x1, U.cl, U.nS, rfl, t, v, rfl, .inr (SqT.of (s13 _ _ x2)), fun z2 hz2 => ?_⟩
    generalize g4 : upd H3 z2 _ = H4
    obtain ⟨s4, f4⟩ := alloc g4 hz2
    have fl : ∀ m, (List.replicate m [V.int 0]).flatten = List.replicate m (V.int 0) := fun m => by
      induction m with
      | zero => rfl
      | succ m ih => rw [List.replicate_succ, List.flatten_cons, ih, List.replicate_succ]; rfl
    refine ⟨z1, z2, _, _, rfl, rfl, s4 _ _ f3, f4, (by rw [Int.toNat_natCast, fl, List.length_replicate]; exact line_le (by omega)), fun z3 hz3 => ?_⟩
    generalize g5 : upd H4 z3 _ = H5
    obtain ⟨s5, f5⟩ := alloc g5 hz3
    have sA : Same H H5 := Same.trans s13 (Same.trans s4 s5)
    have er : (List.replicate (b : Int).toNat [V.int 0]).flatten ++ v = (List.range (b + v.length)).map (latV L b) := by
      rw [Int.toNat_natCast, fl, List.range_add, List.map_append, List.map_map]
      congr 1
      · refine List.ext_getElem? fun i => ?_
        rw [List.getElem?_replicate, List.getElem?_map]
        by_cases c : i < b
        · rw [if_pos c, List.getElem?_range c]
          show _ = some (latV L b i)
          unfold latV
          rw [if_pos c]
        · rw [if_neg c, List.getElem?_eq_none (by rw [List.length_range]; omega)]
          rfl
      · refine Eq.trans fx.row (List.map_congr_left fun j _ => ?_)
        show L j = latV L b (b + j)
        unfold latV
        rw [if_neg (by omega), Nat.add_sub_cancel_left]
    rw [er] at f5
    have fr : FormIn ((List.range (b + v.length)).map (latV L b)) q r ∧ RowF ((List.range (b + v.length)).map (latV L b)) q r (latV L b) := by
      rcases num_or_end fx with ⟨c, lc, eL, Q1⟩ | ⟨_, _, t, lt, eL, eN⟩
      · refine int_row px.1 (by omega) (by omega) CMx.g0 (by have := CMx.g1; omega) (fun j => ?_) fun j hj => ?_
        · unfold latV
          split
          · rfl
          · exact eL _
        · show ival (latV L b (j + q)) = ival (latV L b j) + r
          unfold latV
          rw [if_neg (by omega), if_neg (by omega), show j + q - b = j - b + q by omega]
          exact Q1 _ (by omega)
      · refine ends_row (t := b + t) (fun j hj => ?_) (fun j hj => ?_) (by omega) (by omega)
        · unfold latV
          split
          · rfl
          · exact eL _ (by omega)
        · unfold latV
          rw [if_neg (by omega)]
          exact eN _ (by omega)
    obtain ⟨dy, ty, y1, y2⟩ := cx.same sA
    refine ⟨_, rfl, a, C, dy, _, .int q, rfl, y1, U.cl, U.nP, rfl, _, rfl, a, C, dy, _, .int r, rfl, y1, U.cl, U.nG, rfl, z3, _, q, r, rfl, f5, fr.1, fun vals q2 r2 z4 H9 fv l4 hz4 cu9 s9 => ?_, fun vals q2 r2 fv l4 => ?_⟩
    · obtain ⟨q3, rfl, fo⟩ := form_g fv fr.2
      exact k z4 H9 (sA.free hz4) ⟨vals, q3, r2, cu9, fo⟩ (Same.trans sA s9)
    · exfalso
      have := formV_len fv
      rw [List.length_map, List.length_range] at this
      omega
end
end WW
end

section
set_option Elab.async false
set_option linter.all false
set_option maxRecDepth 100000
set_option maxHeartbeats 4000000
namespace WW
open PySem L2 WO WG RZ WQ WT WC
abbrev sAhe : Stmt := top 39
theorem row_ival {L : Nat → V} {v : List V} {q : Nat} {r : Int} (h : FormG L v q r) {n : Nat} (hn : ∀ j, j < n → L j ≠ .non) : (List.range n).map L = (List.range n).map fun j => V.int (ival (L j)) := by
  refine List.map_congr_left fun j hj => ?_
  rcases h.flatL j with e | e
  · exact absurd e (hn j (List.mem_range.mp hj))
  · exact e
theorem min_mem {f : Nat → Int} {n : Nat} {m : Int} (h : m ∈ (List.range n).map f) : ∃ j, j < n ∧ f j = m := by
  obtain ⟨j, hj, e⟩ := List.mem_map.mp h
  exact ⟨j, List.mem_range.mp hj, e⟩
theorem min_le {f : Nat → Int} {n : Nat} {m : Int} (h : ∀ y, y ∈ (List.range n).map f → m ≤ y) : ∀ j, j < n → m ≤ f j := fun j hj => h _ (List.mem_map.mpr ⟨j, List.mem_range.mpr hj, rfl⟩)
section
variable {P : Program} {w : World} {K : PySem.W.Frag} {mg : Str → Option Value} {base : Heap}
abbrev nAhe : List Str := ["curve", "other", "many", "spare"]
theorem scAhe : FnScope nAhe ["curve", "other"] (defScope sAhe) := ⟨rfl, rfl, rfl, by decide +kernel, rfl, by decide +kernel, by decide +kernel⟩
def spAhe (K : PySem.W.Frag) (C : Addr) : Sp := fun vs H Q _ => ∃ (x y : Addr) (L M : Nat → V) (q q' : Nat), vs = [.ref x, .ref y] ∧ KCur H C x L q ∧ KCur H C y M q' ∧ (∃ j, L j = .non ∨ M j = .non) ∧
  ∀ d, IsFst L M d → ∀ H', Same H H' → Q d H'
theorem ok_ahe {f C : Addr} {fd : FuncData} (F : Fun K "above_ahead" "above_ahead" sAhe f fd) (T : CurG mg)
    (c_sho : Cal P w K mg base CX0 2 "shorter_end" ["curve", "other"] (spSho K C)) (c_gap : Cal P w K mg base CX0 1 "gaps_of" ["row", "other_row"] (spGap K)) (c_fir : Cal P w K mg base CX0 3 "first_values" ["curve", "many"] (spFirst K C))
    (c_fbe : Cal P w K mg base CX0 1 "first_below" ["row", "number"] (spFbe K)) (c_cat : Cal P w K mg base CX0 2 "at" ["curve", "beat"] (spCat K C)) :
    FnOk P w K mg base CX0 4 f fd ["curve", "other"] (spAhe K C) := by
  refine F.ok scAhe (fun vs H Q E h => ?_) (fun cdv A outer s H vs Q E hr h => ?_)
  · obtain ⟨x, y, L, M, q, q', rfl, _⟩ := h
    rfl
  · obtain ⟨x, y, L, M, q, q', rfl, kx, ky, hne, k⟩ := h
    obtain ⟨v, r, cx, fx, CMx, lx⟩ := id kx
    obtain ⟨v', r', cy, fy, CMy, ly⟩ := id ky
    have px := fx.len
    have py := fy.len
    have rx := fx.rowF (by omega)
    have ry := fy.rowF (by omega)
    refine ⟨_, (C8.pss_cut (ps_set (i := 2) scAhe.nd rfl (Or.inl rfl) (pe_callC c_sho (hr.mono (by decide)) rfl pass0 (pa_cons (pv 0) (pa_cons (pv 1) pa_nil))))
 (C8.pss_cut (ps_set (i := 3) scAhe.nd rfl (Or.inl rfl) (pe_callC c_gap (hr.mono (by decide)) rfl pass0 (pa_cons (pe_callC c_fir (hr.mono (by decide)) rfl pass0 (pa_cons (pv 1) (pa_cons (pv 2) pa_nil))) (pa_cons (pe_callC c_fir (hr.mono (by decide)) rfl pass0 (pa_cons (pv 0) (pa_cons (pv 2) pa_nil))) pa_nil))))
 (C8.pss_cut (ps_if (PW.pt (pw_and (pt_truth (pv 3) (by intro _; rfl)) (pw_and1 (pt_cmpR op_lt (pe_callB (cr_min rfl) (by rfl) T.min (by decide +kernel) (pa_cons (pv 3) pa_nil)) pe_int (nomark _))))) (pss_one
 (ps_ret (pe_callC c_fbe (hr.mono (by decide)) rfl pass0 (pa_cons (pv 3) (pa_cons pe_int pa_nil))))) pss_nil)
 (pss_one
 (ps_ret (pe_ifExp (PW.pt (pw_and (pt_cmpR op_isN (pe_callC c_cat (hr.mono (by decide)) rfl pass0 (pa_cons (pv 0) (pa_cons (pv 2) pa_nil))) pe_non (nomark _)) (pw_and1 (pt_cmpR op_notN (pe_callC c_cat (hr.mono (by decide)) rfl pass0 (pa_cons (pv 1) (pa_cons (pv 2) pa_nil))) pe_non (nomark _))))) (pv 2) pe_non)))))), ?_⟩
    refine ⟨fun σ H' => ∃ m : Nat, σ = [some (.ref x), some (.ref y), some (.int m), none] ∧ IsEnd L M m ∧ m + 1 ≤ 4000 ∧ Same H H', ?_, ?_⟩
    · exact ⟨_, rfl, _, rfl, x, y, L, M, q, q', rfl, kx, ky, hne, fun m hm h4 H1 s1 => ⟨m, rfl, hm, h4, s1⟩⟩
    rintro σ H1 ⟨m, rfl, hm, h4, s1⟩
    have eL := row_ival fx (n := m) fun j hj => (hm.2 j hj).1
    have eM := row_ival fy (n := m) fun j hj => (hm.2 j hj).2
    have ab : ∀ j, j < m → (Ab (L j) (M j) ↔ ival (M j) - ival (L j) < 0) := fun j hj => by
      refine ab_int ?_ ?_
      · rcases fx.flatL j with e | e
        · exact absurd e (hm.2 j hj).1
        · exact e
      · rcases fy.flatL j with e | e
        · exact absurd e (hm.2 j hj).2
        · exact e
    refine ⟨fun σ H' => ∃ z, σ = [some (.ref x), some (.ref y), some (.int m), some (.ref z)] ∧ H' z = some (.lst ((List.range m).map fun j => V.int (ival (M j) - ival (L j)))) ∧ Same H H', ?_, ?_⟩
    · refine ⟨_, rfl, _, rfl, y, v', q', m, r', M, rfl, cy.same s1, ry, CMy, by omega, by omega, by omega, fun z1 H2 hz1 e1 s2 => ?_⟩
      refine ⟨_, rfl, _, rfl, x, v, q, m, r, L, rfl, cx.same (Same.trans s1 s2), rx, CMx, by omega, by omega, by omega, fun z2 H3 hz2 e2 s3 => ?_⟩
      rw [eM] at e1
      rw [eL] at e2
      exact ⟨z1, z2, m, _, _, rfl, s3 _ _ e1, e2, by omega, fun z H4 hz ez s4 => ⟨z, rfl, ez, Same.trans s1 (Same.trans s2 (Same.trans s3 s4))⟩⟩
    clear s1
    rintro σ H1 ⟨z, rfl, hz, s1⟩
    refine ⟨fun σ H' => σ = [some (.ref x), some (.ref y), some (.int m), some (.ref z)] ∧ H' = H1 ∧ ∀ j, j < m → 0 ≤ ival (M j) - ival (L j), ?_, ?_⟩
    · refine ⟨_, rfl, _, .inl ⟨_, SqL.of hz, rfl⟩, ?_⟩
      by_cases c : m = 0
      · subst c
        exact iteF (iteF ⟨rfl, rfl, fun j hj => by omega⟩)
      have e0 : (!((List.range m).map fun j => V.int (ival (M j) - ival (L j))).isEmpty) = true := by
        cases m with
        | zero => exact absurd rfl c
        | succ m => rw [List.range_succ_eq_map]; rfl
      rw [e0]
      refine iteT ⟨_, rfl, z, (List.range m).map fun j => ival (M j) - ival (L j), rfl, ?_, ?_, fun m0 hm0 hle => ?_⟩
      · rw [List.map_map]
        exact SqL.of hz
      · rw [List.length_map, List.length_range]
        omega
      obtain ⟨i, hi, ei⟩ := min_mem hm0
      have low := min_le hle
      by_cases n0 : m0 < 0
      · obtain ⟨t, t1, t2, t3⟩ := MF.least_below (P := fun j => ival (M j) - ival (L j) < 0) (n := m) ⟨i, hi, by rw [ei]; exact n0⟩
        refine ⟨_, _, rfl, rfl, true, bT n0, iteT ⟨_, rfl, z, m, t, _, 0, rfl, hz, t1, t2, fun j hj => Int.not_lt.mp (t3 j hj), ?_⟩⟩
        exact k _ (.inr ⟨t, rfl, (ab t t1).mpr t2, fun j hj z => t3 j hj ((ab j (by omega)).mp z)⟩) H1 s1
      · exact ⟨_, _, rfl, rfl, false, bF n0, iteF ⟨rfl, rfl, fun j hj => Int.le_trans (Int.not_lt.mp n0) (low j hj)⟩⟩
    rintro σ H2 ⟨rfl, rfl, pos⟩
    have nab : ∀ j, j < m → ¬ Ab (L j) (M j) := fun j hj z => by
      have := (ab j hj).mp z
      have := pos j hj
      omega
    have never : M m = .non → ∀ d, d = V.non → IsFst L M d := fun e d hd => .inl ⟨hd, fun j z => by
      by_cases c : j < m
      · exact nab j c z
      · obtain ⟨_, lv, _, ev⟩ := fy.ends
        rcases ev with ⟨_, ev⟩ | ⟨_, ev⟩
        · have mj : M j = .non := (ev j).mpr (by have := (ev m).mp e; omega)
          rcases z with ⟨_, z⟩ | ⟨i, k, _, z, _⟩
          · exact z mj
          · rw [mj] at z
            cases z
        · exact ev m e⟩
    refine ⟨_, rfl, _, rfl, x, v, q, m, r, L, rfl, cx.same s1, rx, by omega, ?_⟩
    by_cases cL : L m = .non
    · refine ⟨rfl, true, bT cL, iteT ⟨_, rfl, _, rfl, y, v', q', m, r', M, rfl, cy.same s1, ry, by omega, ?_⟩⟩
      by_cases cM : M m = .non
      · refine ⟨rfl, false, ?_, iteF (k _ (never cM _ rfl) _ s1)⟩
        rw [decide_eq_true cM]
        rfl
      · refine ⟨rfl, true, ?_, iteT ⟨_, rfl, k _ (.inr ⟨m, rfl, .inl ⟨cL, cM⟩, nab⟩) _ s1⟩⟩
        rw [decide_eq_false cM]
        rfl
    · have cM : M m = .non := by
        rcases hm.1 with e | e
        · exact absurd e cL
        · exact e
      exact ⟨rfl, false, bF cL, iteF (iteF (k _ (never cM _ rfl) _ s1))⟩
end
end WW
end

section
set_option Elab.async false
set_option linter.all false
set_option maxRecDepth 100000
set_option maxHeartbeats 8000000
namespace WW
open PySem L2 WO WG RZ WQ WT WC
abbrev sFab : Stmt := top 38
abbrev sIsb : Stmt := top 42
/-- a curve without a None -/
theorem FormG.num {L : Nat → V} {v : List V} {q : Nat} {r : Int} (h : FormG L v q r) (n : ∀ j, L j ≠ .non) : ∃ b, v.length = b + q ∧ MF.QP (fun j => ival (L j)) q r b := by
  rcases h.cases' with ⟨f, b, e, hf, rfl⟩ | ⟨s, e, _⟩
  · refine ⟨b, by rw [List.length_map, List.length_range], fun j hj => ?_⟩
    show ival (L (j + q)) = ival (L j) + r
    rw [e, e]
    exact hf.qp j hj
  · exact absurd (by rw [e]; exact fn_high (Nat.le_refl _)) (n s.length)
section
variable {P : Program} {w : World} {K : PySem.W.Frag} {mg : Str → Option Value} {base : Heap}
abbrev nFab : List Str := ["curve", "other", "step", "begin", "spare", "gain", "behind", "rounds"]
theorem scFab : FnScope nFab ["curve", "other"] (defScope sFab) := ⟨rfl, rfl, rfl, by decide +kernel, rfl, by decide +kernel, by decide +kernel⟩
def spFab (K : PySem.W.Frag) (C CB : Addr) : Sp := fun vs H Q E => ∃ x y : V, vs = [x, y] ∧
  ((∃ (a b : Addr) (L M : Nat → V) (q q' : Nat), x = .ref a ∧ y = .ref b ∧ KCur H C a L q ∧ KCur H C b M q' ∧ Nat.lcm q q' ≤ 4000 ∧ ∀ d, IsFst L M d → ∀ H', Same H H' → Q d H') ∨
   ((NoCur K H C x ∨ ((∃ a : Addr, x = .ref a ∧ HasCur H C a) ∧ NoCur K H C y)) ∧ ∀ d H', Raised H "part" .non d H' → E (.ref CB) (some d) H'))
theorem ok_fab {f C CB CT : Addr} {fd : FuncData} (F : Fun K "first_above" "first_above" sFab f fd) (T : CurG mg) (nmax : mg "max" = none)
    (c_two : Cal P w K mg base (L2.CX P w) 4 "need_two" ["curve", "other"] (spTwo K C CB)) (c_per : Cal P w K mg base (L2.CX P w) 3 "common_period" ["curve", "other"] (spPer K C CT))
    (c_has : Cal P w K mg base CX0 1 "has_none" ["curve"] (spHas K C)) (c_reg : Cal P w K mg base CX0 1 "regular_from" ["curve"] (spRegular K C)) (c_gai : Cal P w K mg base CX0 1 "gain_in" ["curve", "other", "step"] (spGai K C))
    (c_gap : Cal P w K mg base CX0 1 "gaps_of" ["row", "other_row"] (spGap K)) (c_fir : Cal P w K mg base CX0 3 "first_values" ["curve", "many"] (spFirst K C))
    (c_fbe : Cal P w K mg base CX0 1 "first_below" ["row", "number"] (spFbe K)) (c_ahe : Cal P w K mg base CX0 4 "above_ahead" ["curve", "other"] (spAhe K C)) :
    FnOk P w K mg base (L2.CX P w) 5 f fd ["curve", "other"] (spFab K C CB) := by
  refine F.okX scFab (fun vs H Q E h => ?_) (fun cdv A outer s H vs Q E hr h => ?_)
  · obtain ⟨x, y, rfl, _⟩ := h
    rfl
  · obtain ⟨x, y, rfl, h⟩ := h
    refine ⟨_, (C8.pss_cut (ps_expr (pe_callC c_two (hr.mono (by decide)) rfl (passX (E := E) (takes_of rfl rfl rfl rfl) fun _ _ _ _ h => h) (pa_cons (pv 0) (pa_cons (pv 1) pa_nil))))
 (C8.pss_cut (ps_if (PW.pt (pw_or (pt_val (pe_callC c_has (hr.mono (by decide)) rfl pass0 (pa_cons (pv 0) pa_nil))) (pw_or1 (pt_val (pe_callC c_has (hr.mono (by decide)) rfl pass0 (pa_cons (pv 1) pa_nil)))))) (pss_one
 (ps_ret (pe_callC c_ahe (hr.mono (by decide)) rfl pass0 (pa_cons (pv 0) (pa_cons (pv 1) pa_nil))))) pss_nil)
 (C8.pss_cut (ps_set (i := 2) scFab.nd rfl (Or.inl rfl) (pe_callC c_per (hr.mono (by decide)) rfl (passX (E := E) (takes_of rfl rfl rfl rfl) fun _ _ _ _ h => h) (pa_cons (pv 0) (pa_cons (pv 1) pa_nil))))
 (C8.pss_cut (ps_set (i := 3) scFab.nd rfl (Or.inl rfl) (pe_callB (call_max2 rfl) (by rfl) nmax (by decide +kernel) (pa_cons (pe_callC c_reg (hr.mono (by decide)) rfl pass0 (pa_cons (pv 0) pa_nil)) (pa_cons (pe_callC c_reg (hr.mono (by decide)) rfl pass0 (pa_cons (pv 1) pa_nil)) pa_nil))))
 (C8.pss_cut (ps_set (i := 4) scFab.nd rfl (Or.inl rfl) (pe_callC c_gap (hr.mono (by decide)) rfl pass0 (pa_cons (pe_callC c_fir (hr.mono (by decide)) rfl pass0 (pa_cons (pv 1) (pa_cons (pe_op op_add (pv 3) (pv 2)) pa_nil))) (pa_cons (pe_callC c_fir (hr.mono (by decide)) rfl pass0 (pa_cons (pv 0) (pa_cons (pe_op op_add (pv 3) (pv 2)) pa_nil))) pa_nil))))
 (C8.pss_cut (ps_set (i := 5) scFab.nd rfl (Or.inl rfl) (pe_callC c_gai (hr.mono (by decide)) rfl pass0 (pa_cons (pv 0) (pa_cons (pv 1) (pa_cons (pv 2) pa_nil)))))
 (C8.pss_cut (ps_if (pt_cmpR op_lt (pe_callB (cr_min rfl) (by rfl) T.min (by decide +kernel) (pa_cons (pv 4) pa_nil)) pe_int (nomark _)) (pss_one
 (ps_ret (pe_callC c_fbe (hr.mono (by decide)) rfl pass0 (pa_cons (pv 4) (pa_cons pe_int pa_nil))))) pss_nil)
 (C8.pss_cut (ps_if (pt_cmpR op_le (pv 5) pe_int (nomark _)) (pss_one
 (ps_ret pe_non)) pss_nil)
 (C8.pss_cut (ps_set (i := 6) scFab.nd rfl (Or.inl rfl) (pe_slice sl_list (pv 4) (po_some (pv 3)) po_none))
 (C8.pss_cut (ps_set (i := 7) scFab.nd rfl (Or.inl rfl) (pe_op op_add (pe_op op_fdivW (pe_callB (cr_min rfl) (by rfl) T.min (by decide +kernel) (pa_cons (pv 6) pa_nil)) (pv 5)) pe_int))
 (pss_one
 (ps_ret (pe_op op_add (pe_op op_add (pv 3) (pe_callC c_fbe (hr.mono (by decide)) rfl pass0 (pa_cons (pv 6) (pa_cons (pe_op op_mul (pv 7) (pv 5)) pa_nil)))) (pe_op op_mul (pv 7) (pv 2))))))))))))))), ?_⟩
    rcases h with ⟨a, b, L, M, q, q', rfl, rfl, kx, ky, hl, k⟩ | ⟨no, k⟩
    rotate_left
    · refine ⟨fun _ _ => False, ⟨_, rfl, _, rfl, x, y, rfl, .inr ⟨no, k⟩⟩, fun _ _ z => z.elim⟩
    obtain ⟨v, r, cx, fx, CMx, lx⟩ := id kx
    obtain ⟨v', r', cy, fy, CMy, ly⟩ := id ky
    have px := fx.len
    have py := fy.len
    have rx := fx.rowF (by omega)
    have ry := fy.rowF (by omega)
    refine ⟨fun σ H' => σ = [some (.ref a), some (.ref b), none, none, none, none, none, none] ∧ H' = H, ⟨_, rfl, _, rfl, _, _, rfl, .inl ⟨a, b, rfl, rfl, ⟨_, _, _, cx⟩, ⟨_, _, _, cy⟩, rfl, rfl⟩⟩, ?_⟩
    rintro σ H0 ⟨rfl, rfl⟩
    obtain ⟨_, lv, gv, ev⟩ := fx.ends
    obtain ⟨_, lv', gv', ev'⟩ := fy.ends
    refine ⟨fun σ H' => σ = [some (.ref a), some (.ref b), none, none, none, none, none, none] ∧ H' = H0 ∧ (∀ j, L j ≠ .non) ∧ ∀ j, M j ≠ .non, ?_, ?_⟩
    · refine ⟨_, rfl, a, v, _, _, lv, rfl, cx, gv, ?_⟩
      rcases ev with ⟨e, ev⟩ | ⟨e, ev⟩
      · exact ⟨true, bT e, iteT (iteT ⟨_, rfl, _, rfl, a, b, L, M, q, q', rfl, kx, ky, ⟨v.length - 1, .inl ((ev _).mpr (Nat.le_refl _))⟩, k⟩)⟩
      refine ⟨false, bF e, iteF ⟨_, rfl, b, v', _, _, lv', rfl, cy, gv', ?_⟩⟩
      rcases ev' with ⟨e', ev'⟩ | ⟨e', ev'⟩
      · exact ⟨true, bT e', iteT ⟨_, rfl, _, rfl, a, b, L, M, q, q', rfl, kx, ky, ⟨v'.length - 1, .inr ((ev' _).mpr (Nat.le_refl _))⟩, k⟩⟩
      · exact ⟨false, bF e', iteF ⟨rfl, rfl, ev, ev'⟩⟩
    clear ev ev' gv gv'
    rintro σ H1 ⟨rfl, rfl, nL, nM⟩
    obtain ⟨c, lc, Qx⟩ := fx.num nL
    obtain ⟨c', lc', Qy⟩ := fy.num nM
    have s0 : 0 < Nat.lcm q q' := Nat.lcm_pos px.1 py.1
    have dq : Nat.lcm q q' / q * q = Nat.lcm q q' := Nat.div_mul_cancel (Nat.dvd_lcm_left q q')
    have dq' : Nat.lcm q q' / q' * q' = Nat.lcm q q' := Nat.div_mul_cancel (Nat.dvd_lcm_right q q')
    refine ⟨fun σ H' => σ = [some (.ref a), some (.ref b), some (.int (Nat.lcm q q' : Nat)), none, none, none, none, none] ∧ H' = H1, ⟨_, rfl, _, rfl, a, b, v, v', q, q', r, r', rfl, cx, cy, by omega, by omega, fun _ => ⟨rfl, rfl⟩, fun z => absurd z (by omega)⟩, ?_⟩
    rintro σ H2 ⟨rfl, rfl⟩
    have Q1 := (Qx.up (Nat.lcm q q' / q)).to (Nat.le_max_left c c')
    have Q2 := (Qy.up (Nat.lcm q q' / q')).to (Nat.le_max_right c c')
    rw [dq] at Q1
    rw [dq'] at Q2
    have Qd := Q2.sub Q1
    generalize hS : Nat.lcm q q' = S at *
    generalize hG : ((S / q : Nat) : Int) * r - ((S / q' : Nat) : Int) * r' = G at *
    have Gb : -(2 ^ 50) ≤ G ∧ G ≤ 2 ^ 50 := by
      have b1 : S / q ≤ 4000 := Nat.le_trans (Nat.div_le_self _ _) hl
      have b2 : S / q' ≤ 4000 := Nat.le_trans (Nat.div_le_self _ _) hl
      have a0 : 0 ≤ ((S / q : Nat) : Int) * r := Int.mul_nonneg (Int.natCast_nonneg _) CMx.g0
      have a1 : 0 ≤ ((S / q' : Nat) : Int) * r' := Int.mul_nonneg (Int.natCast_nonneg _) CMy.g0
      have g1 := CMx.g1
      have g2 := CMy.g1
      have a2 : ((S / q : Nat) : Int) * r ≤ 4000 * 2 ^ 30 := Int.mul_le_mul (Int.ofNat_le.mpr b1) (by omega) CMx.g0 (by decide)
      have a3 : ((S / q' : Nat) : Int) * r' ≤ 4000 * 2 ^ 30 := Int.mul_le_mul (Int.ofNat_le.mpr b2) (by omega) CMy.g0 (by decide)
      omega
    rw [show ((S / q' : Nat) : Int) * r' - ((S / q : Nat) : Int) * r = -G by omega] at Qd
    refine ⟨fun σ H' => σ = [some (.ref a), some (.ref b), some (.int S), some (.int (max c c' : Nat)), none, none, none, none] ∧ H' = H2, ?_, ?_⟩
    · refine ⟨_, rfl, a, v, q, r, rfl, cx, px.2, _, rfl, b, v', q', r', rfl, cy, py.2, _, _, rfl, ?_, rfl⟩
      rw [lc, lc', Nat.add_sub_cancel, Nat.add_sub_cancel]
      show [_, _, _, some (V.int (if (c' : Int) > (c : Int) then (c' : Int) else (c : Int))), _, _, _, _] = _
      rw [show (if (c' : Int) > (c : Int) then (c' : Int) else (c : Int)) = ((max c c' : Nat) : Int) by split <;> omega]
    rintro σ H3 ⟨rfl, rfl⟩
    have hB : max c c' ≤ 4000 := by omega
    generalize hBB : max c c' = B at *
    have eL := row_ival fx (n := B + S) fun j _ => nL j
    have eM := row_ival fy (n := B + S) fun j _ => nM j
    have ab : ∀ j, Ab (L j) (M j) ↔ ival (M j) - ival (L j) < 0 := fun j => by
      refine ab_int ?_ ?_
      · rcases fx.flatL j with e | e
        · exact absurd e (nL j)
        · exact e
      · rcases fy.flatL j with e | e
        · exact absurd e (nM j)
        · exact e
    refine ⟨fun σ H' => ∃ z, σ = [some (.ref a), some (.ref b), some (.int S), some (.int B), some (.ref z), none, none, none] ∧ H' z = some (.lst ((List.range (B + S)).map fun j => V.int (ival (M j) - ival (L j)))) ∧ Same H3 H', ?_, ?_⟩
    · refine ⟨_, rfl, _, rfl, _, rfl, _, _, rfl, rfl, b, v', q', B + S, r', M, rfl, cy, ry, CMy, by omega, by omega, by omega, fun z1 H4 hz1 e1 s2 => ?_⟩
      refine ⟨_, rfl, _, rfl, _, rfl, _, _, rfl, rfl, a, v, q, B + S, r, L, rfl, cx.same s2, rx, CMx, by omega, by omega, by omega, fun z2 H5 hz2 e2 s3 => ?_⟩
      rw [eM] at e1
      rw [eL] at e2
      exact ⟨z1, z2, B + S, _, _, rfl, s3 _ _ e1, e2, by omega, fun z H6 hz ez s4 => ⟨z, rfl, ez, Same.trans s2 (Same.trans s3 s4)⟩⟩
    rintro σ H4 ⟨z, rfl, hz, s4⟩
    refine ⟨fun σ H' => σ = [some (.ref a), some (.ref b), some (.int S), some (.int B), some (.ref z), some (.int G), none, none] ∧ H' = H4, ?_, ?_⟩
    · refine ⟨_, rfl, _, rfl, _, rfl, a, b, v, v', q, q', S, r, r', rfl, cx.same s4, cy.same s4, px.1, py.1, by omega, by omega, by omega, ?_, rfl⟩
      rw [hG]
      rfl
    rintro σ H5 ⟨rfl, rfl⟩
    generalize hd : (fun j => ival (M j) - ival (L j)) = d at *
    have de : ∀ j, ival (M j) - ival (L j) = d j := fun j => by rw [← hd]
    have hz : H5 z = some (.lst ((List.range (B + S)).map fun j => V.int (d j))) := by
      rw [← hd]
      exact hz
    have ab : ∀ j, Ab (L j) (M j) ↔ d j < 0 := fun j => by rw [← de]; exact ab j
    refine ⟨fun σ H' => σ = [some (.ref a), some (.ref b), some (.int S), some (.int B), some (.ref z), some (.int G), none, none] ∧ H' = H5 ∧ ∀ j, j < B + S → 0 ≤ d j, ?_, ?_⟩
    · refine ⟨_, rfl, z, (List.range (B + S)).map d, rfl, ?_, ?_, fun m0 hm0 hle => ?_⟩
      · rw [List.map_map]
        exact SqL.of hz
      · rw [List.length_map, List.length_range]
        omega
      obtain ⟨i, hi, ei⟩ := min_mem hm0
      have low := min_le hle
      by_cases n0 : m0 < 0
      · obtain ⟨t, t1, t2, t3⟩ := MF.least_below (P := fun j => d j < 0) (n := B + S) ⟨i, hi, by rw [ei]; exact n0⟩
        refine ⟨_, _, rfl, rfl, true, bT n0, iteT ⟨_, rfl, z, B + S, t, d, 0, rfl, hz, t1, t2, fun j hj => Int.not_lt.mp (t3 j hj), ?_⟩⟩
        exact k _ (.inr ⟨t, rfl, (ab t).mpr t2, fun j hj z => t3 j hj ((ab j).mp z)⟩) H5 s4
      · exact ⟨_, _, rfl, rfl, false, bF n0, iteF ⟨rfl, rfl, fun j hj => Int.le_trans (Int.not_lt.mp n0) (low j hj)⟩⟩
    rintro σ H6 ⟨rfl, rfl, pos⟩
    refine ⟨fun σ H' => σ = [some (.ref a), some (.ref b), some (.int S), some (.int B), some (.ref z), some (.int G), none, none] ∧ H' = H6 ∧ 0 < G, ?_, ?_⟩
    · refine ⟨_, rfl, _, _, rfl, rfl, ?_⟩
      by_cases g0 : G ≤ 0
      · refine ⟨true, bT g0, iteT (k _ (.inl ⟨rfl, fun j z => ?_⟩) H6 s4)⟩
        have := MF.never_neg s0 Qd pos g0 j
        have := (ab j).mp z
        omega
      · exact ⟨false, bF g0, iteF ⟨rfl, rfl, by omega⟩⟩
    rintro σ H7 ⟨rfl, rfl, g0⟩
    refine ⟨fun σ H' => ∃ u, σ = [some (.ref a), some (.ref b), some (.int S), some (.int B), some (.ref z), some (.int G), some (.ref u), none] ∧ H' u = some (.lst ((List.range S).map fun j => V.int (d (B + j)))) ∧ Same H7 H', ?_, ?_⟩
    · refine ⟨_, rfl, _, rfl, (B : Int), rfl, z, _, rfl, SqL.of hz, fun u hu => ?_⟩
      refine ⟨u, rfl, ?_, same_new hu⟩
      rw [cutL (by rw [List.length_map, List.length_range]; omega), ← List.map_drop]
      have e : ((List.range (B + S)).drop B).map (fun j => V.int (d j)) = (List.range S).map fun j => V.int (d (B + j)) := by
        rw [List.range_add, List.drop_append, List.length_range, Nat.sub_self, List.drop_of_length_le (by rw [List.length_range]; exact Nat.le_refl _), List.nil_append, List.drop_zero, List.map_map]
        rfl
      rw [e]
      exact upd_same
    rintro σ H8 ⟨u, rfl, hu, s8⟩
    refine ⟨fun σ H' => ∃ m : Int, σ = [some (.ref a), some (.ref b), some (.int S), some (.int B), some (.ref z), some (.int G), some (.ref u), some (.int (m / G + 1))] ∧ H' = H8 ∧ (∃ i, i < S ∧ d (B + i) = m) ∧ ∀ i, i < S → m ≤ d (B + i), ?_, ?_⟩
    · refine ⟨_, rfl, u, (List.range S).map fun j => d (B + j), rfl, ?_, ?_, fun m hm hle => ?_⟩
      · rw [List.map_map]
        exact SqL.of hu
      · rw [List.length_map, List.length_range]
        exact s0
      refine ⟨_, rfl, _, _, rfl, rfl, wide_div (b := 64) g0 (by omega) (by decide) (by decide), _, _, rfl, rfl, m, rfl, rfl, min_mem hm, min_le hle⟩
    rintro σ H9 ⟨m, rfl, rfl, ⟨i0, i1, i2⟩, m1⟩
    have p0 : 0 ≤ m := by rw [← i2]; exact pos _ (by omega)
    obtain ⟨t, t1, t2, t3⟩ := MF.first_neg s0 Qd pos g0 ⟨i0, i1, i2⟩ m1
    have fi := MF.first_is s0 Qd pos g0 p0 m1 t1 t2 t3
    have r0 : 0 ≤ m / G := Int.ediv_nonneg p0 (by omega)
    refine ⟨_, rfl, _, rfl, _, rfl, _, rfl, _, _, rfl, rfl, .inr ⟨by omega, by omega⟩, u, S, t, (fun j => d (B + j)), _, rfl, hu, t1, t2, t3, _, _, rfl, rfl, _, rfl, _, rfl, _, _, rfl, rfl, .inr ⟨by omega, by omega⟩, _, _, rfl, rfl, ?_⟩
    have e : (B : Int) + (t : Int) + (m / G + 1) * (S : Int) = ((B + t + (m / G + 1).toNat * S : Nat) : Int) := by
      rw [Int.natCast_add, Int.natCast_add, Int.natCast_mul, show ((m / G + 1).toNat : Int) = m / G + 1 by omega]
    refine k _ (.inr ⟨B + t + (m / G + 1).toNat * S, ?_, (ab _).mpr fi.1, fun j hj z => ?_⟩) H9 (Same.trans s4 s8)
    · rw [← e]
    · have := fi.2 j hj
      have := (ab j).mp z
      omega
abbrev nIsb : List Str := ["curve", "other"]
theorem scIsb : FnScope nIsb ["curve", "other"] (defScope sIsb) := ⟨rfl, rfl, rfl, by decide +kernel, rfl, by decide +kernel, by decide +kernel⟩
def spIsb (K : PySem.W.Frag) (C CB : Addr) : Sp := fun vs H Q E => ∃ x y : V, vs = [x, y] ∧
  ((∃ (a b : Addr) (L M : Nat → V) (q q' : Nat), x = .ref a ∧ y = .ref b ∧ KCur H C a L q ∧ KCur H C b M q' ∧ Nat.lcm q q' ≤ 4000 ∧ ∀ d, IsFst L M d → ∀ H', Same H H' → Q (.bl (decide (d = .non))) H') ∨
   ((NoCur K H C x ∨ ((∃ a : Addr, x = .ref a ∧ HasCur H C a) ∧ NoCur K H C y)) ∧ ∀ d H', Raised H "part" .non d H' → E (.ref CB) (some d) H'))
theorem ok_isb {f C CB : Addr} {fd : FuncData} (F : Fun K "is_below" "is_below" sIsb f fd)
    (c_fab : Cal P w K mg base (L2.CX P w) 5 "first_above" ["curve", "other"] (spFab K C CB)) :
    FnOk P w K mg base (L2.CX P w) 6 f fd ["curve", "other"] (spIsb K C CB) := by
  refine F.okX scIsb (fun vs H Q E h => ?_) (fun cdv A outer s H vs Q E hr h => ?_)
  · obtain ⟨x, y, rfl, _⟩ := h
    rfl
  · obtain ⟨x, y, rfl, h⟩ := h
    refine ⟨_, (pss_one
 (ps_ret (pe_cmpR op_isN (pe_callC c_fab (hr.mono (by decide)) rfl (passX (E := E) (takes_of rfl rfl rfl rfl) fun _ _ _ _ h => h) (pa_cons (pv 0) (pa_cons (pv 1) pa_nil))) pe_non (nomark _)))), ?_⟩
    rcases h with ⟨a, b, L, M, q, q', rfl, rfl, kx, ky, hl, k⟩ | ⟨no, k⟩
    · exact ⟨_, rfl, _, rfl, _, _, rfl, .inl ⟨a, b, L, M, q, q', rfl, rfl, kx, ky, hl, fun d hd H' s' => ⟨rfl, k d hd H' s'⟩⟩⟩
    · exact ⟨_, rfl, _, rfl, _, _, rfl, .inr ⟨no, k⟩⟩
end
end WW
end

section
set_option Elab.async false
set_option linter.all false
set_option maxRecDepth 100000
set_option maxHeartbeats 8000000
namespace WW
open PySem L2 WO WG RZ WQ WT WC
/-- two that go on, of a common period that is too great -/
def FarTwo (CT C : Addr) (H : Hp) (a b : Addr) (E : XK) : Prop := ∃ (L M : Nat → V) (q q' : Nat), KCn 4000 H C a L q ∧ KCn 4000 H C b M q' ∧ (∀ j, L j ≠ .non) ∧ (∀ j, M j ≠ .non) ∧ 4000 < Nat.lcm q q' ∧ ∀ d H', Raised H "most" (.int 4000) d H' → E (.ref CT) (some d) H'
def spTm (K : PySem.W.Frag) (C CT : Addr) : Sp := fun vs H Q E => ∃ a b : Addr, vs = [.ref a, .ref b] ∧ FarTwo CT C H a b E
theorem last_ne {L : Nat → V} {v : List V} {q : Nat} {r : Int} (fo : FormG L v q r) (n : ∀ j, L j ≠ .non) : ∃ lv, v[v.length - 1]? = some lv ∧ lv ≠ .non := by
  obtain ⟨_, lv, gv, ev⟩ := id fo.ends
  refine ⟨lv, gv, ?_⟩
  rcases ev with ⟨e, ev⟩ | ⟨e, _⟩
  · exact absurd ((ev _).mpr (Nat.le_refl _)) (n (v.length - 1))
  · exact e
section
variable {P : Program} {w : World} {K : PySem.W.Frag} {mg : Str → Option Value} {base : Heap}
theorem ok_fabT {f C CB CT : Addr} {fd : FuncData} (F : Fun K "first_above" "first_above" sFab f fd) (T : CurG mg) (nmax : mg "max" = none)
    (c_two : Cal P w K mg base (L2.CX P w) 4 "need_two" ["curve", "other"] (spTwo K C CB)) (c_per : Cal P w K mg base (L2.CX P w) 3 "common_period" ["curve", "other"] (spPer K C CT))
    (c_has : Cal P w K mg base CX0 1 "has_none" ["curve"] (spHas K C)) (c_reg : Cal P w K mg base CX0 1 "regular_from" ["curve"] (spRegular K C)) (c_gai : Cal P w K mg base CX0 1 "gain_in" ["curve", "other", "step"] (spGai K C))
    (c_gap : Cal P w K mg base CX0 1 "gaps_of" ["row", "other_row"] (spGap K)) (c_fir : Cal P w K mg base CX0 3 "first_values" ["curve", "many"] (spFirst K C))
    (c_fbe : Cal P w K mg base CX0 1 "first_below" ["row", "number"] (spFbe K)) (c_ahe : Cal P w K mg base CX0 4 "above_ahead" ["curve", "other"] (spAhe K C)) :
    FnOk P w K mg base (L2.CX P w) 5 f fd ["curve", "other"] (spTm K C CT) := by
  refine F.okX scFab (fun vs H Q E h => ?_) (fun cdv A outer s H vs Q E hr h => ?_)
  · obtain ⟨a, b, rfl, _⟩ := h
    rfl
  · obtain ⟨a, b, rfl, L, M, q, q', ka, kb, nL, nM, hl, k⟩ := h
    refine ⟨_, (C8.pss_cut (ps_expr (pe_callC c_two (hr.mono (by decide)) rfl (passX (E := E) (takes_of rfl rfl rfl rfl) fun _ _ _ _ h => h) (pa_cons (pv 0) (pa_cons (pv 1) pa_nil))))
 (C8.pss_cut (ps_if (PW.pt (pw_or (pt_val (pe_callC c_has (hr.mono (by decide)) rfl pass0 (pa_cons (pv 0) pa_nil))) (pw_or1 (pt_val (pe_callC c_has (hr.mono (by decide)) rfl pass0 (pa_cons (pv 1) pa_nil)))))) (pss_one
 (ps_ret (pe_callC c_ahe (hr.mono (by decide)) rfl pass0 (pa_cons (pv 0) (pa_cons (pv 1) pa_nil))))) pss_nil)
 (C8.pss_cut (ps_set (i := 2) scFab.nd rfl (Or.inl rfl) (pe_callC c_per (hr.mono (by decide)) rfl (passX (E := E) (takes_of rfl rfl rfl rfl) fun _ _ _ _ h => h) (pa_cons (pv 0) (pa_cons (pv 1) pa_nil))))
 (C8.pss_cut (ps_set (i := 3) scFab.nd rfl (Or.inl rfl) (pe_callB (call_max2 rfl) (by rfl) nmax (by decide +kernel) (pa_cons (pe_callC c_reg (hr.mono (by decide)) rfl pass0 (pa_cons (pv 0) pa_nil)) (pa_cons (pe_callC c_reg (hr.mono (by decide)) rfl pass0 (pa_cons (pv 1) pa_nil)) pa_nil))))
 (C8.pss_cut (ps_set (i := 4) scFab.nd rfl (Or.inl rfl) (pe_callC c_gap (hr.mono (by decide)) rfl pass0 (pa_cons (pe_callC c_fir (hr.mono (by decide)) rfl pass0 (pa_cons (pv 1) (pa_cons (pe_op op_add (pv 3) (pv 2)) pa_nil))) (pa_cons (pe_callC c_fir (hr.mono (by decide)) rfl pass0 (pa_cons (pv 0) (pa_cons (pe_op op_add (pv 3) (pv 2)) pa_nil))) pa_nil))))
 (C8.pss_cut (ps_set (i := 5) scFab.nd rfl (Or.inl rfl) (pe_callC c_gai (hr.mono (by decide)) rfl pass0 (pa_cons (pv 0) (pa_cons (pv 1) (pa_cons (pv 2) pa_nil)))))
 (C8.pss_cut (ps_if (pt_cmpR op_lt (pe_callB (cr_min rfl) (by rfl) T.min (by decide +kernel) (pa_cons (pv 4) pa_nil)) pe_int (nomark _)) (pss_one
 (ps_ret (pe_callC c_fbe (hr.mono (by decide)) rfl pass0 (pa_cons (pv 4) (pa_cons pe_int pa_nil))))) pss_nil)
 (C8.pss_cut (ps_if (pt_cmpR op_le (pv 5) pe_int (nomark _)) (pss_one
 (ps_ret pe_non)) pss_nil)
 (C8.pss_cut (ps_set (i := 6) scFab.nd rfl (Or.inl rfl) (pe_slice sl_list (pv 4) (po_some (pv 3)) po_none))
 (C8.pss_cut (ps_set (i := 7) scFab.nd rfl (Or.inl rfl) (pe_op op_add (pe_op op_fdivW (pe_callB (cr_min rfl) (by rfl) T.min (by decide +kernel) (pa_cons (pv 6) pa_nil)) (pv 5)) pe_int))
 (pss_one
 (ps_ret (pe_op op_add (pe_op op_add (pv 3) (pe_callC c_fbe (hr.mono (by decide)) rfl pass0 (pa_cons (pv 6) (pa_cons (pe_op op_mul (pv 7) (pv 5)) pa_nil)))) (pe_op op_mul (pv 7) (pv 2))))))))))))))), ?_⟩
    obtain ⟨v, r, cx, fx, CMx, lx⟩ := id ka
    obtain ⟨v', r', cy, fy, CMy, ly⟩ := id kb
    have px := fx.len
    have py := fy.len
    obtain ⟨lv, gv, ev⟩ := last_ne fx nL
    obtain ⟨lw, gw, ew⟩ := last_ne fy nM
    refine ⟨fun σ H' => σ = L2.start nFab [.ref a, .ref b] ∧ H' = H, ⟨_, rfl, _, rfl, _, _, rfl, .inl ⟨a, b, rfl, rfl, ka.has, kb.has, rfl, rfl⟩⟩, ?_⟩
    rintro σ H ⟨rfl, rfl⟩
    refine ⟨fun σ H' => σ = L2.start nFab [.ref a, .ref b] ∧ H' = H, ?_, ?_⟩
    · exact ⟨_, rfl, a, v, _, _, lv, rfl, cx, gv, false, bF ev, iteF ⟨_, rfl, b, v', _, _, lw, rfl, cy, gw, false, bF ew, iteF ⟨rfl, rfl⟩⟩⟩
    rintro σ H ⟨rfl, rfl⟩
    exact ⟨fun _ _ => False, ⟨_, rfl, _, rfl, a, b, v, v', q, q', r, r', rfl, cx, cy, by omega, by omega, fun z => absurd z (by omega), fun _ => k⟩, fun _ _ z => z.elim⟩
theorem ok_isbT {f C CB CT : Addr} {fd : FuncData} (F : Fun K "is_below" "is_below" sIsb f fd) (c_fab : Cal P w K mg base (L2.CX P w) 5 "first_above" ["curve", "other"] (spTm K C CT)) :
    FnOk P w K mg base (L2.CX P w) 6 f fd ["curve", "other"] (spTm K C CT) := by
  refine F.okX scIsb (fun vs H Q E h => ?_) (fun cdv A outer s H vs Q E hr h => ?_)
  · obtain ⟨a, b, rfl, _⟩ := h
    rfl
  · obtain ⟨a, b, rfl, L, M, q, q', ka, kb, nL, nM, hl, k⟩ := h
    refine ⟨_, (pss_one
 (ps_ret (pe_cmpR op_isN (pe_callC c_fab (hr.mono (by decide)) rfl (passX (E := E) (takes_of rfl rfl rfl rfl) fun _ _ _ _ h => h) (pa_cons (pv 0) (pa_cons (pv 1) pa_nil))) pe_non (nomark _)))), ?_⟩
    exact ⟨_, rfl, _, rfl, a, b, rfl, L, M, q, q', ka, kb, nL, nM, hl, k⟩
def spJnuT (K : PySem.W.Frag) (C CT : Addr) : Sp := fun vs H Q E => ∃ (jf a b : Addr) (least : V), vs = [.ref jf, .ref a, .ref b, least] ∧ FarTwo CT C H a b E
theorem ok_jnuT {f C CT fI fE : Addr} {fd : FuncData} {S : Addr → Option Sp} (F : Fun K "joined_numbers" "joined_numbers" sJnu f fd) (T : CurG mg) (U : CurT K mg C fI fE) (nmax : mg "max" = none)
    (c_per : Cal P w K mg base (L2.CX P w) 3 "common_period" ["curve", "other"] (spPer K C CT)) (c_gai : Cal P w K mg base CX0 1 "gain_in" ["curve", "other", "step"] (spGai K C)) (c_reg : Cal P w K mg base CX0 1 "regular_from" ["curve"] (spRegular K C))
    (c_jby : Cal P w K mg base (L2.CX P w) 7 "joined_by" nJby (spJbyW K C CT S)) (c_set : Cal P w K mg base (L2.CX P w) 5 "settled" ["curve", "other", "least"] (spSetW K C CT)) :
    FnOk P w K mg base (L2.CX P w) 8 f fd ["joined_row", "curve", "other", "least"] (spJnuT K C CT) := by
  refine F.okX scJnu (fun vs H Q E h => ?_) (fun cdv A outer s H vs Q E hr h => ?_)
  · obtain ⟨jf, a, b, least, rfl, _⟩ := h
    rfl
  · obtain ⟨jf, a, b, least, rfl, L, M, q, q', ka, kb, nL, nM, hl, k⟩ := h
    refine ⟨_, (C8.pss_cut (ps_set (i := 4) scJnu.nd rfl (Or.inl rfl) (pe_callC c_per (hr.mono (by decide)) rfl (passX (E := E) (takes_of rfl rfl rfl rfl) fun _ _ _ _ h => h) (pa_cons (pv 1) (pa_cons (pv 2) pa_nil))))
 (C8.pss_cut (ps_if (pt_cmpR op_eq (pe_callC c_gai (hr.mono (by decide)) rfl pass0 (pa_cons (pv 1) (pa_cons (pv 2) (pa_cons (pv 4) pa_nil)))) pe_int (nomark _)) (C8.pss_cut (ps_set (i := 5) scJnu.nd rfl (Or.inl rfl) (pe_callB (call_max2 rfl) (by rfl) nmax (by decide +kernel) (pa_cons (pe_callC c_reg (hr.mono (by decide)) rfl pass0 (pa_cons (pv 1) pa_nil)) (pa_cons (pe_callC c_reg (hr.mono (by decide)) rfl pass0 (pa_cons (pv 2) pa_nil)) pa_nil))))
 (C8.pss_cut (ps_set (i := 6) scJnu.nd rfl (Or.inl rfl) (pe_op op_mul (pe_op op_fdivN (pv 4) (pe_fld (pv 1) rfl)) (pe_fld (pv 1) rfl)))
 (pss_one
 (ps_ret (pe_callC c_jby (hr.mono (by decide)) rfl (passX (E := E) (takes_of rfl rfl rfl rfl) fun _ _ _ _ h => h) (pa_cons (pv 0) (pa_cons (pv 1) (pa_cons (pv 2) (pa_cons (pe_op op_add (pv 5) (pv 4)) (pa_cons (pv 4) (pa_cons (pv 6) pa_nil))))))))))) pss_nil)
 (C8.pss_cut (ps_asg (pe_callC c_set (hr.mono (by decide)) rfl (passX (E := E) (takes_of rfl rfl rfl rfl) fun _ _ _ _ h => h) (pa_cons (pv 1) (pa_cons (pv 2) (pa_cons (pv 3) pa_nil)))) (pg_tup rfl (pgs_cons (pg_name (i := 5) scJnu.nd rfl (Or.inl rfl)) (pgs_cons (pg_name (i := 7) scJnu.nd rfl (Or.inl rfl)) pgs_nil))))
 (pss_one
 (ps_ret (pe_callC c_jby (hr.mono (by decide)) rfl (passX (E := E) (takes_of rfl rfl rfl rfl) fun _ _ _ _ h => h) (pa_cons (pv 0) (pa_cons (pv 1) (pa_cons (pv 2) (pa_cons (pe_op op_add (pv 5) (pe_fld (pv 7) rfl)) (pa_cons (pe_fld (pv 7) rfl) (pa_cons (pe_fld (pv 7) rfl) pa_nil)))))))))))), ?_⟩
    obtain ⟨v, r, cx, fx, CMx, lx⟩ := id ka
    obtain ⟨v', r', cy, fy, CMy, ly⟩ := id kb
    have px := fx.len
    have py := fy.len
    exact ⟨fun _ _ => False, ⟨_, rfl, _, rfl, a, b, v, v', q, q', r, r', rfl, cx, cy, by omega, by omega, fun z => absurd z (by omega), fun _ => k⟩, fun _ _ z => z.elim⟩
theorem ok_lofT {f fLes fI fE C CB CT : Addr} {fd : FuncData} {S : Addr → Option Sp} (F : Fun K "least_of" "least_of" sLof f fd) (T : CurG mg) (U : CurT K mg C fI fE) (nmax : mg "max" = none) (m_les : mg "lesser_row" = some (.ref fLes)) (hS : S fLes = some (spRowJ K (hm true)))
    (c_two : Cal P w K mg base (L2.CX P w) 4 "need_two" ["curve", "other"] (spTwo K C CB)) (c_has : Cal P w K mg base CX0 1 "has_none" ["curve"] (spHas K C)) (c_sho : Cal P w K mg base CX0 2 "shorter_end" ["curve", "other"] (spSho K C)) (c_cat : Cal P w K mg base CX0 2 "at" ["curve", "beat"] (spCat K C))
    (c_fir : Cal P w K mg base CX0 3 "first_values" ["curve", "many"] (spFirst K C)) (c_made : Cal P w K mg base (L2.CX P w) 6 "made" ["row", "period", "growth"] (spMadeC K C CT))
    (c_les : Cal P w K mg base CX0 1 "lesser_row" ["row", "other_row"] (spRowJ K fun i j => if i < j then i else j)) (c_jnu : Cal P w K mg base (L2.CX P w) 8 "joined_numbers" ["joined_row", "curve", "other", "least"] (spJnuT K C CT)) :
    FnOk P w K mg base (L2.CX P w) 9 f fd ["curve", "other"] (spTm K C CT) := by
  refine F.okX scLof (fun vs H Q E h => ?_) (fun cdv A outer s H vs Q E hr h => ?_)
  · obtain ⟨a, b, rfl, _⟩ := h
    rfl
  · obtain ⟨a, b, rfl, L, M, q, q', ka, kb, nL, nM, hl, k⟩ := h
    refine ⟨_, (C8.pss_cut (ps_expr (pe_callC c_two (hr.mono (by decide)) rfl (passX (E := E) (takes_of rfl rfl rfl rfl) fun _ _ _ _ h => h) (pa_cons (pv 0) (pa_cons (pv 1) pa_nil))))
 (C8.pss_cut (ps_if (PW.pt (pw_and (pt_not (pt_val (pe_callC c_has (hr.mono (by decide)) rfl pass0 (pa_cons (pv 0) pa_nil)))) (pw_and1 (pt_not (pt_val (pe_callC c_has (hr.mono (by decide)) rfl pass0 (pa_cons (pv 1) pa_nil))))))) (pss_one
 (ps_ret (pe_callC c_jnu (hr.mono (by decide)) rfl (passX (E := E) (takes_of rfl rfl rfl rfl) fun _ _ _ _ h => h) (pa_cons (pe_glob (v := .ref fLes) rfl m_les rfl) (pa_cons (pv 0) (pa_cons (pv 1) (pa_cons pe_bl pa_nil))))))) pss_nil)
 (C8.pss_cut (ps_set (i := 2) scLof.nd rfl (Or.inl rfl) (pe_callC c_sho (hr.mono (by decide)) rfl pass0 (pa_cons (pv 0) (pa_cons (pv 1) pa_nil))))
 (C8.pss_cut (ps_set (i := 3) scLof.nd rfl (Or.inl rfl) (pe_ifExp (pt_cmpR op_isN (pe_callC c_cat (hr.mono (by decide)) rfl pass0 (pa_cons (pv 0) (pa_cons (pv 2) pa_nil))) pe_non (nomark _)) (pv 1) (pv 0)))
 (C8.pss_cut (ps_set (i := 4) scLof.nd rfl (Or.inl rfl) (pe_callC c_les (hr.mono (by decide)) rfl pass0 (pa_cons (pe_callC c_fir (hr.mono (by decide)) rfl pass0 (pa_cons (pv 0) (pa_cons (pv 2) pa_nil))) (pa_cons (pe_callC c_fir (hr.mono (by decide)) rfl pass0 (pa_cons (pv 1) (pa_cons (pv 2) pa_nil))) pa_nil))))
 (C8.pss_cut (ps_set (i := 5) scLof.nd rfl (Or.inl rfl) (pe_callB (call_max2 rfl) (by rfl) nmax (by decide +kernel) (pa_cons (pe_op op_add (pv 2) (pe_fld (pv 3) rfl)) (pa_cons (pe_callB call_len_seq (by rfl) T.len PySem.boot_len (pa_cons (pe_fld (pv 3) rfl) pa_nil)) pa_nil))))
 (pss_one
 (ps_ret (pe_callC c_made (hr.mono (by decide)) rfl (passX (E := E) (takes_of rfl rfl rfl rfl) fun _ _ _ _ h => h) (pa_cons (pe_op op_cat (pv 4) (pe_slice sl_list (pe_callC c_fir (hr.mono (by decide)) rfl pass0 (pa_cons (pv 3) (pa_cons (pv 5) pa_nil))) (po_some (pv 2)) po_none)) (pa_cons (pe_fld (pv 3) rfl) (pa_cons (pe_fld (pv 3) rfl) pa_nil)))))))))))), ?_⟩
    obtain ⟨v, r, cx, fx, CMx, lx⟩ := id ka
    obtain ⟨v', r', cy, fy, CMy, ly⟩ := id kb
    obtain ⟨lv, gv, ev⟩ := last_ne fx nL
    obtain ⟨lw, gw, ew⟩ := last_ne fy nM
    refine ⟨fun σ H' => σ = L2.start nLof [.ref a, .ref b] ∧ H' = H, ⟨_, rfl, _, rfl, _, _, rfl, .inl ⟨a, b, rfl, rfl, ka.has, kb.has, rfl, rfl⟩⟩, ?_⟩
    rintro σ H ⟨rfl, rfl⟩
    refine ⟨fun _ _ => False, ?_, fun _ _ z => z.elim⟩
    exact ⟨_, rfl, a, v, _, _, lv, rfl, cx, gv, false, bF ev, iteT ⟨_, rfl, b, v', _, _, lw, rfl, cy, gw, false, bF ew, iteT ⟨_, rfl, _, rfl, fLes, a, b, _, rfl, L, M, q, q', ka, kb, nL, nM, hl, k⟩⟩⟩
theorem ok_mofT {f fGre C CB CT : Addr} {fd : FuncData} {S : Addr → Option Sp} (F : Fun K "most_of" "most_of" sMof f fd) (m_gre : mg "greater_row" = some (.ref fGre)) (hS : S fGre = some (spRowJ K (hm false)))
    (c_two : Cal P w K mg base (L2.CX P w) 4 "need_two" ["curve", "other"] (spTwo K C CB)) (c_has : Cal P w K mg base CX0 1 "has_none" ["curve"] (spHas K C))
    (c_jen : Cal P w K mg base (L2.CX P w) 7 "joined_ends" ["joined_row", "curve", "other"] (spJenW K C S)) (c_jnu : Cal P w K mg base (L2.CX P w) 8 "joined_numbers" ["joined_row", "curve", "other", "least"] (spJnuT K C CT)) :
    FnOk P w K mg base (L2.CX P w) 9 f fd nMof (spTm K C CT) := by
  refine F.okX scMof (fun vs H Q E h => ?_) (fun cdv A outer s H vs Q E hr h => ?_)
  · obtain ⟨a, b, rfl, _⟩ := h
    rfl
  · obtain ⟨a, b, rfl, L, M, q, q', ka, kb, nL, nM, hl, k⟩ := h
    refine ⟨_, (C8.pss_cut (ps_expr (pe_callC c_two (hr.mono (by decide)) rfl (passX (E := E) (takes_of rfl rfl rfl rfl) fun _ _ _ _ h => h) (pa_cons (pv 0) (pa_cons (pv 1) pa_nil))))
 (C8.pss_cut (ps_if (PW.pt (pw_or (pt_val (pe_callC c_has (hr.mono (by decide)) rfl pass0 (pa_cons (pv 0) pa_nil))) (pw_or1 (pt_val (pe_callC c_has (hr.mono (by decide)) rfl pass0 (pa_cons (pv 1) pa_nil)))))) (pss_one
 (ps_ret (pe_callC c_jen (hr.mono (by decide)) rfl (passX (E := E) (takes_of rfl rfl rfl rfl) fun _ _ _ _ h => h) (pa_cons (pe_glob (v := .ref fGre) rfl m_gre rfl) (pa_cons (pv 0) (pa_cons (pv 1) pa_nil)))))) pss_nil)
 (pss_one
 (ps_ret (pe_callC c_jnu (hr.mono (by decide)) rfl (passX (E := E) (takes_of rfl rfl rfl rfl) fun _ _ _ _ h => h) (pa_cons (pe_glob (v := .ref fGre) rfl m_gre rfl) (pa_cons (pv 0) (pa_cons (pv 1) (pa_cons pe_bl pa_nil))))))))), ?_⟩
    obtain ⟨v, r, cx, fx, CMx, lx⟩ := id ka
    obtain ⟨v', r', cy, fy, CMy, ly⟩ := id kb
    obtain ⟨lv, gv, ev⟩ := last_ne fx nL
    obtain ⟨lw, gw, ew⟩ := last_ne fy nM
    refine ⟨fun σ H' => σ = L2.start nMof [.ref a, .ref b] ∧ H' = H, ⟨_, rfl, _, rfl, _, _, rfl, .inl ⟨a, b, rfl, rfl, ka.has, kb.has, rfl, rfl⟩⟩, ?_⟩
    rintro σ H ⟨rfl, rfl⟩
    refine ⟨fun σ H' => σ = L2.start nMof [.ref a, .ref b] ∧ H' = H, ?_, ?_⟩
    · exact ⟨_, rfl, a, v, _, _, lv, rfl, cx, gv, false, bF ev, iteF ⟨_, rfl, b, v', _, _, lw, rfl, cy, gw, false, bF ew, iteF ⟨rfl, rfl⟩⟩⟩
    rintro σ H ⟨rfl, rfl⟩
    exact ⟨_, rfl, _, rfl, fGre, a, b, _, rfl, L, M, q, q', ka, kb, nL, nM, hl, k⟩
def spSumX (K : PySem.W.Frag) (C CT : Addr) : Sp := fun vs H Q E => ∃ (a b : Addr) (L M : Nat → V) (q q' : Nat), vs = [.ref a, .ref b] ∧ KCn 4000 H C a L q ∧ KCn 4000 H C b M q' ∧ (∀ j, L j ≠ .non) ∧ (∀ j, M j ≠ .non) ∧
  (Nat.lcm q q' ≤ 4000 → HandJ C CT (fun j => joinV (fun i k => i + k) (L j) (M j)) H Q E) ∧ (4000 < Nat.lcm q q' → ∀ d H', Raised H "most" (.int 4000) d H' → E (.ref CT) (some d) H')
theorem ok_sumX {f fAdd fI fE C CB CT : Addr} {fd : FuncData} {S : Addr → Option Sp} (F : Fun K "sum_of" "sum_of" sSum f fd) (U : CurT K mg C fI fE) (nmax : mg "max" = none) (m_add : mg "added_row" = some (.ref fAdd)) (hS : S fAdd = some (spRowJ K fun i k => i + k))
    (c_two : Cal P w K mg base (L2.CX P w) 4 "need_two" ["curve", "other"] (spTwo K C CB)) (c_has : Cal P w K mg base CX0 1 "has_none" ["curve"] (spHas K C)) (c_per : Cal P w K mg base (L2.CX P w) 3 "common_period" ["curve", "other"] (spPer K C CT)) (c_reg : Cal P w K mg base CX0 1 "regular_from" ["curve"] (spRegular K C))
    (c_jen : Cal P w K mg base (L2.CX P w) 7 "joined_ends" ["joined_row", "curve", "other"] (spJenW K C S)) (c_jby : Cal P w K mg base (L2.CX P w) 7 "joined_by" nJby (spJbyW K C CT S)) :
    FnOk P w K mg base (L2.CX P w) 8 f fd ["curve", "other"] (spSumX K C CT) := by
  refine F.okX scSum (fun vs H Q E h => ?_) (fun cdv A outer s H vs Q E hr h => ?_)
  · obtain ⟨a, b, L, M, q, q', rfl, _⟩ := h
    rfl
  · obtain ⟨a, b, L, M, q, q', rfl, ka, kb, nL, nM, k1, k2⟩ := h
    refine ⟨_, (C8.pss_cut (ps_expr (pe_callC c_two (hr.mono (by decide)) rfl (passX (E := E) (takes_of rfl rfl rfl rfl) fun _ _ _ _ h => h) (pa_cons (pv 0) (pa_cons (pv 1) pa_nil))))
 (C8.pss_cut (ps_if (PW.pt (pw_or (pt_val (pe_callC c_has (hr.mono (by decide)) rfl pass0 (pa_cons (pv 0) pa_nil))) (pw_or1 (pt_val (pe_callC c_has (hr.mono (by decide)) rfl pass0 (pa_cons (pv 1) pa_nil)))))) (pss_one
 (ps_ret (pe_callC c_jen (hr.mono (by decide)) rfl (passX (E := E) (takes_of rfl rfl rfl rfl) fun _ _ _ _ h => h) (pa_cons (pe_glob (v := .ref fAdd) rfl m_add rfl) (pa_cons (pv 0) (pa_cons (pv 1) pa_nil)))))) pss_nil)
 (C8.pss_cut (ps_set (i := 2) scSum.nd rfl (Or.inl rfl) (pe_callC c_per (hr.mono (by decide)) rfl (passX (E := E) (takes_of rfl rfl rfl rfl) fun _ _ _ _ h => h) (pa_cons (pv 0) (pa_cons (pv 1) pa_nil))))
 (C8.pss_cut (ps_set (i := 3) scSum.nd rfl (Or.inl rfl) (pe_callB (call_max2 rfl) (by rfl) nmax (by decide +kernel) (pa_cons (pe_callC c_reg (hr.mono (by decide)) rfl pass0 (pa_cons (pv 0) pa_nil)) (pa_cons (pe_callC c_reg (hr.mono (by decide)) rfl pass0 (pa_cons (pv 1) pa_nil)) pa_nil))))
 (C8.pss_cut (ps_set (i := 4) scSum.nd rfl (Or.inl rfl) (pe_op op_add (pe_op op_mul (pe_op op_fdivN (pv 2) (pe_fld (pv 0) rfl)) (pe_fld (pv 0) rfl)) (pe_op op_mul (pe_op op_fdivN (pv 2) (pe_fld (pv 1) rfl)) (pe_fld (pv 1) rfl))))
 (pss_one
 (ps_ret (pe_callC c_jby (hr.mono (by decide)) rfl (passX (E := E) (takes_of rfl rfl rfl rfl) fun _ _ _ _ h => h) (pa_cons (pe_glob (v := .ref fAdd) rfl m_add rfl) (pa_cons (pv 0) (pa_cons (pv 1) (pa_cons (pe_op op_add (pv 3) (pv 2)) (pa_cons (pv 2) (pa_cons (pv 4) pa_nil)))))))))))))), ?_⟩
    refine ⟨fun σ H' => σ = [some (.ref a), some (.ref b), none, none, none] ∧ H' = H, ⟨_, rfl, _, rfl, _, _, rfl, .inl ⟨a, b, rfl, rfl, ka.has, kb.has, rfl, rfl⟩⟩, ?_⟩
    rintro σ H0 ⟨rfl, rfl⟩
    obtain ⟨v, r, cx, fx, CMx, lx⟩ := id ka
    obtain ⟨v', r', cy, fy, CMy, ly⟩ := id kb
    have px := fx.len
    have py := fy.len
    obtain ⟨lv, gv, ev⟩ := last_ne fx nL
    obtain ⟨lw, gw, ew⟩ := last_ne fy nM
    refine ⟨fun σ H' => σ = [some (.ref a), some (.ref b), none, none, none] ∧ H' = H0, ?_, ?_⟩
    · exact ⟨_, rfl, a, v, _, _, lv, rfl, cx, gv, false, bF ev, iteF ⟨_, rfl, b, v', _, _, lw, rfl, cy, gw, false, bF ew, iteF ⟨rfl, rfl⟩⟩⟩
    rintro σ H1 ⟨rfl, rfl⟩
    obtain ⟨b1, lb1, Q1⟩ : ∃ b, v.length = b + q ∧ MF.QP (fun j => ival (L j)) q r b := by
      rcases fx.cases' with ⟨f, b, e, hf, rfl⟩ | ⟨s, e, _⟩
      · refine ⟨b, by rw [List.length_map, List.length_range], fun j hj => ?_⟩
        show ival (L (j + q)) = ival (L j) + r
        rw [e, e]
        exact hf.qp j hj
      · exact absurd (by rw [e]; exact fn_high (Nat.le_refl _)) (nL s.length)
    obtain ⟨b2, lb2, Q2⟩ : ∃ b, v'.length = b + q' ∧ MF.QP (fun j => ival (M j)) q' r' b := by
      rcases fy.cases' with ⟨f, b, e, hf, rfl⟩ | ⟨s, e, _⟩
      · refine ⟨b, by rw [List.length_map, List.length_range], fun j hj => ?_⟩
        show ival (M (j + q')) = ival (M j) + r'
        rw [e, e]
        exact hf.qp j hj
      · exact absurd (by rw [e]; exact fn_high (Nat.le_refl _)) (nM s.length)
    have S0 : 0 < Nat.lcm q q' := Nat.lcm_pos px.1 py.1
    have dq : Nat.lcm q q' / q * q = Nat.lcm q q' := Nat.div_mul_cancel (Nat.dvd_lcm_left q q')
    have dq' : Nat.lcm q q' / q' * q' = Nat.lcm q q' := Nat.div_mul_cancel (Nat.dvd_lcm_right q q')
    have Q1 := (Q1.up (Nat.lcm q q' / q)).to (Nat.le_max_left b1 b2)
    have Q2 := (Q2.up (Nat.lcm q q' / q')).to (Nat.le_max_right b1 b2)
    rw [dq] at Q1
    rw [dq'] at Q2
    by_cases hl : Nat.lcm q q' ≤ 4000
    rotate_left
    · exact ⟨fun _ _ => False, ⟨_, rfl, _, rfl, a, b, v, v', q, q', r, r', rfl, cx, cy, by omega, by omega, fun z => absurd z hl, fun z => k2 z⟩, fun _ _ z => z.elim⟩
    have k := k1 hl
    have B4 : max b1 b2 ≤ 4000 := by omega
    refine ⟨fun σ H' => σ = [some (.ref a), some (.ref b), some (.int (Nat.lcm q q' : Nat)), none, none] ∧ H' = H1, ⟨_, rfl, _, rfl, a, b, v, v', q, q', r, r', rfl, cx, cy, by omega, by omega, fun _ => ⟨rfl, rfl⟩, fun z => absurd z (by omega)⟩, ?_⟩
    rintro σ H2 ⟨rfl, rfl⟩
    generalize hSS : Nat.lcm q q' = SS at *
    refine ⟨fun σ H' => σ = [some (.ref a), some (.ref b), some (.int SS), some (.int (max b1 b2 : Nat)), none] ∧ H' = H2, ?_, ?_⟩
    · refine ⟨_, rfl, a, v, q, r, rfl, cx, px.2, _, rfl, b, v', q', r', rfl, cy, py.2, _, _, rfl, ?_, rfl⟩
      rw [lb1, lb2, Nat.add_sub_cancel, Nat.add_sub_cancel]
      show [_, _, _, some (V.int (if (b2 : Int) > (b1 : Int) then (b2 : Int) else (b1 : Int))), _] = _
      rw [show (if (b2 : Int) > (b1 : Int) then (b2 : Int) else (b1 : Int)) = ((max b1 b2 : Nat) : Int) by split <;> omega]
    rintro σ H3 ⟨rfl, rfl⟩
    generalize max b1 b2 = B at *
    obtain ⟨dx, tx, x1, x2⟩ := id cx
    obtain ⟨dy, ty, y1, y2⟩ := id cy
    have fe : ∀ q : Nat, Int.fdiv (SS : Int) (q : Int) = ((SS / q : Nat) : Int) := fun q => by
      rw [Int.fdiv_eq_ediv_of_nonneg _ (by omega)]
      rfl
    have u1 : SS / q ≤ 4000 := Nat.le_trans (Nat.div_le_self _ _) (by omega)
    have u2 : SS / q' ≤ 4000 := Nat.le_trans (Nat.div_le_self _ _) (by omega)
    have g1 : ((SS / q : Nat) : Int) * r ≤ 4000 * 2 ^ 30 := Int.mul_le_mul (by omega) (by have := CMx.g1; omega) CMx.g0 (by decide)
    have g2 : ((SS / q' : Nat) : Int) * r' ≤ 4000 * 2 ^ 30 := Int.mul_le_mul (by omega) (by have := CMy.g1; omega) CMy.g0 (by decide)
    have g3 : 0 ≤ ((SS / q : Nat) : Int) * r := Int.mul_nonneg (Int.natCast_nonneg _) CMx.g0
    have g4 : 0 ≤ ((SS / q' : Nat) : Int) * r' := Int.mul_nonneg (Int.natCast_nonneg _) CMy.g0
    have r0 := CMx.g0
    have r1 := CMx.g1
    have r0' := CMy.g0
    have r1' := CMy.g1
    refine ⟨fun σ H' => σ = [some (.ref a), some (.ref b), some (.int SS), some (.int B), some (.int (((SS / q : Nat) : Int) * r + ((SS / q' : Nat) : Int) * r'))] ∧ H' = H3, ?_, ?_⟩
    · refine ⟨_, rfl, _, rfl, a, C, dx, _, .int q, rfl, x1, U.cl, U.nP, rfl, _, _, rfl, rfl, ⟨by omega, by omega⟩, _, rfl, a, C, dx, _, .int r, rfl, x1, U.cl, U.nG, rfl, _, _, rfl, rfl, .inr ⟨by omega, by omega⟩, _, rfl, _, rfl, b, C, dy, _, .int q', rfl, y1, U.cl, U.nP, rfl, _, _, rfl, rfl, ⟨by omega, by omega⟩, _, rfl, b, C, dy, _, .int r', rfl, y1, U.cl, U.nG, rfl, _, _, rfl, rfl, .inr ⟨by omega, by omega⟩, _, _, rfl, rfl, ?_, rfl⟩
      show [_, _, _, _, some (V.int (Int.fdiv (SS : Int) (q : Int) * r + Int.fdiv (SS : Int) (q' : Int) * r'))] = _
      rw [fe, fe]
    rintro σ H4 ⟨rfl, rfl⟩
    refine ⟨_, rfl, _, rfl, _, rfl, _, rfl, _, _, rfl, rfl, _, rfl, _, rfl, fAdd, a, b, _, L, M, q, q', B + SS, SS, _, rfl, hS, ka.kcur, kb.kcur, nL, nM, S0, by omega, by omega, by omega, by omega, by omega, ?_, k⟩
    rw [Nat.add_sub_cancel]
    intro j hj
    have a1 := Q1 j hj
    have a2 := Q2 j hj
    show ival (L (j + SS)) + ival (M (j + SS)) = ival (L j) + ival (M j) + _
    have a1 : ival (L (j + SS)) = ival (L j) + ((SS / q : Nat) : Int) * r := a1
    have a2 : ival (M (j + SS)) = ival (M j) + ((SS / q' : Nat) : Int) * r' := a2
    omega
def spLatX (K : PySem.W.Frag) (C CT : Addr) : Sp := fun vs H Q E => ∃ (a : Addr) (L : Nat → V) (q b : Nat), vs = [.ref a, .int b] ∧ KCn 4000 H C a L q ∧ b ≤ 4000 ∧ HandJ C CT (latV L b) H Q E
theorem ok_latX {f fI fE C CB CN CT : Addr} {fd : FuncData} (F : Fun K "later" "later" sLat f fd) (T : CurG mg) (U : CurT K mg C fI fE) (MM : ∃ t, mg "MOST_MADE" = some (.int 4000 t))
    (c_ncu : Cal P w K mg base (L2.CX P w) 3 "need_curve" ["thing"] (spNeedCur K C CB)) (c_nnm : Cal P w K mg base (L2.CX P w) 4 "need_number" ["thing", "low", "high", "part"] (spNeedNum K CN)) (c_made : Cal P w K mg base (L2.CX P w) 6 "made" ["row", "period", "growth"] (spMadeC K C CT)) :
    FnOk P w K mg base (L2.CX P w) 7 f fd nLat (spLatX K C CT) := by
  refine F.okX scLat (fun vs H Q E h => ?_) (fun cdv A outer s H vs Q E hr h => ?_)
  · obtain ⟨a, L, q, b, rfl, _⟩ := h
    rfl
  · obtain ⟨a, L, q, b, rfl, ⟨v, r, cx, fx, CMx, lx⟩, hb, k⟩ := h
    obtain ⟨tmm, mMOST_MADE⟩ := MM
    refine ⟨_, (pss_cons (ps_expr (pe_callC c_ncu (hr.mono (by decide)) rfl (passX (E := E) (takes_of rfl rfl rfl rfl) fun _ _ _ _ h => h) (pa_cons (pv 0) pa_nil)))
 (pss_cons (ps_expr (pe_callC c_nnm (hr.mono (by decide)) rfl (passX (E := E) (takes_of rfl rfl rfl rfl) fun _ _ _ _ h => h) (pa_cons (pv 1) (pa_cons pe_int (pa_cons (pe_glob (v := .int 4000) rfl mMOST_MADE ⟨_, rfl⟩) (pa_cons pe_str pa_nil))))))
 (pss_one
 (ps_ret (pe_callC c_made (hr.mono (by decide)) rfl (passX (E := E) (takes_of rfl rfl rfl rfl) fun _ _ _ _ h => h) (pa_cons (pe_op op_cat (pe_op op_rep (pe_lst (pa_cons pe_int pa_nil)) (pv 1)) (pe_callTy call_list_of (by rfl) T.list (by decide +kernel) (pa_cons (pe_fld (pv 0) rfl) pa_nil))) (pa_cons (pe_fld (pv 0) rfl) (pa_cons (pe_fld (pv 0) rfl) pa_nil)))))))), ?_⟩
    have px := fx.len
    obtain ⟨dx, t, x1, x2⟩ := id cx
    refine ⟨_, rfl, _, rfl, .inl ⟨a, v, q, r, rfl, cx, _, rfl, _, _, _, _, rfl, .inl ⟨b, rfl, by omega, by omega, ?_⟩⟩⟩
    refine ⟨(by show 1 ≤ sizeLine; decide), fun u hu => ?_⟩
    generalize g2 : upd H u _ = H2
    obtain ⟨s2, f2⟩ := alloc g2 hu
    refine ⟨_, rfl, u, b, [.int 0], rfl, rfl, f2, by omega, by omega, (by show 1 * _ ≤ sizeLine; exact line_le (by omega)), fun z1 hz1 => ?_⟩
    generalize g3 : upd H2 z1 _ = H3
    obtain ⟨s3, f3⟩ := alloc g3 hz1
    have s13 := Same.trans s2 s3
    refine ⟨_, rfl, a, C, dx, _, .ref t, rfl, s13 _ _ x1, U.cl, U.nS, rfl, t, v, rfl, .inr (SqT.of (s13 _ _ x2)), fun z2 hz2 => ?_⟩
    generalize g4 : upd H3 z2 _ = H4
    obtain ⟨s4, f4⟩ := alloc g4 hz2
    have fl : ∀ m, (List.replicate m [V.int 0]).flatten = List.replicate m (V.int 0) := fun m => by
      induction m with
      | zero => rfl
      | succ m ih => rw [List.replicate_succ, List.flatten_cons, ih, List.replicate_succ]; rfl
    refine ⟨z1, z2, _, _, rfl, rfl, s4 _ _ f3, f4, (by rw [Int.toNat_natCast, fl, List.length_replicate]; exact line_le (by omega)), fun z3 hz3 => ?_⟩
    generalize g5 : upd H4 z3 _ = H5
    obtain ⟨s5, f5⟩ := alloc g5 hz3
    have sA : Same H H5 := Same.trans s13 (Same.trans s4 s5)
    have er : (List.replicate (b : Int).toNat [V.int 0]).flatten ++ v = (List.range (b + v.length)).map (latV L b) := by
      rw [Int.toNat_natCast, fl, List.range_add, List.map_append, List.map_map]
      congr 1
      · refine List.ext_getElem? fun i => ?_
        rw [List.getElem?_replicate, List.getElem?_map]
        by_cases c : i < b
        · rw [if_pos c, List.getElem?_range c]
          show _ = some (latV L b i)
          unfold latV
          rw [if_pos c]
        · rw [if_neg c, List.getElem?_eq_none (by rw [List.length_range]; omega)]
          rfl
      · refine Eq.trans fx.row (List.map_congr_left fun j _ => ?_)
        show L j = latV L b (b + j)
        unfold latV
        rw [if_neg (by omega), Nat.add_sub_cancel_left]
    rw [er] at f5
    have fr : FormIn ((List.range (b + v.length)).map (latV L b)) q r ∧ RowF ((List.range (b + v.length)).map (latV L b)) q r (latV L b) := by
      rcases num_or_end fx with ⟨c, lc, eL, Q1⟩ | ⟨_, _, t, lt, eL, eN⟩
      · refine int_row px.1 (by omega) (by omega) CMx.g0 (by have := CMx.g1; omega) (fun j => ?_) fun j hj => ?_
        · unfold latV
          split
          · rfl
          · exact eL _
        · show ival (latV L b (j + q)) = ival (latV L b j) + r
          unfold latV
          rw [if_neg (by omega), if_neg (by omega), show j + q - b = j - b + q by omega]
          exact Q1 _ (by omega)
      · refine ends_row (t := b + t) (fun j hj => ?_) (fun j hj => ?_) (by omega) (by omega)
        · unfold latV
          split
          · rfl
          · exact eL _ (by omega)
        · unfold latV
          rw [if_neg (by omega)]
          exact eN _ (by omega)
    obtain ⟨dy, ty, y1, y2⟩ := cx.same sA
    refine ⟨_, rfl, a, C, dy, _, .int q, rfl, y1, U.cl, U.nP, rfl, _, rfl, a, C, dy, _, .int r, rfl, y1, U.cl, U.nG, rfl, z3, _, q, r, rfl, f5, fr.1, fun vals q2 r2 z4 H9 fv l4 hz4 cu9 s9 => ?_, fun vals q2 r2 fv l4 => ?_⟩
    · obtain ⟨q3, rfl, fo⟩ := form_g fv fr.2
      exact k.1 vals q3 r2 z4 H9 fo l4 (sA.free hz4) cu9 (Same.trans sA s9)
    · obtain ⟨q3, rfl, fo⟩ := form_g fv fr.2
      exact fun d' H' rd => k.2 (fun v q r fg => by rw [(fg.uniq fo).1]; exact l4) d' H' (Raised.same sA rd)
end
end WW
end

section
set_option Elab.async false
set_option linter.all false
set_option maxRecDepth 100000
set_option maxHeartbeats 8000000
namespace WW
open PySem L2 WO WG RZ WQ WT
abbrev sLForm : Stmt := top 69
abbrev nLForm : List Str := ["row", "period_here", "growth_here", "part", "more", "size", "last", "item", "k"]
theorem scLForm : FnScope nLForm ["row", "period_here", "growth_here"] (defScope sLForm) := ⟨rfl, rfl, rfl, by decide +kernel, rfl, by decide +kernel, by decide +kernel⟩
def ones (m : Nat) : List Int := List.replicate m 1
theorem ones_snoc (m : Nat) : (ones m).map V.int ++ [.int 1] = (ones (m + 1)).map V.int := by
  unfold ones
  rw [List.replicate_succ', List.map_append]
  rfl
theorem ones_nil (m : Nat) : ones m = [] ↔ m = 0 := by
  unfold ones
  cases m with
  | zero => simp
  | succ m => simp [List.replicate_succ]
theorem lowForm {f : Nat → Int} {b p t n : Nat} {g R : Int} (hp : 0 < p) (QP : MF.QP f p g b) (ht : 0 < t) (htp : t ≤ p) (hA : MF.A f b p t) (hmin : ∀ u, 0 < u → u < t → ¬ MF.A f b p u) (hR : R = f (b + t) - f b)
    {c : Nat} (hn : b + p = n) (tc : t ≤ c) (cn : c ≤ n) (hP : ∀ j, c - t ≤ j → j < n - t → f (j + t) = f j + R) (hlow : c = t ∨ f (c - 1) ≠ f (c - 1 - t) + R) : MF.IsForm f t R (c - t) := by
  have ds := hA.dp ht htp QP.dp
  have q := ds.qp
  rw [← hR] at q
  refine ⟨ht, fun j hj => ?_, MF.least_of hp QP.dp ht htp hmin, ?_⟩
  · by_cases l : j < n - t
    · exact hP j hj l
    · exact q j (by omega)
  · rcases hlow with h | h
    · exact .inl (by omega)
    · by_cases e : c = t
      · exact .inl (by omega)
      · refine .inr ?_
        have e1 : c - t - 1 + t = c - 1 := by omega
        have e2 : c - t - 1 = c - 1 - t := by omega
        rw [e1, e2]
        exact h
section
variable {P : Program} {w : World} {K : PySem.W.Frag} {mg : Str → Option Value} {base : Heap}
theorem ok_lform {f : Addr} {fd : FuncData} (F : Fun K "_law_form" "_law_form" sLForm f fd) (T : CurG mg) :
    FnOk P w K mg base CX0 1 f fd ["row", "period_here", "growth_here"] (spForm K) := by
  refine F.ok scLForm (fun vs H Q E h => ?_) (fun cdv A outer s H vs Q E hr h => ?_)
  · obtain ⟨a, xs, p, g, rfl, _⟩ := h
    rfl
  · obtain ⟨a, xs, p, g, rfl, ha, h, k⟩ := h
    have hu := hr.units
    refine ⟨_, pss_cons (ps_if (pt_cmpR op_in_seq pe_non (pv 0) (by rfl))
        (pss_one (ps_ret (pe_tup (pa_cons (pe_callTy call_tuple_of (by rfl) T.tuple (by decide +kernel) (pa_cons (pe_slice sl_list (pv 0) po_none (po_some (pe_op op_add (pe_bm PySem.F.plainAttrs_list PySem.F.slot_list_index PySem.F.type_list_index mt_index (pv 0) (pa_cons pe_non pa_nil)) pe_int))) pa_nil)) (pa_cons pe_int (pa_cons pe_int pa_nil)))))) pss_nil)
      (pss_cons (ps_for PassesOwn.never rfl (pi_range2 (by rfl) T.range (pa_cons pe_int (pa_cons (pe_op op_add (pv 1) pe_int) pa_nil))) (pg_name (i := 3) scLForm.nd rfl (Or.inr rfl))
        (pss_one (ps_if (PW.pt (pw_and (pt_cmpR op_eq (pe_op op_modN (pv 1) (pv 3)) pe_int (nomark _)) (pw_and1 (pt_cmpR op_eq (pe_op op_modN (pe_op op_mul (pv 2) (pv 3)) (pv 1)) pe_int (nomark _)))))
          (C8.pss_cut (ps_asg (pe_tup (pa_cons (pe_op op_fdivN (pe_op op_mul (pv 2) (pv 3)) (pv 1)) (pa_cons (pe_callB call_len_seq (by rfl) T.len PySem.boot_len (pa_cons (pv 0) pa_nil)) pa_nil))) (pg_tup rfl (pgs_cons (pg_name (i := 4) scLForm.nd rfl (Or.inr rfl)) (pgs_cons (pg_name (i := 5) scLForm.nd rfl (Or.inl rfl)) pgs_nil))))
          (C8.pss_cut (ps_set (i := 6) scLForm.nd rfl (Or.inr rfl) (pe_op op_cat (pe_slice sl_list (pv 0) (po_some (pe_op op_sub (pv 5) (pv 1))) po_none)
              (pe_lc (own := [("item", 7)]) (g := gName 7) (tt := tYes) rfl scLForm.nd (pi_list (pe_slice sl_list (pv 0) (po_some (pe_op op_sub (pv 5) (pv 1))) po_none)) (blkOk_by (N := nLForm) (sc := defScope sLForm) (by decide +kernel)) (fun _ _ _ _ _ => pg_name (i := 7) scLForm.nd rfl (Or.inl rfl)) (fun _ _ _ _ _ => pts_nil)
                (fun _ _ _ _ _ => pe_op op_add (pv 7) (pv 2)))))
          (pss_one (ps_if (pt_cmpR (op_eqD hu) (pe_lc (own := [("k", 8)]) (g := gName 8) rfl scLForm.nd (pi_range2 (by rfl) T.range (pa_cons (pv 3) (pa_cons (pe_callB call_len_seq (by rfl) T.len PySem.boot_len (pa_cons (pv 6) pa_nil)) pa_nil))) (blkOk_by (N := nLForm) (sc := defScope sLForm) (by decide +kernel)) (fun _ _ _ _ _ => pg_name (i := 8) scLForm.nd rfl (Or.inl rfl))
                (fun _ _ _ _ _ => pts_one (pt_cmpR op_ne (pe_ix (r := rIxL K) ix_list (pv 6) (pv 8) (fun _ _ => rfl)) (pe_op op_add (pe_ix (r := rIxL K) ix_list (pv 6) (pe_op op_sub (pv 8) (pv 3)) (fun _ _ => rfl)) (pv 4)) (nomark _)))
                (fun _ _ _ _ _ => pe_int)) (pe_lst pa_nil) (nomark _))
              (C8.pss_cut (ps_while PassesOwn.never (PW.pt (pw_and (pt_cmpR op_gt (pv 5) (pv 3) (nomark _)) (pw_and1 (pt_cmpR op_eq (pe_ix ix_list (pv 0) (pe_op op_sub (pv 5) pe_int) (fun _ _ => rfl)) (pe_op op_add (pe_ix ix_list (pv 0) (pe_op op_sub (pe_op op_sub (pv 5) pe_int) (pv 3)) (fun _ _ => rfl)) (pv 4)) (nomark _)))))
                  (pss_one (ps_set (i := 5) scLForm.nd rfl (Or.inl rfl) (pe_op op_sub (pv 5) pe_int))))
                (pss_one (ps_ret (pe_tup (pa_cons (pe_callTy call_tuple_of (by rfl) T.tuple (by decide +kernel) (pa_cons (pe_slice sl_list (pv 0) po_none (po_some (pv 5))) pa_nil)) (pa_cons (pv 3) (pa_cons (pv 4) pa_nil))))))) pss_nil)))) pss_nil)))
      (pss_one (ps_ret (pe_tup (pa_cons (pe_callTy call_tuple_of (by rfl) T.tuple (by decide +kernel) (pa_cons (pv 0) pa_nil)) (pa_cons (pv 1) (pa_cons (pv 2) pa_nil))))))), ?_⟩
    cases h with
    | mkN s k' p g n4 =>
      have lx : (s.map V.int ++ List.replicate (k' + 1) V.non).length = s.length + (k' + 1) := by rw [List.length_append, List.length_map, List.length_replicate]
      have fl : (s.map V.int ++ List.replicate (k' + 1) V.non).all flatV = true := by
        rw [List.all_eq_true]
        intro x hx
        rcases List.mem_append.mp hx with hx | hx
        · obtain ⟨z, _, rfl⟩ := List.mem_map.mp hx
          rfl
        · rw [(List.mem_replicate.mp hx).2]
          rfl
      have tk : (s.map V.int ++ List.replicate (k' + 1) V.non).take (s.length + 1) = s.map V.int ++ [.non] := by
        rw [List.take_append, List.length_map, show s.length + 1 - s.length = 1 by omega, List.take_of_length_le (by rw [List.length_map]; omega)]
        rfl
      have iv : inV .non (s.map V.int ++ List.replicate (k' + 1) V.non) = true := List.any_eq_true.mpr ⟨.non, List.mem_append_right _ (List.mem_replicate.mpr ⟨by omega, rfl⟩), rfl⟩
      refine ⟨_, rfl, a, _, rfl, .inl (SqL.of ha), rfl, fl, true, by show V.bl (inV .non _) = _; rw [iv], iteT ?_⟩
      refine ⟨_, rfl, _, rfl, .inl ⟨rfl, _, SqL.of ha⟩, a, _, .non, s.length, .non, rfl, rfl, SqL.of ha, rfl, fl, nones_get _ (Nat.le_refl _) (by omega), rfl, fun m z' hm hz => ?_, _, _, rfl, rfl, ((s.length + 1 : Nat) : Int), rfl, a, _, rfl, SqL.of ha, fun t ht => ?_⟩
      · obtain ⟨z, hz2⟩ := ints_get (s := s) (r := List.replicate (k' + 1) V.non) m hm
        rw [hz2] at hz
        cases hz
        rfl
      rw [cutR (by rw [lx]; omega), tk]
      generalize g3 : upd H t _ = H3
      obtain ⟨s3, f3⟩ := alloc g3 ht
      refine ⟨t, _, rfl, .inl ⟨SqL.of f3, fun l hl => ?_⟩⟩
      generalize g4 : upd H3 l _ = H4
      obtain ⟨s4, f4⟩ := alloc g4 hl
      refine ⟨(by show 3 ≤ sizeLine; decide), fun T hT => ?_⟩
      generalize g5 : upd H4 T _ = H5
      obtain ⟨s5, f5⟩ := alloc g5 hT
      exact k _ _ _ l T H5 (FormV.mkN s k' p g) (s5 _ _ f4) f5 (Same.trans s3 (Same.trans s4 s5))
    | mkI s p g p0 pn n4 g0 g1 =>
      have fl : (s.map V.int).all flatV = true := by
        rw [List.all_eq_true]
        intro x hx
        obtain ⟨z, _, rfl⟩ := List.mem_map.mp hx
        rfl
      have iv : inV .non (s.map V.int) = false := by
        refine List.any_eq_false.mpr fun x hx => ?_
        obtain ⟨z, _, rfl⟩ := List.mem_map.mp hx
        simp [eqV]
      refine ⟨_, rfl, a, _, rfl, .inl (SqL.of ha), rfl, fl, false, by show V.bl (inV .non _) = _; rw [iv], iteF ?_⟩
      have lX := tail_len (s := s) pn
      have QP := MF.at_qp (s := s) (g := g) p0 pn
      have gm : ∀ j, j < s.length → (s.map V.int)[j]? = some (.int (MF.at_ s p g j)) := fun j h => get_map h
      have tg : ∀ i, i < p → (((s.map V.int).drop (s.length - p)))[i]? = some (.int (MF.at_ s p g (s.length - p + i))) := fun i hi => tail_get pn hi
      have tk : ∀ n, n ≤ s.length → (s.map V.int).take n = (List.range n).map fun j => V.int (MF.at_ s p g j) := fun n h => take_vals h
      have fin : ∀ (q : Nat) (r : Int) (b : Nat), MF.IsForm (MF.at_ s p g) q r b → b + q ≤ s.length → FormV (s.map V.int) p g ((List.range (b + q)).map fun j => V.int (MF.at_ s p g j)) q r := fun q r b h l => FormV.mkI s p g q r b p0 pn h l
      have hb0 : s.length - p + p = s.length := by omega
      generalize hf : MF.at_ s p g = f at *
      generalize hb : s.length - p = b0 at *
      have lS : ((s.map V.int).length : Int) = (s.length : Int) := by rw [List.length_map]
      refine ⟨_, rfl, _, _, rfl, rfl, 1, _, rfl, ⟨by decide, by decide, by omega, by omega⟩, for_range (lo := 1) (n := ((p : Int) + 1 - 1).toNat) (fun i σ H3 => ∃ v3 v4 v5 v6, σ = [some (.ref a), some (.int p), some (.int g), v3, v4, v5, v6, none, none] ∧ Same H H3 ∧ ∀ t, 0 < t → t < 1 + i → ¬ MF.A f b0 p t) ⟨_, _, _, _, rfl, Same.refl _, fun t h1 h2 => by omega⟩ ?_ ?_⟩
      · rintro i σ H3 hi ⟨v3, v4, v5, v6, rfl, s3, no⟩
        have ei : (1 : Int) + (i : Int) = ((i + 1 : Nat) : Int) := by omega
        rw [ei]
        generalize ht : i + 1 = t at *
        have t0 : 0 < t := by omega
        have tp : t ≤ p := by omega
        have ha3 := s3 _ _ ha
        have nxt : ¬ MF.A f b0 p t → ∀ u, 0 < u → u < 1 + t → ¬ MF.A f b0 p u := fun nA u h1 h2 => by
          by_cases e : u = t
          · rw [e]; exact nA
          · exact no u h1 (by omega)
        by_cases hd : p % t = 0
        · refine ⟨_, rfl, _, rfl, _, _, rfl, rfl, by omega, rfl, true, bT (by show V.int (Int.fmod (p : Int) (t : Int)) = V.int 0; rw [fmod_nat p t t0, hd]; rfl), iteT ?_⟩
          have hR : MF.A f b0 p t → g * (t : Int) = (f (b0 + t) - f b0) * (p : Int) := fun hA => MF.rise_of t0 tp QP hd (hA.dp t0 tp QP.dp)
          by_cases hm : Int.fmod (g * (t : Int)) (p : Int) = 0
          · refine ⟨_, rfl, _, rfl, _, _, rfl, rfl, .inl ⟨by omega, by omega⟩, _, rfl, _, _, rfl, rfl, by omega, rfl, true, bT (by show V.int (Int.fmod (g * (t : Int)) (p : Int)) = V.int 0; rw [hm]), iteT ?_⟩
            generalize hM : Int.fdiv (g * (t : Int)) (p : Int) = M
            have MR : MF.A f b0 p t → M = f (b0 + t) - f b0 := fun hA => by rw [← hM, hR hA, Int.mul_fdiv_cancel _ (by omega)]
            refine ⟨fun σ H4 => σ = [some (.ref a), some (.int p), some (.int g), some (.int t), some (.int M), some (.int s.length), v6, none, none] ∧ Same H H4, ?_, ?_⟩
            · refine ⟨_, rfl, _, rfl, _, _, rfl, rfl, .inl ⟨by omega, by omega⟩, _, rfl, _, _, rfl, rfl, ⟨by omega, by omega⟩, _, rfl, a, _, rfl, .inl (SqL.of ha3), (by show 2 ≤ sizeLine; decide), fun t' ht' => ?_⟩
              generalize g4 : upd H3 t' _ = H4
              obtain ⟨s4, f4⟩ := alloc g4 ht'
              refine ⟨t', _, rfl, SqT.of f4, rfl, _, _, rfl, _, _, rfl, rfl, ?_, Same.trans s3 s4⟩
              show [_, _, _, _, some (V.int (Int.fdiv (g * (t : Int)) (p : Int))), some (V.int ((s.map V.int).length : Int)), _, _, _] = _
              rw [hM, lS]
            · rintro σ H4 ⟨rfl, s4⟩
              have ha4 := s4 _ _ ha
              refine ⟨fun σ H5 => ∃ (L : Addr) (lv : List V), σ = [some (.ref a), some (.int p), some (.int g), some (.int t), some (.int M), some (.int s.length), some (.ref L), none, none] ∧ H5 L = some (.lst lv) ∧ lv.length = 2 * p ∧ (∀ k, k < 2 * p → lv[k]? = some (.int (f (b0 + k)))) ∧ Same H H5, ?_, ?_⟩
              · have lb : ((s.length : Int) - (p : Int)) = ((b0 : Nat) : Int) := by omega
                refine ⟨_, rfl, _, rfl, _, rfl, _, _, rfl, rfl, ((b0 : Nat) : Int), (by show V.int _ = V.int _; rw [lb]), a, _, rfl, SqL.of ha4, fun q1 hq1 => ?_⟩
                rw [cutL (by rw [List.length_map]; omega)]
                generalize g5 : upd H4 q1 _ = H5
                obtain ⟨s5, f5⟩ := alloc g5 hq1
                refine ⟨_, rfl, _, rfl, _, rfl, _, _, rfl, rfl, ((b0 : Nat) : Int), (by show V.int _ = V.int _; rw [lb]), a, _, rfl, SqL.of (s5 _ _ ha4), fun q2 hq2 => ?_⟩
                rw [cutL (by rw [List.length_map]; omega)]
                generalize g6 : upd H5 q2 _ = H6
                obtain ⟨s6, f6⟩ := alloc g6 hq2
                refine ⟨q2, rfl, ⟨_, SqL.of f6⟩, fun D hD => lc_list (K := K) (a := q2) (xs := (s.map V.int).drop b0) (fun i H7 => H7 D = some (.lst ((List.range i).map fun j => V.int (f (b0 + j) + g))) ∧ Same H6 H7) ⟨upd_same, same_new hD⟩ (fun i H7 _ ⟨_, s7⟩ => SqL.of (s7 _ _ f6)) ?_ ?_⟩
                · rintro i' x H7 hx ⟨hd7, s7⟩
                  have hi' : i' < p := by
                    have := (List.getElem?_eq_some_iff.mp hx).1
                    rwa [lX] at this
                  rw [tg i' hi'] at hx
                  cases hx
                  refine ⟨rfl, _, rfl, _, rfl, _, _, rfl, rfl, _, hd7, ?_, ?_, ?_⟩
                  · rw [List.length_map, List.length_range]; exact line_lt (by omega)
                  · rw [List.range_succ, List.map_append]; exact upd_same
                  · exact fun b o e => by rw [upd_ne (ne_of_none e hD)]; exact s7 _ _ e
                · rintro H7 ⟨hd7, s7⟩
                  rw [lX] at hd7
                  refine ⟨q1, D, _, _, rfl, rfl, s7 _ _ (s6 _ _ f5), hd7, ?_, fun z hz => ?_⟩
                  · rw [lX, List.length_map, List.length_range]
                    exact line_le (by omega)
                  refine ⟨z, _, rfl, upd_same, ?_, ?_, Same.trans s4 (Same.trans s5 (Same.trans s6 (Same.trans s7 (same_new hz))))⟩
                  · rw [List.length_append, lX, List.length_map, List.length_range]; omega
                  · intro k' hk
                    by_cases c : k' < p
                    · rw [List.getElem?_append_left (by rw [lX]; exact c)]
                      exact tg k' c
                    · rw [List.getElem?_append_right (by rw [lX]; omega), lX, List.getElem?_map, List.getElem?_range (by omega)]
                      have := QP (b0 + (k' - p)) (by omega)
                      rw [show b0 + (k' - p) + p = b0 + k' by omega] at this
                      rw [this]
                      rfl
              · rintro σ H5 ⟨L, lv, rfl, h5, ll, lg, s5⟩
                have hlg : ∀ k, k < 2 * p → atI lv (k : Int) = some (.int (f (b0 + k))) := fun k h => atI_nat (lg k h)
                refine ⟨_, rfl, _, rfl, L, _, rfl, .inl (SqL.of h5), t, _, rfl, ⟨by omega, by omega, by omega, by omega⟩, fun D hD => lc_it (n := ((lv.length : Int) - (t : Int)).toNat) (walk_range (lo := t))
                  (fun i H6 => ∃ m, H6 D = some (.lst ((ones m).map V.int)) ∧ m ≤ i ∧ (m = 0 ↔ ∀ k, t ≤ k → k < t + i → f (b0 + k) = f (b0 + (k - t)) + M) ∧ Same H5 H6) ⟨0, upd_same, Nat.le_refl _, ⟨fun _ k h1 h2 => by omega, fun _ => rfl⟩, same_new hD⟩ (fun i H6 _ _ => trivial) ?_ ?_⟩
                · rintro i' x H6 H7 hi' ⟨m, hd6, hm6, iff6, s6⟩ hy
                  obtain ⟨rfl, rfl⟩ : H7 = H6 ∧ x = .int ((t : Int) + (i' : Int)) := by
                    obtain ⟨h1, h2⟩ := hy
                    first | exact ⟨h1, h2⟩ | exact ⟨h2, h1⟩
                  have c1 : (t : Int) + (i' : Int) = ((t + i' : Nat) : Int) := by omega
                  have c2 : (t : Int) + (i' : Int) - (t : Int) = ((i' : Nat) : Int) := by omega
                  have h56 := s6 _ _ h5
                  refine ⟨rfl, _, rfl, _, rfl, L, _, _, .int (f (b0 + (t + i'))), rfl, rfl, SqL.of h56, by rw [c1]; exact hlg _ (by omega), _, rfl, _, rfl, _, rfl, _, _, rfl, rfl, L, _, _, .int (f (b0 + i')), rfl, rfl, SqL.of h56, ?_, _, rfl, _, _, rfl, rfl, rfl, !decide (f (b0 + (t + i')) = f (b0 + i') + M), ?_, ?_⟩
                  · show atI lv ((t : Int) + (i' : Int) - (t : Int)) = _
                    rw [c2]
                    exact hlg _ (by omega)
                  · show V.bl (!decide (V.int (f (b0 + (t + i'))) = V.int (f (b0 + i') + M))) = _
                    congr 2
                    exact decide_eq_decide.mpr ⟨fun z => V.int.inj z, fun z => by rw [z]⟩
                  · by_cases c : f (b0 + (t + i')) = f (b0 + i') + M
                    · rw [decide_eq_true c]
                      refine iteF ⟨m, hd6, by omega, ⟨fun z k h1 h2 => ?_, fun z => iff6.mpr fun k h1 h2 => z k h1 (by omega)⟩, s6⟩
                      by_cases e : k = t + i'
                      · rw [e, show t + i' - t = i' by omega]
                        exact c
                      · exact iff6.mp z k h1 (by omega)
                    · rw [decide_eq_false c]
                      refine iteT ⟨_, hd6, ?_, m + 1, ?_, by omega, ⟨fun z => by omega, fun z => ?_⟩, ?_⟩
                      · rw [List.length_map]
                        unfold ones
                        rw [List.length_replicate]
                        exact line_lt (by omega)
                      · rw [ones_snoc]; exact upd_same
                      · have := z (t + i') (by omega) (by omega)
                        rw [show t + i' - t = i' by omega] at this
                        exact absurd this c
                      · exact fun b o e => by rw [upd_ne (ne_of_none e hD)]; exact s6 _ _ e
                · rintro H6 ⟨m, hd6, hm6, iff6, s6⟩
                  refine ⟨(by show 0 ≤ sizeLine; decide), fun q hq => ?_⟩
                  generalize g7 : upd H6 q _ = H7
                  obtain ⟨s7, f7⟩ := alloc g7 hq
                  refine ⟨.list ((ones m).map .int), .list [], .lst (SqL.of (s7 _ _ hd6)) (dpAll_int _), .lst (SqL.of f7) .nil, shaped_ints _, by decide, _, rfl, ?_⟩
                  rw [show PyData.eqv (.list ((ones m).map .int)) (.list []) = decide (ones m = []) from eqv_ints (ones m) []]
                  have s57 : Same H H7 := Same.trans s5 (Same.trans s6 s7)
                  have key : MF.B f b0 p t M ↔ m = 0 := by
                    rw [iff6]
                    exact ⟨fun z k h1 h2 => z k h1 (by omega), fun z k h1 h2 => z k h1 (by omega)⟩
                  refine ite2 (fun c => ?_) (fun c => ?_)
                  · have m0 := (ones_nil m).mp (of_decide_eq_true c)
                    have hA : MF.A f b0 p t := (key.mpr m0).a t0 hd
                    have hMR := MR hA
                    have ha7 := s57 _ _ ha
                    refine ⟨fun σ H8 => ∃ c : Nat, σ = [some (.ref a), some (.int p), some (.int g), some (.int t), some (.int M), some (.int c), some (.ref L), none, none] ∧ H8 = H7 ∧ c ≤ s.length ∧ t ≤ c ∧ MF.IsForm f t M (c - t), ?_, ?_⟩
                    · refine while_by (fun σ H8 => ∃ c : Nat, σ = [some (.ref a), some (.int p), some (.int g), some (.int t), some (.int M), some (.int c), some (.ref L), none, none] ∧ H8 = H7 ∧ c ≤ s.length ∧ t ≤ c ∧ ∀ j, c - t ≤ j → j < s.length - t → f (j + t) = f j + M)
                        (fun σ _ => match σ with
                          | [_, _, _, _, _, some (.int c), _, _, _] => c.toNat
                          | _ => 0) ⟨s.length, rfl, rfl, Nat.le_refl _, by omega, fun j h1 h2 => by omega⟩ ?_ ?_
                      · rintro σ H8 ⟨c, rfl, rfl, cn, tc, hc⟩
                        by_cases ct : t < c
                        · refine ⟨_, rfl, _, rfl, _, _, rfl, rfl, true, bT (by omega), iteT ?_⟩
                          have d1 : (c : Int) - 1 = ((c - 1 : Nat) : Int) := by omega
                          have d2 : (c : Int) - 1 - (t : Int) = ((c - 1 - t : Nat) : Int) := by omega
                          refine ⟨_, rfl, _, rfl, _, _, rfl, rfl, a, _, _, .int (f (c - 1)), rfl, rfl, SqL.of ha7, ?_, _, rfl, _, rfl, _, _, rfl, rfl, _, rfl, _, _, rfl, rfl, a, _, _, .int (f (c - 1 - t)), rfl, rfl, SqL.of ha7, ?_, _, rfl, _, _, rfl, rfl, rfl, decide (f (c - 1) = f (c - 1 - t) + M), ?_, ?_⟩
                          · show atI _ ((c : Int) - 1) = _
                            rw [d1]
                            exact atI_nat (gm _ (by omega))
                          · show atI _ ((c : Int) - 1 - (t : Int)) = _
                            rw [d2]
                            exact atI_nat (gm _ (by omega))
                          · show V.bl (decide (V.int (f (c - 1)) = V.int (f (c - 1 - t) + M))) = _
                            congr 1
                            exact decide_eq_decide.mpr ⟨fun z => V.int.inj z, fun z => by rw [z]⟩
                          · refine ite2 (fun z => ?_) (fun z => ?_)
                            · have z' := of_decide_eq_true z
                              refine ⟨_, rfl, _, _, rfl, rfl, ⟨c - 1, by show [_, _, _, _, _, some (V.int ((c : Int) - 1)), _, _, _] = _; rw [d1], rfl, by omega, by omega, fun j h1 h2 => ?_⟩, ?_⟩
                              · by_cases e : j = c - 1 - t
                                · rw [e, show c - 1 - t + t = c - 1 by omega]
                                  exact z'
                                · exact hc j (by omega) h2
                              · show ((c : Int) - 1).toNat < (c : Int).toNat
                                omega
                            · refine ⟨c, rfl, rfl, cn, tc, ?_⟩
                              exact lowForm p0 QP t0 tp hA (fun u h1 h2 => no u h1 (by omega)) hMR hb0 tc cn hc (.inr fun z2 => z (decide_eq_true z2))
                        · refine ⟨_, rfl, _, rfl, _, _, rfl, rfl, false, bF (by omega), iteF ?_⟩
                          refine iteF ⟨c, rfl, rfl, cn, tc, ?_⟩
                          exact lowForm p0 QP t0 tp hA (fun u h1 h2 => no u h1 (by omega)) hMR hb0 tc cn hc (.inl (by omega))
                      · intro σ H Q Q' m h
                        obtain ⟨v1, e1, v2, e2, i, j, e3, e4, b, e5, h⟩ := h
                        refine ⟨v1, e1, v2, e2, i, j, e3, e4, b, e5, ?_⟩
                        cases b with
                        | false => exact m _ _ h
                        | true =>
                          obtain ⟨w1, f1, w2, f2, i1, j1, g1, g2, pp, xs, ii, vv, k1, k2, k3, k4, w3, f3, w4, f4, i2, j2, g3, g4, w5, f5, i3, j3, g5, g6, pp', xs', ii', vv', l1, l2, l3, l4, w6, f6, i4, j4, g7, g8, sc, b2, eb, hQ⟩ := h
                          exact ⟨w1, f1, w2, f2, i1, j1, g1, g2, pp, xs, ii, vv, k1, k2, k3, k4, w3, f3, w4, f4, i2, j2, g3, g4, w5, f5, i3, j3, g5, g6, pp', xs', ii', vv', l1, l2, l3, l4, w6, f6, i4, j4, g7, g8, sc, b2, eb, m _ _ hQ⟩
                    · rintro σ H8 ⟨c, rfl, rfl, cn, tc, IF⟩
                      refine ⟨_, rfl, _, rfl, _, rfl, a, _, rfl, SqL.of ha7, fun q2 hq2 => ?_⟩
                      rw [cutR (by rw [List.length_map]; exact cn), tk c cn]
                      generalize g9 : upd H8 q2 _ = H9
                      obtain ⟨s9, f9⟩ := alloc g9 hq2
                      refine ⟨q2, _, rfl, .inl ⟨SqL.of f9, fun l hl => ?_⟩⟩
                      generalize g10 : upd H9 l _ = H10
                      obtain ⟨s10, f10⟩ := alloc g10 hl
                      refine ⟨_, rfl, _, rfl, (by show 3 ≤ sizeLine; decide), fun T hT => ?_⟩
                      generalize g11 : upd H10 T _ = H11
                      obtain ⟨s11, f11⟩ := alloc g11 hT
                      have ff := fin t M (c - t) IF (by omega)
                      rw [show c - t + t = c by omega] at ff
                      exact k _ _ _ l T H11 ff (s11 _ _ f10) f11 (Same.trans s57 (Same.trans s9 (Same.trans s10 s11)))
                  · refine ⟨_, _, _, _, rfl, s57, nxt fun hA => c (decide_eq_true ((ones_nil m).mpr (key.mp ?_)))⟩
                    have q := (hA.dp t0 tp QP.dp).qp
                    rw [← MR hA] at q
                    exact MF.B.of_qp q
          · refine ⟨_, rfl, _, rfl, _, _, rfl, rfl, .inl ⟨by omega, by omega⟩, _, rfl, _, _, rfl, rfl, by omega, rfl, false, bF (fun z => hm (by have z' : V.int (Int.fmod (g * (t : Int)) (p : Int)) = V.int 0 := z; exact V.int.inj z')), iteF ?_⟩
            exact ⟨_, _, _, _, rfl, s3, nxt fun hA => hm (by rw [hR hA, Int.mul_fmod_left])⟩
        · refine ⟨_, rfl, _, rfl, _, _, rfl, rfl, by omega, rfl, false, bF (fun z => hd (by have z' : V.int (Int.fmod (p : Int) (t : Int)) = V.int 0 := z; rw [fmod_nat p t t0] at z'; have := V.int.inj z'; omega)), iteF ?_⟩
          exact ⟨_, _, _, _, rfl, s3, nxt fun hA => hd hA.1⟩
      · rintro σ H3 ⟨v3, v4, v5, v6, rfl, s3, no⟩
        exact absurd (MF.A.self (f := f) (b := b0) (p := p)) (no p p0 (by omega))
end
end WW
end

section
set_option Elab.async false
set_option linter.all false
set_option maxRecDepth 100000
set_option maxHeartbeats 4000000
namespace WW
open PySem L2 WO WG RZ WQ WT
section
variable {P : Program} {w : World} {K : PySem.W.Frag} {mg : Str → Option Value} {base : Heap}
abbrev sMade : Stmt := top 66
def spMade (K : PySem.W.Frag) (C : Addr) : Sp := fun vs H Q _ => ∃ (d a : Addr) (xs : List V) (p : Nat) (g : Int), vs = [.ref d] ∧ H d = some (.dK (skKvs a p g)) ∧ H a = some (.lst xs) ∧ MakeOk xs p g ∧
  ∀ (x : Addr) (vals : List V) (q r : Int) (H' : Hp), FormV xs p g vals q r → CurveAt H' C x vals q r → Same H H' → Q (.ref x) H'
theorem scMade : FnScope ["sketch"] ["sketch"] (defScope sMade) := ⟨rfl, rfl, rfl, by decide +kernel, rfl, by decide +kernel, by decide +kernel⟩
theorem ok_made {f fI fE C CB : Addr} {fd dI : FuncData} (F : Fun K "_law_made" "_law_made" sMade f fd) (U : CurT K mg C fI fE)
    (GI : FnOk P w K mg base (L2.CX P w) 4 fI dI ["self", "start", "period", "growth"] (spInit K C CB)) (bI : Binds K dI ["self", "start", "period", "growth"] []) :
    FnOk P w K mg base CX0 6 f fd ["sketch"] (spMade K C) := by
  refine F.ok scMade (fun vs H Q E h => ?_) (fun cdv A outer s H vs Q E hr h => ?_)
  · obtain ⟨d, a, xs, p, g, rfl, _⟩ := h
    rfl
  · obtain ⟨d, a, xs, p, g, rfl, hd, ha, M, k⟩ := h
    have hu := hu_of hr
    refine ⟨_, pss_one (ps_ret (pe_make U.mkC GI hr rfl U.mC bI .nil passF (pa_cons (pe_dget hu (pv 0) pe_str (fun _ _ => rfl)) (pa_cons (pe_dget hu (pv 0) pe_str (fun _ _ => rfl)) (pa_cons (pe_dget hu (pv 0) pe_str (fun _ _ => rfl)) pa_nil))))), ?_⟩
    refine ⟨_, rfl, d, _, rfl, sk_start hd, _, rfl, d, _, rfl, sk_period hd, _, rfl, d, _, rfl, sk_growth hd, fun x dx hx hdx ne => ?_⟩
    generalize g1 : upd H dx _ = H1
    obtain ⟨s1, f1⟩ := alloc g1 hdx
    have hx1 : H1 x = none := by rw [← g1, upd_ne (Ne.symm ne)]; exact hx
    generalize g2 : upd H1 x _ = H2
    obtain ⟨s2, f2⟩ := alloc g2 hx1
    refine ⟨x, dx, _, _, _, rfl, f2, .inl ⟨a, xs, p, g, rfl, rfl, rfl, .inl (SqL.of (s2 _ _ (s1 _ _ ha))), M, fun vals q r H' fv cu kp => ⟨rfl, k x vals q r H' fv cu fun b o e => kp b o (s2 _ _ (s1 _ _ e)) (ne_of_none e hx)⟩⟩⟩
end
end WW
end

section
set_option Elab.async false
set_option linter.all false
set_option maxRecDepth 100000
set_option maxHeartbeats 4000000
namespace WW
open PySem L2 WO WG RZ WQ WT WC
/-! ### two lines together, and a third one -/
def hF (a b t : Nat) : Int := ((t / a + t / b : Nat) : Int)
def gF (c t : Nat) : Int := if t = 0 then 0 else ((3 + t / c : Nat) : Int)
theorem line_one {a : Nat} (j : Nat) : lineF 0 1 a j = ((j / a : Nat) : Int) := by
  unfold lineF
  split
  · rename_i e
    subst e
    rw [Nat.zero_div]
    try rfl
  · rw [Int.one_mul, Int.fdiv_eq_ediv_of_nonneg _ (by omega)]
    show 0 + ((j / a : Nat) : Int) = _
    omega
theorem line_three {c : Nat} (j : Nat) : lineF 3 1 c j = gF c j := by
  unfold lineF gF
  split
  · rfl
  · rw [Int.one_mul, Int.fdiv_eq_ediv_of_nonneg _ (by omega)]
    show 3 + ((j / c : Nat) : Int) = _
    omega
theorem add_dvd {t D a : Nat} (a0 : 0 < a) (d : a ∣ D) : (t + D) / a = t / a + D / a := by
  obtain ⟨m, rfl⟩ := d
  rw [Nat.add_mul_div_left _ _ a0, Nat.mul_div_cancel_left _ a0]
theorem hF_qp {a b D : Nat} (a0 : 0 < a) (b0 : 0 < b) (da : a ∣ D) (db : b ∣ D) : MF.QP (hF a b) D ((D / a + D / b : Nat) : Int) 0 := fun j _ => by
  unfold hF
  rw [add_dvd a0 da, add_dvd b0 db]
  omega
theorem gF_qp {c D : Nat} (c0 : 0 < c) (d : c ∣ D) : MF.QP (gF c) D ((D / c : Nat) : Int) 1 := fun j hj => by
  unfold gF
  rw [if_neg (by omega), if_neg (by omega), add_dvd c0 d]
  omega
theorem hF_mono (a b : Nat) : MF.Mono (hF a b) := fun j => by
  have h1 : j / a ≤ (j + 1) / a := Nat.div_le_div_right (by omega)
  have h2 : j / b ≤ (j + 1) / b := Nat.div_le_div_right (by omega)
  unfold hF
  omega
theorem gF_mono (c : Nat) : MF.Mono (gF c) := fun j => by
  have h1 : j / c ≤ (j + 1) / c := Nat.div_le_div_right (by omega)
  unfold gF
  generalize j / c = u at *
  generalize (j + 1) / c = w at *
  split <;> split <;> omega
/-- how far one beat goes -/
theorem div_up {a n : Nat} (a0 : 0 < a) (n0 : 0 < n) : n / a = (n - 1) / a + (if a ∣ n then 1 else 0) := by
  split
  · rename_i d
    obtain ⟨m, rfl⟩ := d
    have m0 : 0 < m := Nat.pos_of_ne_zero fun z => by rw [z] at n0; omega
    obtain ⟨k, rfl⟩ : ∃ k, m = k + 1 := ⟨m - 1, by omega⟩
    rw [Nat.mul_div_cancel_left _ a0, Nat.mul_succ, show a * k + a - 1 = (a - 1) + a * k by omega, Nat.add_mul_div_left _ _ a0, Nat.div_eq_of_lt (by omega)]
    omega
  · rename_i d
    have e := Nat.div_add_mod n a
    have m0 : 0 < n % a := Nat.pos_of_ne_zero fun z => d (Nat.dvd_of_mod_eq_zero z)
    have ml := Nat.mod_lt n a0
    have e2 : (n - 1) / a = n / a := by
      rw [show n - 1 = (n % a - 1) + a * (n / a) by omega, Nat.add_mul_div_left _ _ a0, Nat.div_eq_of_lt (by omega)]
      omega
    omega
/-- two at once -/
theorem jump_two {a b n : Nat} (a0 : 0 < a) (b0 : 0 < b) (n0 : 0 < n) : hF a b n - hF a b (n - 1) = 2 ↔ a ∣ n ∧ b ∣ n := by
  unfold hF
  have e1 := div_up a0 n0
  have e2 := div_up b0 n0
  constructor
  · intro h
    by_cases d : a ∣ n
    · by_cases d' : b ∣ n
      · exact ⟨d, d'⟩
      · rw [if_neg d'] at e2
        rw [if_pos d] at e1
        omega
    · rw [if_neg d] at e1
      split at e2 <;> omega
  · rintro ⟨d, d'⟩
    rw [if_pos d] at e1
    rw [if_pos d'] at e2
    omega
theorem hF_form {a b : Nat} (a0 : 0 < a) (b0 : 0 < b) : MF.IsForm (hF a b) (Nat.lcm a b) ((Nat.lcm a b / a + Nat.lcm a b / b : Nat) : Int) 0 := by
  have D0 : 0 < Nat.lcm a b := Nat.lcm_pos a0 b0
  refine ⟨D0, hF_qp a0 b0 (Nat.dvd_lcm_left a b) (Nat.dvd_lcm_right a b), fun q q0 ⟨c, dp⟩ => ?_, .inl rfl⟩
  have Q := dp.qp
  generalize hr : hF a b (c + q) - hF a b c = r at Q
  generalize hD : Nat.lcm a b = D at *
  have da : a ∣ D := by rw [← hD]; exact Nat.dvd_lcm_left a b
  have db : b ∣ D := by rw [← hD]; exact Nat.dvd_lcm_right a b
  obtain ⟨n, hn, dn⟩ : ∃ n, c + 1 ≤ n ∧ D ∣ n := ⟨(c + 1) * D, Nat.le_mul_of_pos_right _ D0, Nat.dvd_mul_left ..⟩
  have j1 := (jump_two (n := n) a0 b0 (by omega)).mpr ⟨Nat.dvd_trans da dn, Nat.dvd_trans db dn⟩
  have q1 := Q n (by omega)
  have q2 := Q (n - 1) (by omega)
  have j2 := (jump_two (a := a) (b := b) (n := n + q) a0 b0 (by omega)).mp (by rw [show n + q - 1 = n - 1 + q by omega]; omega)
  have dq : D ∣ n + q := by rw [← hD]; exact Nat.lcm_dvd j2.1 j2.2
  exact Nat.le_of_dvd q0 ((Nat.dvd_add_right dn).mp dq)
theorem gF_form {c : Nat} (c0 : 0 < c) : MF.IsForm (gF c) c 1 1 := by
  have Q0 := gF_qp c0 (Nat.dvd_refl c)
  rw [Nat.div_self c0] at Q0
  refine ⟨c0, Q0, fun q q0 ⟨e, dp⟩ => ?_, .inr ?_⟩
  · have Q := dp.qp
    generalize hr : gF c (e + q) - gF c e = r at Q
    have u1 := (Q.up c).to (Nat.le_max_left e 1)
    have u2 := (Q0.up q).to (Nat.le_max_right e 1)
    rw [Nat.mul_comm c q] at u1
    have er := u1.rise u2
    have r1 : 1 ≤ r := by
      refine Int.not_lt.mp fun z => ?_
      have : (c : Int) * r ≤ 0 := by
        have := Int.mul_le_mul_of_nonneg_left (show r ≤ 0 by omega) (show (0 : Int) ≤ (c : Int) by omega)
        omega
      omega
    have := Int.mul_le_mul_of_nonneg_left r1 (show (0 : Int) ≤ (c : Int) by omega)
    omega
  · show gF c (0 + c) ≠ gF c 0 + 1
    unfold gF
    rw [if_neg (by omega), if_pos rfl, Nat.zero_add, Nat.div_self c0]
    decide
/-- where the third one is below -/
theorem cross_all {a b c t : Nat} (a0 : 0 < a) (b0 : 0 < b) (a60 : a ≤ 60) (b60 : b ≤ 60) (c40 : 40 ≤ c) (ht : 540 ≤ t) : gF c t ≤ hF a b t := by
  have h1 : t / 60 ≤ t / a := Nat.div_le_div_left a60 a0
  have h2 : t / 60 ≤ t / b := Nat.div_le_div_left b60 b0
  have h3 : t / c ≤ t / 40 := Nat.div_le_div_left c40 (by decide)
  unfold gF hF
  rw [if_neg (by omega)]
  omega
theorem cross_own {a b c t : Nat} (b0 : 0 < b) (a0 : 0 < a) (b60 : b ≤ 60) (a60 : a ≤ 60) (e : c = a ∨ c = b) (ht : 180 ≤ t) : gF c t ≤ hF a b t := by
  have h1 : t / 60 ≤ t / a := Nat.div_le_div_left a60 a0
  have h2 : t / 60 ≤ t / b := Nat.div_le_div_left b60 b0
  unfold gF hF
  rw [if_neg (by omega)]
  rcases e with rfl | rfl <;> omega
def fewB (i j k : Nat) : Bool := !decide (Nat.lcm (Nat.lcm (50 + i) (50 + j)) (40 + k) ≤ 4000) || (!decide (Nat.lcm (Nat.lcm (50 + i) (50 + j)) (40 + k) = 4000) && (decide (Nat.lcm (50 + i) (50 + j) ≤ 3400) || (decide (40 + k = 50 + i) || decide (40 + k = 50 + j))))
theorem few_all : (List.range 11).all (fun i => (List.range 11).all fun j => (List.range 21).all fun k => fewB i j k) = true := by decide +kernel
theorem few_aux : ∀ i, i < 11 → ∀ j, j < 11 → ∀ k, k < 21 → Nat.lcm (Nat.lcm (50 + i) (50 + j)) (40 + k) ≤ 4000 → Nat.lcm (Nat.lcm (50 + i) (50 + j)) (40 + k) ≠ 4000 ∧ (Nat.lcm (50 + i) (50 + j) ≤ 3400 ∨ 40 + k = 50 + i ∨ 40 + k = 50 + j) := fun i hi j hj k hk h => by
  have a := List.all_eq_true.mp few_all i (List.mem_range.mpr hi)
  have b := List.all_eq_true.mp a j (List.mem_range.mpr hj)
  have c := List.all_eq_true.mp b k (List.mem_range.mpr hk)
  unfold fewB at c
  simp only [Bool.or_eq_true, Bool.and_eq_true, Bool.not_eq_true', decide_eq_false_iff_not, decide_eq_true_eq] at c
  rcases c with z | ⟨z, w⟩
  · exact absurd h z
  · exact ⟨z, w⟩
theorem few {a b c : Nat} (a1 : 50 ≤ a) (a2 : a ≤ 60) (b1 : 50 ≤ b) (b2 : b ≤ 60) (c1 : 40 ≤ c) (c2 : c ≤ 60) (h : Nat.lcm (Nat.lcm a b) c ≤ 4000) : Nat.lcm (Nat.lcm a b) c ≤ 3999 ∧ (Nat.lcm a b ≤ 3400 ∨ c = a ∨ c = b) := by
  have := few_aux (a - 50) (by omega) (b - 50) (by omega) (c - 40) (by omega)
  rw [show 50 + (a - 50) = a by omega, show 50 + (b - 50) = b by omega, show 40 + (c - 40) = c by omega] at this
  have := this h
  exact ⟨by omega, this.2⟩
theorem lcm_60 {a b : Nat} (a0 : 0 < a) (b0 : 0 < b) (a60 : a ≤ 60) (b60 : b ≤ 60) : Nat.lcm a b ≤ 3600 := by
  have := Nat.le_of_dvd (Nat.mul_pos a0 b0) (Nat.lcm_dvd_mul a b)
  have : a * b ≤ 60 * 60 := Nat.mul_le_mul a60 b60
  omega
/-! ### their rows -/
def minF (a b c t : Nat) : Int := min (hF a b t) (gF c t)
def maxF (a b c t : Nat) : Int := max (hF a b t) (gF c t)
def sumF (a b c t : Nat) : Int := hF a b t + gF c t
theorem min_qp {a b c n : Nat} (a0 : 0 < a) (b0 : 0 < b) (a60 : a ≤ 60) (b60 : b ≤ 60) (c40 : 40 ≤ c) (hn : 540 ≤ n) : MF.QP (minF a b c) c 1 n := fun j hj => by
  have Q0 := gF_qp (c := c) (by omega) (Nat.dvd_refl c) j (by omega)
  rw [Nat.div_self (by omega)] at Q0
  have h1 := cross_all (t := j) a0 b0 a60 b60 c40 (by omega)
  have h2 := cross_all (t := j + c) a0 b0 a60 b60 c40 (by omega)
  unfold minF
  omega
theorem max_qp {a b c n D : Nat} (a0 : 0 < a) (b0 : 0 < b) (a60 : a ≤ 60) (b60 : b ≤ 60) (c40 : 40 ≤ c) (da : a ∣ D) (db : b ∣ D) (hn : 540 ≤ n ∨ (180 ≤ n ∧ (c = a ∨ c = b))) : MF.QP (maxF a b c) D ((D / a + D / b : Nat) : Int) n := fun j hj => by
  have Q0 := hF_qp a0 b0 da db j (Nat.zero_le _)
  have cr : ∀ t, n ≤ t → gF c t ≤ hF a b t := fun t ht => by
    rcases hn with h | ⟨h, e⟩
    · exact cross_all a0 b0 a60 b60 c40 (by omega)
    · exact cross_own b0 a0 b60 a60 e (by omega)
  have h1 := cr j hj
  have h2 := cr (j + D) (by omega)
  unfold maxF
  omega
theorem sum_qp {a b c D : Nat} (a0 : 0 < a) (b0 : 0 < b) (c0 : 0 < c) (da : a ∣ D) (db : b ∣ D) (dc : c ∣ D) : MF.QP (sumF a b c) D ((D / a + D / b + D / c : Nat) : Int) 1 := fun j hj => by
  have Q0 := hF_qp a0 b0 da db j (Nat.zero_le _)
  have Q1 := gF_qp c0 dc j hj
  unfold sumF
  omega
theorem hF_bd {a b t : Nat} : 0 ≤ hF a b t ∧ hF a b t ≤ 2 * (t : Int) := by
  have := Nat.div_le_self t a
  have := Nat.div_le_self t b
  unfold hF
  generalize t / a = u at *
  generalize t / b = w at *
  omega
theorem gF_bd {c t : Nat} : 0 ≤ gF c t ∧ gF c t ≤ 3 + (t : Int) := by
  have := Nat.div_le_self t c
  unfold gF
  generalize t / c = u at *
  split <;> omega
/-- a row, and the form that is due -/
structure DueR (xs : List V) (p : Nat) (g : Int) (U : Nat → V) : Prop where
  fi : FormIn xs p g
  ro : RowF xs p g U
  sm : ∀ v q r, FormG U v q r → GoodC v q r
theorem due_of {f : Nat → Int} {n p : Nat} {g : Int} (p0 : 0 < p) (pn : p ≤ n) (n4 : n ≤ 20000) (g0 : 0 ≤ g) (g1 : g ≤ 1000000) (Q : MF.QP f p g (n - p)) (bd : ∀ t, 0 ≤ f t ∧ f t ≤ 4 * (t : Int) + 4) : DueR ((List.range n).map fun j => V.int (f j)) p g (fun j => .int (f j)) := by
  have fi := in_int (f := f) p0 pn (by omega) g0 (by omega)
  have ro := row_int (f := f) p0 pn (by omega) Q
  refine ⟨fi, ro, fun v q r fg => ?_⟩
  obtain ⟨v', q', r', fv⟩ := form_ex fi
  obtain ⟨qn, rfl, fg'⟩ := form_g fv ro
  obtain ⟨rfl, rfl, rfl⟩ := fg.uniq fg'
  refine good_form fi ro fv fun j hj => ?_
  rw [List.length_map, List.length_range] at hj
  have := bd j
  refine .inr ⟨_, rfl, ?_⟩
  unfold SmallI
  omega
end WW
end

section
set_option Elab.async false
set_option linter.all false
set_option maxRecDepth 100000
set_option maxHeartbeats 4000000
namespace WW
open PySem L2 WO WG RZ WQ WT WL WV
open LamX (ExtN Tabs TabS TabB lamS_by)
/-! ### what stays when tables grow -/
theorem ExtN.of_same {H H' : Hp} (s : Same H H') : ExtN H H' := fun b o e _ => s b o e
theorem SqT.extN {K : PySem.W.Frag} {H H' : Hp} {a : Addr} {xs : List V} (h : SqT K H a xs) (e : ExtN H H') : SqT K H' a xs := by
  rcases h with (h | ⟨o, h⟩) | h
  · exact .inl (.inl (e _ _ h fun _ z => by cases z))
  · exact .inl (.inr ⟨o, e _ _ h fun _ z => by cases z⟩)
  · exact .inr h
theorem SqL.extN {K : PySem.W.Frag} {H H' : Hp} {a : Addr} {xs : List V} (h : SqL K H a xs) (e : ExtN H H') : SqL K H' a xs := by
  rcases h with (h | ⟨o, h⟩) | h
  · exact .inl (.inl (e _ _ h fun _ z => by cases z))
  · exact .inl (.inr ⟨o, e _ _ h fun _ z => by cases z⟩)
  · exact .inr h
theorem SeqA.extN {K : PySem.W.Frag} {H H' : Hp} {a : Addr} {xs : List V} (h : SeqA K H a xs) (e : ExtN H H') : SeqA K H' a xs := by
  rcases h with h | h
  · exact .inl (SqL.extN h e)
  · exact .inr (SqT.extN h e)
theorem TyX.extN {K : PySem.W.Frag} {H H' : Hp} {x : V} {t : Value} (h : TyX K H x t) (s : ExtN H H') : TyX K H' x t := by
  cases h with
  | base h =>
    cases h with
    | non => exact .base .non
    | bl b => exact .base (.bl b)
    | int i => exact .base (.int i)
    | str z => exact .base (.str z)
    | flt z => exact .base (.flt z)
    | lst e => exact .base (.lst (s _ _ e fun _ z => by cases z))
    | frz e => exact .base (.frz (s _ _ e fun _ z => by cases z))
    | tup e => exact .base (.tup (s _ _ e fun _ z => by cases z))
    | dK e => exact .base (.dK (s _ _ e fun _ z => by cases z))
    | dT e => exact .base (.dT (s _ _ e fun _ z => by cases z))
    | ins e cl ha hn htk hm => exact .base (.ins (s _ _ e fun _ z => by cases z) cl ha hn htk hm)
  | byt b => exact .byt b
  | set e => exact .set (s _ _ e fun _ z => by cases z)
  | kList e c => exact .kList e c
  | kTuple e c => exact .kTuple e c
  | kDict e c => exact .kDict e c
  | fTuple e => exact .fTuple (s _ _ e fun _ z => by cases z)
  | fDict e => exact .fDict (s _ _ e fun _ z => by cases z)
theorem NumT.extN {K : PySem.W.Frag} {H H' : Hp} {x : V} {b : Bool} (h : NumT K H x b) (s : ExtN H H') : NumT K H' x b := by
  obtain ⟨t, b1, b2, h1, h2⟩ := h
  exact ⟨t, b1, b2, TyX.extN h1 s, h2⟩
theorem ListT.extN {K : PySem.W.Frag} {H H' : Hp} {x : V} {b : Bool} (h : ListT K H x b) (s : ExtN H H') : ListT K H' x b := by
  obtain ⟨t, h1, h2⟩ := h
  exact ⟨t, TyX.extN h1 s, h2⟩
theorem badFrom.extN {K : PySem.W.Frag} {H H' : Hp} {x : V} {lo hi : Int} (h : badFrom K H x lo hi) (s : ExtN H H') : badFrom K H' x lo hi := by
  rcases h with h | h
  · exact .inl (NumT.extN h s)
  · exact .inr h
theorem InitBad.extN {K : PySem.W.Frag} {H H' : Hp} {x p g : V} {part : Str} (h : InitBad K H x p g part) (s : ExtN H H') : InitBad K H' x p g part := by
  cases h with
  | noList h => exact .noList (ListT.extN h s)
  | start e h fl hz no => exact .start e (SeqA.extN h s) fl hz no
  | period e h fl S hp => exact .period e (SeqA.extN h s) fl S (badFrom.extN hp s)
  | growth e h fl S ep p1 p2 p3 hg => exact .growth e (SeqA.extN h s) fl S ep p1 p2 p3 (badFrom.extN hg s)
  | falls e h fl S ep p1 p2 p3 eg g0 g1 ex ey fa => exact .falls e (SeqA.extN h s) fl S ep p1 p2 p3 eg g0 g1 ex ey fa
theorem CurveAt.extN {H H' : Hp} {C x : Addr} {vals : List V} {q r : Int} (h : CurveAt H C x vals q r) (s : ExtN H H') : CurveAt H' C x vals q r := by
  obtain ⟨dx, t, h1, h2⟩ := h
  exact ⟨dx, t, s _ _ h1 (fun _ z => by cases z), s _ _ h2 (fun _ z => by cases z)⟩
theorem DrawAt.extN {H H' : Hp} {d l c : Addr} (D : DrawAt H d l c) (s : ExtN H H') : DrawAt H' d l c := by
  obtain ⟨⟨r, t, h⟩, ⟨la, h2, h3⟩, ⟨ce, h4, h5⟩, h6⟩ := D
  exact ⟨⟨r, t, s _ _ h fun _ z => by cases z⟩, ⟨la, s _ _ h2 (fun _ z => by cases z), h3⟩, ⟨ce, s _ _ h4 (fun _ z => by cases z), h5⟩, h6⟩
theorem Tabs.keepD {T : List (Addr × Str)} {H H' : Hp} {d l c : Addr} (D : DrawAt H d l c) (t : Tabs T H) (k : KeepD H H' d l) : Tabs T H' := fun p hp => by
  obtain ⟨ps, h1, h2, h3⟩ := t p hp
  obtain ⟨⟨r, t, hd⟩, ⟨la, hl, _⟩, _, _⟩ := D
  refine ⟨ps, k _ _ h1 (ne_of h1 hd (by intro z; cases z)) (ne_of h1 hl (by intro z; cases z)), h2, fun pos cv hc => ?_⟩
  obtain ⟨c, e1, e2⟩ := h3 pos cv hc
  exact ⟨c, e1, k _ _ e2 (ne_of e2 hd (by unfold LamX.CodeO; intro z; cases z)) (ne_of e2 hl (by unfold LamX.CodeO; intro z; cases z))⟩
theorem Tabs.same {T : List (Addr × Str)} {H H' : Hp} (t : Tabs T H) (s : Same H H') : Tabs T H' := LamX.Tabs.ext t s
theorem CurveAt.keepD {H H' : Hp} {d l c C x : Addr} {vals : List V} {q r : Int} (h : CurveAt H C x vals q r) (D : DrawAt H d l c) (k : KeepD H H' d l) : CurveAt H' C x vals q r := by
  obtain ⟨dx, t, h1, h2⟩ := h
  obtain ⟨⟨r, t', hd⟩, ⟨la, hl, _⟩, _, _⟩ := D
  exact ⟨dx, t, k _ _ h1 (ne_of h1 hd (by intro z; cases z)) (ne_of h1 hl (by intro z; cases z)), k _ _ h2 (ne_of h2 hd (by intro z; cases z)) (ne_of h2 hl (by intro z; cases z))⟩
theorem NoCur.extN {K : PySem.W.Frag} {H H' : Hp} {C : Addr} {x : V} (h : NoCur K H C x) (s : ExtN H H') : NoCur K H' C x := by
  obtain ⟨t, h1, h2⟩ := h
  exact ⟨t, TyX.extN h1 s, h2⟩
theorem errC_extN {H H' : Hp} {a C : Addr} {f : Str} {y : V} (h : ErrC H a C (some (f, y))) (s : ExtN H H') : ErrC H' a C (some (f, y)) := by
  cases h with
  | with_ h hd => exact .with_ (s _ _ h (fun _ z => by unfold Caught at z; cases z)) (s _ _ hd (fun _ z => by cases z))
theorem tabs_put {T : List (Addr × Str)} {H : Hp} {t : Addr} {xs ys : List V} (h : Tabs T H) (ht : H t = some (.lst xs)) : Tabs T (upd H t (.lst ys)) := fun p hp => by
  obtain ⟨ps, h1, h2, h3⟩ := h p hp
  refine ⟨ps, by rw [upd_ne (ne_of h1 ht (by intro z; cases z))]; exact h1, h2, fun pos cv hc => ?_⟩
  obtain ⟨c, e1, e2⟩ := h3 pos cv hc
  exact ⟨c, e1, by rw [upd_ne (ne_of e2 ht (by unfold LamX.CodeO; intro z; cases z))]; exact e2⟩
theorem skE {H H' : Hp} {d l e a : Addr} {xs : List V} {p : Nat} {g : Int} (h : SkAt H d l e a xs p g) (k : ExtN H H') : SkAt H' d l e a xs p g :=
  ⟨k _ _ h.ob (fun _ z => by cases z), k _ _ h.li (fun _ z => by cases z), h.ed, h.el, h.ad, h.al⟩
/-- an error's class, as the hook reads it -/
structure ErrGf (K : PySem.W.Frag) (W C : Addr) (f : Str) : Prop where
  ask : AskE K C
  ex : PySem.W.exmOne K (.ref C) (.ref W) = some true
  one : PySem.W.kitOne K (.ref C) (.ref C) = some true
  hd : PySem.W.hasDictIn K C = true
  hf : PySem.W.findIn K (.ref C) f = some none
/-- the draw stands, and the tables of code -/
structure DT (T : List (Addr × Str)) (H : Hp) (d l c : Addr) : Prop where
  D : DrawAt H d l c
  T : Tabs T H
section
variable {T : List (Addr × Str)} {H H' : Hp} {d l c : Addr}
theorem DT.same (h : DT T H d l c) (s : Same H H') : DT T H' d l c := ⟨h.D.same s, Tabs.same h.T s⟩
theorem DT.keep (h : DT T H d l c) (D' : DrawAt H' d l c) (k : KeepD H H' d l) : DT T H' d l c := ⟨D', Tabs.keepD h.D h.T k⟩
theorem DT.ext (h : DT T H d l c) (T' : Tabs T H') (x : ExtN H H') : DT T H' d l c := ⟨h.D.extN x, T'⟩
end
theorem IsCur.extN {H H' : Hp} {C x : Addr} {L : Nat → V} (h : IsCur H C x L) (s : ExtN H H') : IsCur H' C x L := by
  obtain ⟨v, q, r, h1, h2⟩ := h
  exact ⟨v, q, r, h1.extN s, h2⟩
theorem IsCur.keepD {H H' : Hp} {d l c C x : Addr} {L : Nat → V} (h : IsCur H C x L) (D : DrawAt H d l c) (k : KeepD H H' d l) : IsCur H' C x L := by
  obtain ⟨v, q, r, h1, h2⟩ := h
  exact ⟨v, q, r, h1.keepD D k, h2⟩
theorem lst_keep {H H' : Hp} {d l c a : Addr} {xs : List V} (h : H a = some (.lst xs)) (D : DrawAt H d l c) (al : a ≠ l) (k : KeepD H H' d l) : H' a = some (.lst xs) := by
  obtain ⟨⟨r', t', hd⟩, _⟩ := D
  exact k _ _ h (ne_of h hd (by intro z; cases z)) al
theorem tup_keep {H H' : Hp} {d l c t : Addr} {xs : List V} (h : H t = some (.tup xs)) (D : DrawAt H d l c) (k : KeepD H H' d l) : H' t = some (.tup xs) := by
  obtain ⟨⟨r', t', hd⟩, ⟨la, hl, _⟩, _⟩ := D
  exact k _ _ h (ne_of h hd (by intro z; cases z)) (ne_of h hl (by intro z; cases z))
/-- x != y of two curves of one function -/
theorem ne_cur {K : PySem.W.Frag} {C : Addr} {E : XK} {H : Hp} {Q : VK} {x y : Addr} {L : Nat → V} (h1 : IsCur H C x L) (h2 : IsCur H C y L) (k : ∀ H', Same H H' → Q (.bl false) H') : rOwN C (spEqC K C) E (.ref x) (.ref y) H Q := by
  obtain ⟨v, q, r, c1, f1⟩ := h1
  obtain ⟨v', q', r', c2, f2⟩ := h2
  obtain ⟨rfl, rfl, rfl⟩ := f1.uniq f2
  obtain ⟨dx, tx, x1, x2⟩ := id c1
  obtain ⟨dy, ty, y1, y2⟩ := id c2
  refine ⟨x, dx, _, y, dy, _, rfl, x1, rfl, y1, x, .ref y, v, q, r, rfl, c1, f1.flat, .inl ⟨y, v, q, r, rfl, c2, f1.flat, fun H8 s8 => ⟨_, rfl, ?_⟩⟩⟩
  rw [decide_eq_true ⟨rfl, rfl, rfl⟩]
  exact k H8 s8
theorem ne_cur2 {K : PySem.W.Frag} {C : Addr} {E : XK} {H : Hp} {Q : VK} {x y : Addr} {L M : Nat → V} (h1 : IsCur H C x L) (h2 : IsCur H C y M) (e : ∀ j, L j = M j) (k : ∀ H', Same H H' → Q (.bl false) H') : rOwN C (spEqC K C) E (.ref x) (.ref y) H Q := by
  have : L = M := funext e
  subst this
  exact ne_cur h1 h2 k
/-- words in other orders -/
def kgR1 {α : Type} : List α → List α → List α
  | [], [a] => [a]
  | _, _ => []
def kgR2 {α : Type} : List α → List α → List α
  | [], [a, b] => [b, a]
  | _, _ => []
def kgR3 {α : Type} : List α → List α → List α
  | [], [a, b, c] => [c, b, a]
  | _, _ => []
abbrev sCaught : Stmt := top 63
theorem scCaught : FnScope nCaught ["work"] (defScope sCaught) := ⟨rfl, rfl, rfl, by decide +kernel, rfl, by decide +kernel, by decide +kernel⟩
end WW
end

section
set_option Elab.async false
set_option linter.all false
set_option maxRecDepth 100000
set_option maxHeartbeats 4000000
/-! lambdas handed on: by a def that was handed them, or by its own calls -/
namespace WY
open PySem PySem.Spec PyProof.Rows L2 LamX WT WV
theorem frs_cons {q : Str} {sc : Scope} {f L : Addr} {cd : Value} {O : List Env} : frs (envOfC q sc L f cd :: O) = L :: frs O := rfl
theorem un_deep {q : Str} {sc : Scope} {f : Addr} {cd : Value} {O : List Env} {H H1 H2 : Hp} {h h1 h2 : Heap} (a : Un (frs O) [] H H1 h h1) (b : Un (frs (envOfC q sc h.objs.size f cd :: O)) [] H1 H2 h1 h2) : Un (frs O) [] H H2 h h2 := by
  have no : ∀ (c : Addr) (o : Obj), h.get? c = some o → c ∉ frs O → c ∉ frs (envOfC q sc h.objs.size f cd :: O) := fun c o e hc hm => by
    rw [frs_cons] at hm
    rcases List.mem_cons.mp hm with z | z
    · exact absurd (z ▸ Heap.lt_size e) (Nat.lt_irrefl _)
    · exact hc z
  exact
  { keep := fun c o e n hc hx => b.keep c o (a.keep c o e n hc hx) (a.free c o e n hx) (no c o e hc) hx
    slot := fun c o e n hc hx => by
      obtain ⟨sl, e1⟩ := a.slot c o e n hc hx
      obtain ⟨sl', e2⟩ := b.slot c _ e1 (a.free c o e n hx) (by rw [frs_cons]; exact List.mem_cons_of_mem _ hc) hx
      exact ⟨sl', e2⟩
    free := fun c o e n hx => by
      obtain ⟨o', e1⟩ := a.there c o e hx
      exact b.free c o' e1 (a.free c o e n hx) hx
    there := fun c o e hx => by
      obtain ⟨o', e1⟩ := a.there c o e hx
      exact b.there c o' e1 hx
    tups := fun c xs e => b.tups c xs (a.tups c xs e)
    frzs := fun c o u e => b.frzs c o u (a.frzs c o u e)
    tbls := fun c ps e => by
      obtain ⟨m1, e1⟩ := a.tbls c ps e
      obtain ⟨m2, e2⟩ := b.tbls c _ e1
      exact ⟨m1 ++ m2, by rw [e2, Array.append_assoc]⟩ }
/-- a lambda's text and closure -/
structure LD where
  q : Str
  pr : Arguments
  bd : Expr
  sc : Scope
  cl : List (Str × Addr)
def LD.at_ (d : LD) (H : Hp) (f c : Addr) : Prop := H f = some (LamO f d.q d.pr d.bd d.sc d.cl c) ∧ H c = some (CodeO c d.q)
theorem LD.at_same {d : LD} {H H' : Hp} {f c : Addr} (h : d.at_ H f c) (s : ∀ b o, H b = some o → H' b = some o) : d.at_ H' f c := ⟨s _ _ h.1, s _ _ h.2⟩
abbrev TL := XK → Hp → VK → Prop
/-- calling the lambda, wherever its maker's frame is as it was at s and H -/
def LamCall (P : Program) (w : World) (K : PySem.W.Frag) (mg : Str → Option Value) (base : Heap) (k : Nat) (d : LD) (tl : TL) (O : List Env) (s : Shared) (H : Hp) : Prop :=
  ∀ (f c' : Addr) (A : Around) (outer : List Env) (s1 : Shared) (H1 : Hp) (E : XK) (Q : VK), Env0 P w K mg base A outer s1 H1 → Un (frs O) [] H H1 s.heap s1.heap → d.at_ H1 f c' → tl E H1 Q → Room (k + 1) A →
    codeAny (model P w) A (.call (.ref f) ⟨[], []⟩) (CR (L2.CX P w) outer P w H1 s1 Q E) s1
section
variable {P : Program} {w : World} {K : PySem.W.Frag} {mg : Str → Option Value} {base : Heap} {k : Nat} {d : LD} {tl : TL} {O : List Env} {s0 : Shared} {H0 : Hp}
theorem LamCall.frame (h : LamCall P w K mg base k d tl O s0 H0) {q : Str} {sg : Scope} {g : Addr} {cd : Value} {s : Shared} {H : Hp} (b : Un (frs O) [] H0 H s0.heap s.heap) : LamCall P w K mg base k d tl (envOfC q sg s0.heap.objs.size g cd :: O) s H :=
  fun f c' A outer s1 H1 E Q e0 u hd ht hr => h f c' A outer s1 H1 E Q e0 (un_deep b u) hd ht hr
end
section
variable {X : Cx} {pins : List (Addr × Obj)} {σ : L2.St} {H : Hp} {s : Shared}
theorem LamCall.of_inv {k : Nat} {pr : Arguments} {bd : Expr} {sc : Scope} {t : XK → TE} (I : Inv X pins σ H s) (L : LamS X.env.scope sc)
    (hbind : ∀ (q : Str) (cl : List (Str × Addr)) (pm cv ctv : Value), bindArgs (PySem.W.kla_fn "<lambda>" q pr bd sc cl pm cv ctv) ⟨[], []⟩ = pure [])
    (hbody : ∀ (A : Around) (outer : List Env) (s : Shared) (H : Hp) (E : XK) (f c' : Addr), Room k (A.deeper (lamEnv X sc s.heap.objs.size f c')) → PE (lamCx X A outer s H E sc f c') bd (t E)) :
    LamCall X.prog X.w X.K X.mg X.base k ⟨X.env.qual ++ "<lambda>", pr, bd, sc, cloFrom X.env.cells sc.names []⟩ (fun E H Q => t E σ H Q) X.stack s H := by
  intro f c' A outer s1 H1 E Q e0 un hd ht hr
  obtain ⟨hf, hc⟩ := hd
  obtain ⟨⟨pm, ctv, of1⟩, _, _⟩ := e0.hok f _ hf
  obtain ⟨⟨oc, vs, t', hoc, hdc, hvc⟩, _, _⟩ := e0.hok c' _ hc
  refine PySem.W.kla_callFunE hr.depth of1 rfl L.co L.gen rfl ⟨c', oc, vs, t', rfl, hoc, hdc, hvc⟩ ?_
  rw [hbind]
  refine wpAny_pure (wpAny_newFunctionEnv (fun y hy => (L.own y hy).2) (fun y hy => absurd hy (by simp)) ?_ L.kind)
  intro h₁ hns hsb
  have nl : s1.heap.NoLimit := e0.mod.nolimit.keeps fun b o e => (e0.bs b o e).1
  refine ⟨nl.fresh _ hsb, ?_⟩
  have kp : ∀ b o, s1.heap.get? b = some o → h₁.get? b = some o := by
    intro b o e
    exact hsb.extBut b o (Nat.ne_of_lt (Heap.lt_size e)) (Heap.get?_push_of_some _ e)
  have J := lam_start2 (E := E) (f := f) (c' := c') (tk := s1.toks + ([] : List (Str × Value)).length) I L e0 hr.hd un hns kp
  refine PySem.W.kla_codeExpr (wpAny_mono ((hbody A outer s1 H1 E f c' (hr.deeper _)).run [] _ _ H1 Q J ht) ?_ fun e s' hq => hq)
  rintro v s' ⟨w', H', J', rv, q⟩
  exact ⟨w', H', J'.os, J'.bare, J'.base, J'.hok, rv, q⟩
/-- what a frame knows of the lambdas that it may be handed -/
def Knows (X : Cx) (k : Nat) {ι : Type} (d : ι → LD) (tl : ι → L2.St → TL) : Prop := ∀ (pins : List (Addr × Obj)) (σ : L2.St) (H : Hp) (s : Shared), Inv X pins σ H s → ∀ j, LamCall X.prog X.w X.K X.mg X.base k (d j) (tl j σ) X.stack s H
theorem Knows.of {CX : CXT} {P : Program} {w : World} {K : PySem.W.Frag} {mg : Str → Option Value} {base : Heap} {k : Nat} {ι : Type} {d : ι → LD} {tl : ι → TL} {O : List Env} {s0 : Shared} {H0 : Hp} {N : List Str} {q : Str} {sg : Scope} {g : Addr} {cd : Value} {A : Around} {E : XK}
    (h : ∀ j, LamCall P w K mg base k (d j) (tl j) O s0 H0) : Knows (cxOf CX P w K mg base N q sg g cd A O s0 H0 E).nox k d (fun j _ => tl j) := fun pins σ H s I j => (h j).frame I.base
variable {ι : Type} {k : Nat} {d : ι → LD} {tl : ι → L2.St → TL}
/-- a(), a lambda that is known -/
theorem pe_actL {i : Nat} {a : Str} {E : XK} {p1 p2 : Pos} (kn : Knows X k d tl) (hr : Room (k + 1) X.A) (hx : Passes (L2.CX X.prog X.w) X E)
    (hN : X.N[i]? = some a) (hv : Vis X.env.scope a) (hd : (a == ("__debug__" : Str)) = false := by decide) (hcd : (a == ("__classdict__" : Str)) = false := by decide) :
    PE X (.Call (.Name a p1) [] [] p2) (fun σZ HZ Q => ∃ j f c', σZ[i]? = some (some (.ref f)) ∧ (d j).at_ HZ f c' ∧ tl j σZ E HZ Q) := by
  refine ⟨fun pinsZ sZ σZ HZ Q IZ h => ?_⟩
  obtain ⟨j, f, c', hs, hf, ht⟩ := h
  refine wpAny_Call_Name_kw (thn ((pe_var (pos := p1) (i := i) hN hv hd hcd).run pinsZ sZ σZ HZ (fun v H1 => v = .ref f ∧ H1 = HZ) IZ ⟨.ref f, hs, rfl, rfl⟩) ?_)
  rintro u s1 ⟨v, H1, I1, r1, rfl, rfl⟩
  obtain rfl : u = Value.ref f := r1
  obtain ⟨⟨pm, ctv, of1⟩, _, _⟩ := I1.hok f _ hf.1
  refine PySem.W.callWith_F0 ⟨_, _, _, _, of1⟩ ?_
  refine wpAny_call (codeAny_mono (kn pinsZ σZ H1 s1 I1 j f c' X.A X.stack s1 H1 E Q I1.env0 Un.refl hf ht hr) ?_)
  intro r s' hq
  cases r with
  | error e => exact hx pinsZ σZ H1 s1 e s' I1 hq
  | ok fl =>
    cases fl with
    | ret u => exact I1.after hq
    | next => exact False.elim hq
    | brk => exact False.elim hq
    | cont => exact False.elim hq
theorem Knows.ofT {CX : CXT} {P : Program} {w : World} {K : PySem.W.Frag} {mg : Str → Option Value} {base : Heap} {k : Nat} {ι : Type} {d : ι → LD} {tl : ι → TL} {O : List Env} {s0 : Shared} {H0 : Hp} {N : List Str} {q : Str} {sg : Scope} {g : Addr} {cd : Value} {A : Around} {E : XK} {pn : List (Addr × Obj)} {xe : Value → Shared → Prop}
    (h : ∀ j, LamCall P w K mg base k (d j) (tl j) O s0 H0) : Knows ((cxOf CX P w K mg base N q sg g cd A O s0 H0 E).tr pn xe) k d (fun j _ => tl j) := fun pins σ H s I j => (h j).frame I.base
theorem Knows.mk1 {X : Cx} {k : Nat} {pr : Arguments} {bd : Expr} {sc : Scope} {t : XK → TE} (L : LamS X.env.scope sc)
    (hbind : ∀ (q : Str) (cl : List (Str × Addr)) (pm cv ctv : Value), bindArgs (PySem.W.kla_fn "<lambda>" q pr bd sc cl pm cv ctv) ⟨[], []⟩ = pure [])
    (hbody : ∀ (A : Around) (outer : List Env) (s : Shared) (H : Hp) (E : XK) (f c' : Addr), Room k (A.deeper (lamEnv X sc s.heap.objs.size f c')) → PE (lamCx X A outer s H E sc f c') bd (t E)) :
    Knows X k (fun _ : Unit => ⟨X.env.qual ++ "<lambda>", pr, bd, sc, cloFrom X.env.cells sc.names []⟩) (fun _ σ E H Q => t E σ H Q) := fun pins σ H s I _ => LamCall.of_inv I L hbind hbody
theorem Knows.or {X : Cx} {k : Nat} {ι κ : Type} {d1 : ι → LD} {d2 : κ → LD} {t1 : ι → L2.St → TL} {t2 : κ → L2.St → TL} (h1 : Knows X k d1 t1) (h2 : Knows X k d2 t2) : Knows X k (fun j : ι ⊕ κ => Sum.elim d1 d2 j) (fun j σ => Sum.elim (fun i => t1 i σ) (fun i => t2 i σ) j) := fun pins σ H s I j => by
  cases j with
  | inl i => exact h1 pins σ H s I i
  | inr i => exact h2 pins σ H s I i
/-- a call whose body is told the caller's frame -/
theorem pe_callI {x : Str} {st : Stmt} {g : Addr} {fd : FuncData} {Ng ps : List Str} {e : Expr} {es : List Expr} {ta : TA} {kk : Nat} {p pos : Pos} {G : L2.St → List V → Hp → VK → Prop} (F : Fun X.K x x st g fd) (Sg : FnScope Ng ps (defScope st)) (hb : L2.Binds X.K fd ps []) (hg : Gl X x) (hm : X.mg x = some (.ref g)) (hr : Room (kk + 1) X.A)
    (hG : ∀ (pins : List (Addr × Obj)) (σ : L2.St) (H : Hp) (s : Shared) (vs : List V) (Q : VK) (cdv : Value), Inv X pins σ H s → G σ vs H Q → vs.length = ps.length ∧ (Room kk (X.A.deeper (envOfC x (defScope st) s.heap.objs.size g cdv)) →
      ∃ t, PSs (cxOf C8.CX0 X.prog X.w X.K X.mg X.base Ng x (defScope st) g cdv X.A X.stack s H C8.E0).nox (defBody st) t ∧ t { nx := fun _ H' => Q .non H', rt := Q } (L2.start Ng vs) H))
    (ha : PA X (e :: es) ta) (hdb : (x == ("__debug__" : Str)) = false := by decide) (he : starEach (e :: es) X.env = (false, eval e X.env) :: starEach es X.env := by rfl) (hpl : (backTo pos (starEach es X.env)).any (·.1) = false := by rfl) :
    PE X (.Call (.Name x p) (e :: es) [] pos) (fun σ H Q => ta σ H fun vs H1 => G σ vs H1 Q) := by
  refine ⟨fun pins s σ H Q I h => ?_⟩
  obtain ⟨oc, od, kV, doc, pm, an, cdv, ct, osl, rfl, lk, hcd⟩ := F.ex
  refine wpAny_Call_Name_kw (ld_glob I hg hm ?_ hdb)
  refine PySem.W.callWith_K (h₀ := X.base) I.ok.mod.kin F.kp (thn (ha.run pos pins s σ H _ I h) ?_) he hpl
  rintro us s1 ⟨vs, H1, I1, r, hq⟩
  refine ⟨I1.kIn, ?_⟩
  obtain ⟨hl, body⟩ := hG pins σ H1 s1 vs Q cdv I1 hq
  have hb1 := hb s1 us I1.kIn (by rw [List.append_nil, ← r.length]; exact hl)
  rw [List.append_nil] at hb1
  have rc : codeAny (model X.prog X.w) X.A (.call (.ref g) ⟨us, []⟩) (CR C8.CX0 X.stack X.prog X.w H1 s1 Q C8.E0) s1 := by
    refine run_ofS (N := Ng) (ps := ps) (us := us) (vs := vs) lk hcd Sg hr I1.env0 hb1 r hl ?_
    intro hr'
    obtain ⟨t', ht', hq'⟩ := body hr'
    exact ⟨t', ht'.nox, hq'⟩
  refine wpAny_call (codeAny_mono rc ?_)
  intro r' s2 hq'
  cases r' with
  | error e => exact (show False from hq').elim
  | ok fl =>
    cases fl with
    | ret u => exact I1.after hq'
    | next => exact False.elim hq'
    | brk => exact False.elim hq'
    | cont => exact False.elim hq'
end
/-- _law_caught, handed a lambda that is known -/
theorem caught_body {P : Program} {w : World} {K : PySem.W.Frag} {mg : Str → Option Value} {base : Heap} {k : Nat} {d : LD} {tl : TL} {O : List Env} {s : Shared} {H : Hp} {A : Around} {sg : Scope} {g W f c' : Addr} {cdg : Value} {Q : VK} {j1 : Nat} {p1 p2 p3 p4 p5 p6 p7 p8 p9 p10 p11 p12 p13 p14 : Pos}
    (hge : sg.names.lookup ("WaitError" : Str) = some .globalImplicit) (hme : mg "WaitError" = some (.ref W)) (hl0 : sg.names.lookup ("work" : Str) = some .local) (hl1 : sg.names.lookup ("caught" : Str) = some .local) (hl2 : sg.names.lookup ("error" : Str) = some .local)
    (hL : LamCall P w K mg base k d tl O s H) (hr : Room (k + 1) (A.deeper (envOfC "_law_caught" sg s.heap.objs.size g cdg))) (hd : d.at_ H f c') (h : TTc K W tl H Q) :
    ∃ t, PSs (cxOf C8.CX0 P w K mg base nCaught "_law_caught" sg g cdg A O s H C8.E0).nox [.Assign [.Name "caught" p1] (.Constant .none j1 p2) p3,
      .Try [.Expr (.Call (.Name "work" p4) [] [] p5) p6] [.ExceptHandler (some (.Name "WaitError" p7)) (some "error") [.Assign [.Name "caught" p8] (.Name "error" p9) p10] p11] [] [] p12,
      .Return (some (.Name "caught" p13)) p14] t ∧ t { nx := fun _ H' => Q .non H', rt := Q } (L2.start nCaught [.ref f]) H := by
  have nd : nCaught.Nodup := by decide +kernel
  refine ⟨_, pss_cons (ps_set (i := 1) nd rfl (Or.inl hl1) pe_non)
    (pss_cons (ps_try_err (X := (cxOf C8.CX0 P w K mg base nCaught "_law_caught" sg g cdg A O s H C8.E0).nox) (c := .ref W) (i := 2)
        (tb := fun W' D σ H => ∃ Ech : XK, (∀ cls d σ' H', Ech cls d H' → W' cls d σ' H') ∧ σ[0]? = some (some (.ref f)) ∧ d.at_ H f c' ∧ tl Ech H (fun _ H' => D.nx σ H'))
        rfl rfl rfl nd rfl hl2 ⟨hge, by decide, .inl hme⟩ (fun W' pn xe tk => ?_) (fun a pn => pss_one (ps_set (i := 1) nd rfl (Or.inl hl1) (pe_var (i := 2) rfl (Or.inl hl2)))))
    (pss_one (ps_ret (pe_var (i := 1) rfl (Or.inl hl1))))), ?_⟩
  · refine ⟨fun pins s' σ H' D I h' => ?_⟩
    obtain ⟨Ech, hW, h1, h0, h3⟩ := h'
    exact (pss_one (ps_expr (pos := p6) (pe_actL (X := (cxOf C8.CX0 P w K mg base nCaught "_law_caught" sg g cdg A O s H C8.E0).nox.tr pn xe) (ι := Unit) (i := 0) (a := "work") (p1 := p4) (p2 := p5) (E := Ech) (Knows.ofT (CX := C8.CX0) (E := C8.E0) fun _ => hL) hr (passes_call tk hW) rfl (Or.inl hl0)))).run pins s' σ H' D I ⟨(), f, c', h1, h0, h3⟩
  · refine ⟨_, fun cls d σ' H' h' => ?_, rfl, hd, h⟩
    obtain ⟨e1, e2⟩ := h'
    refine ⟨e1, fun hl a ha => ?_⟩
    match σ', hl with
    | [x0, x1, x2], _ => exact ⟨.ref a, rfl, .ref a, rfl, e2 a ha⟩
end WY
end

section
set_option Elab.async false
set_option linter.all false
set_option maxRecDepth 100000
set_option maxHeartbeats 4000000
/-! of several defs that a name may hold, such as raise: the promise goes with the address -/
namespace WY
open PySem PySem.Spec L2 PyProof.Rows
structure HeldX (P : Program) (w : World) (K : PySem.W.Frag) (mg : Str → Option Value) (base : Heap) (k : Nat) (f : Addr) (sp : Sp) : Prop where
  ex : ∃ (fd : FuncData) (ps : List Str), FnOk P w K mg base (L2.CX P w) k f fd ps sp ∧ PySem.W.keepIn K (.ref f) = true ∧ Binds K fd ps []
theorem HeldX.of {P : Program} {w : World} {K : PySem.W.Frag} {mg : Str → Option Value} {base : Heap} {k : Nat} {f : Addr} {fd : FuncData} {ps : List Str} {sp : Sp} (h : FnOk P w K mg base (L2.CX P w) k f fd ps sp) (kp : PySem.W.keepIn K (.ref f) = true) (b : Binds K fd ps []) : HeldX P w K mg base k f sp := ⟨_, _, h, kp, b⟩
variable {X : Cx} {k i : Nat} {E : XK} {x : Str} {p pos : Pos} {e : Expr} {es : List Expr} {t : TA}
theorem pe_callAX {S : Addr → Sp → Prop} (A : ∀ f sp, S f sp → HeldX X.prog X.w X.K X.mg X.base k f sp) (hr : Room k X.A) (hN : X.N[i]? = some x) (hv : Vis X.env.scope x) (hx : Passes (L2.CX X.prog X.w) X E) (ha : PA X (e :: es) t)
    (hdb : (x == ("__debug__" : Str)) = false := by decide) (hcd : (x == ("__classdict__" : Str)) = false := by decide)
    (he : starEach (e :: es) X.env = (false, eval e X.env) :: starEach es X.env := by rfl) (hpl : (backTo pos (starEach es X.env)).any (·.1) = false := by rfl) :
    PE X (.Call (.Name x p) (e :: es) [] pos) (fun σ H Q => ∃ f sp, σ[i]? = some (some (.ref f)) ∧ S f sp ∧ t σ H fun vs H1 => sp vs H1 Q E) := by
  refine ⟨fun pins s σ H Q I h => ?_⟩
  obtain ⟨f, sp, hs, hS, ht⟩ := h
  obtain ⟨fd, ps, F, hk, hb⟩ := (A f sp hS).ex
  refine (pe_callL (i := i) (f := f) (sp := sp) (dvs := []) (E := E) F hr hN hv hk hb .nil hx ha hdb hcd he hpl).run pins s σ H Q I ⟨hs, ?_⟩
  have e0 : (fun (vs : List V) (H1 : Hp) => sp (vs ++ []) H1 Q E) = fun vs H1 => sp vs H1 Q E := by
    funext vs H1
    rw [List.append_nil]
  show t σ H (fun vs H1 => sp (vs ++ []) H1 Q E)
  rw [e0]
  exact ht
theorem pt_either {t u : TT} (h1 : PT X e t) (h2 : PT X e u) : PT X e (fun σ H Q => t σ H Q ∨ u σ H Q) := by
  refine ⟨fun pins s σ H Q I h => ?_⟩
  rcases h with h | h
  · exact h1.run pins s σ H Q I h
  · exact h2.run pins s σ H Q I h
/-- a promise as a thing of its own, not to be looked into -/
structure Wrap (sp : Sp) (vs : List V) (H : Hp) (Q : VK) (E : XK) : Prop where
  out : sp vs H Q E
def wr (sp : Sp) : Sp := fun vs H Q E => Wrap sp vs H Q E
section
variable {P : Program} {w : World} {K : PySem.W.Frag} {mg : Str → Option Value} {base : Heap} {CX : CXT} {ps : List Str} {sp : Sp}
theorem Cal_wr {x : Str} {k : Nat} (c : WC.Cal P w K mg base CX k x ps sp) : WC.Cal P w K mg base CX k x ps (wr sp) := by
  obtain ⟨f, fd, F, kp, b, m⟩ := c.ex
  exact ⟨f, fd, F.imp fun vs H Q E h => h.out, kp, b, m⟩
theorem CalG_wr {x : Str} {k : Nat} (c : WC.CalG P w K mg base CX k x ps sp) : WC.CalG P w K mg base CX k x ps (wr sp) := by
  obtain ⟨f, fd, F, kp, b, m⟩ := c.ex
  exact ⟨f, fd, ⟨fun vs H Q E h => F.len vs H Q E h.out, fun A outer s H args us vs Q E hr hga e0 hb r hsp => F.run A outer s H args us vs Q E hr hga e0 hb r hsp.out⟩, kp, b, m⟩
end
end WY
end

section
set_option Elab.async false
set_option linter.all false
set_option maxRecDepth 100000
set_option maxHeartbeats 16000000
namespace WW
open PySem L2 WO WG RZ WQ WT WL WC WV WY
open LamX (ExtN Tabs TabS TabB lamS_by)
abbrev sJr : Stmt := top 70
abbrev lamQJ : Str := "_law_joins_right.<locals>.<lambda>"
theorem get_r {F : Nat → V} {N u : Nat} (h : u < N) : ((List.range N).map F)[u]? = some (F u) := by
  rw [List.getElem?_map, List.getElem?_range h]
  try rfl
theorem setI {σ σ' : L2.St} {n : Nat} {x y : Int} (h : x = y) (e : σ.set n (some (V.int y)) = σ' := by rfl) : σ.set n (some (V.int x)) = σ' := by rw [h]; exact e
theorem fdN {t a : Nat} : Int.fdiv (t : Int) (a : Int) = ((t / a : Nat) : Int) := by
  rw [Int.fdiv_eq_ediv_of_nonneg _ (by omega)]
  try rfl
theorem nat_le6 {n : Nat} (h : n ≤ 1000000) : (n : Int) ≤ 1000000 := by omega
theorem extN_put {H H' : Hp} {u : Addr} {o : HO} (e : ExtN H H') (hu : H u = none) : ExtN H (upd H' u o) := fun b o' hb n => by
  rw [upd_ne (ne_of_none hb hu)]
  exact e b o' hb n
/-- what is asked of two curves: the curve of U, or TooMany -/
def AskJ (S : Addr → Sp → Prop) (C CT x y : Addr) (H : Hp) (f : Addr) (U : Nat → V) : Prop := ∃ sp : Sp, S f sp ∧ ∀ H', ExtN H H' → ∀ (Q : VK) (E : XK), HandJ C CT U H' Q E → sp [.ref x, .ref y] H' Q E
theorem KCn.extN {kn : Nat} {H H' : Hp} {C x : Addr} {L : Nat → V} {q : Nat} (h : KCn kn H C x L q) (e : ExtN H H') : KCn kn H' C x L q := by
  obtain ⟨v, r, h1, h2⟩ := h
  exact ⟨v, r, h1.extN e, h2⟩
theorem lcm_div {a b c : Nat} : ∃ m, Nat.lcm (Nat.lcm a b) c = Nat.lcm a b * m := by
  obtain ⟨m, hm⟩ := Nat.dvd_lcm_left (Nat.lcm a b) c
  exact ⟨m, hm⟩
section
variable {P : Program} {w : World} {K : PySem.W.Frag} {mg : Str → Option Value} {base : Heap}
abbrev nJr : List Str := ["first", "second", "beats_here", "both", "common", "one", "two", "three", "here", "there", "low", "high", "total", "dues", "ask", "row", "period_here", "growth_here", "due", "told", "caught", "beat"]
theorem scJr : FnScope nJr ["first", "second", "beats_here", "both", "common"] (defScope sJr) := ⟨rfl, rfl, rfl, by decide +kernel, rfl, by decide +kernel, by decide +kernel⟩
def spJr (K : PySem.W.Frag) (C : Addr) (TT : List (Addr × Str)) : Sp := fun vs H Q _ => ∃ (x y u : Addr) (a b c D cm : Nat), vs = [.ref x, .ref y, .ref u, .int D, .int cm] ∧ Tabs TT H ∧ H u = some (.lst [.int a, .int b, .int c]) ∧ 50 ≤ a ∧ a ≤ 60 ∧ 50 ≤ b ∧ b ≤ 60 ∧ 40 ≤ c ∧ c ≤ 60 ∧ D = Nat.lcm a b ∧ cm = Nat.lcm D c ∧ cm ≤ 4000 ∧
  KCn 4000 H C x (fun j => .int (hF a b j)) D ∧ KCn 4000 H C y (fun j => .int (gF c j)) c ∧ ∀ H', ExtN H H' → Tabs TT H' → Q (.bl true) H'
theorem ok_jr {f fC fLof fMof fSum ct tbJ W C CB CT fI fE : Addr} {TT : List (Addr × Str)} {fd dC : FuncData} {S : Addr → Sp → Prop} (F : Fun K "_law_joins_right" "_law_joins_right" sJr f fd) (hcode : fd.code = .ref ct) (TB : TabB base mg ct tbJ) (mTT : (tbJ, lamQJ) ∈ TT) (uTT : ∀ p ∈ TT, p.1 = tbJ → p.2 = lamQJ) (T : CurG mg) (nrepr : mg "repr" = none) (nmin : mg "min" = none) (nmax : mg "max" = none) (U : CurT K mg C fI fE)
    (EM : ErrGf K W CT "most") (mW : mg "WaitError" = some (.ref W)) (mCT : mg "TooMany" = some (.ref CT)) (AH : ∀ f sp, S f sp → HeldX P w K mg base 10 f sp)
    (m_lof : mg "least_of" = some (.ref fLof)) (m_mof : mg "most_of" = some (.ref fMof)) (m_sum : mg "sum_of" = some (.ref fSum)) (hLof : S fLof (spLofW K C CB CT)) (hMof : S fMof (spMofW K C CB CT)) (hSum : S fSum (spSumX K C CT))
    (c_lfo : Cal P w K mg base CX0 1 "_law_form" ["row", "period_here", "growth_here"] (spForm K))
    (FC : Fun K "_law_caught" "_law_caught" sCaught fC dC) (bC : Binds K dC ["work"] []) (mC : mg "_law_caught" = some (.ref fC)) :
    FnG P w K mg base CX0 13 f fd ["first", "second", "beats_here", "both", "common"] (spJr K C TT) := by
  obtain ⟨ocC, odC, kVC, docC, pmC, anC, cdvC, ctC, oslC, rfl, lkC, hcdC⟩ := FC.ex
  have kC := FC.kp
  refine okC F hcode scJr (fun vs H Q E h => ?_) (fun A outer s H vs Q E hr hgu h => ?_)
  · obtain ⟨x, y, u, a, b, c, D, cm, rfl, _⟩ := h
    rfl
  · obtain ⟨x, y, u, a, b, c, D, cm, rfl, T0, hu0, a1, a2, b1, b2, c1, c2, eD, eC, c4, kx, ky, k⟩ := h
    have hu := hu_of hr
    have hu64 := hr.units
    refine ⟨_, (C8.pss_cut (ps_asg (pv 2) (pg_lst rfl (pgs_cons (pg_name (i := 5) scJr.nd rfl (Or.inr rfl)) (pgs_cons (pg_name (i := 6) scJr.nd rfl (Or.inr rfl)) (pgs_cons (pg_name (i := 7) scJr.nd rfl (Or.inr rfl)) pgs_nil)))))
 (C8.pss_cut (ps_set (i := 8) scJr.nd rfl (Or.inr rfl) (pe_lc (own := [("beat", 21)]) (g := (gName 21)) (tt := tYes) rfl scJr.nd (pi_range1 rfl T.range (pa_cons (pe_op op_add (pe_op op_add (pv 4) (pv 3)) pe_int) pa_nil)) (blkOk_by (N := nJr) (sc := defScope sJr) (by decide +kernel)) (fun _ _ _ _ _ => (pg_name (i := 21) scJr.nd rfl (Or.inl rfl))) (fun _ _ _ _ _ => pts_nil) (fun _ _ _ _ _ => (pe_op op_add (pe_op op_fdivN (pv 21) (pv 5)) (pe_op op_fdivN (pv 21) (pv 6))))))
 (C8.pss_cut (ps_set (i := 9) scJr.nd rfl (Or.inr rfl) (pe_op op_cat (pe_lst (pa_cons pe_int pa_nil)) (pe_lc (own := [("beat", 21)]) (g := (gName 21)) (tt := tYes) rfl scJr.nd (pi_range2 (by rfl) T.range (pa_cons pe_int (pa_cons (pe_op op_add (pe_op op_add (pv 4) (pv 3)) pe_int) pa_nil))) (blkOk_by (N := nJr) (sc := defScope sJr) (by decide +kernel)) (fun _ _ _ _ _ => (pg_name (i := 21) scJr.nd rfl (Or.inl rfl))) (fun _ _ _ _ _ => pts_nil) (fun _ _ _ _ _ => (pe_op op_add pe_int (pe_op op_fdivN (pv 21) (pv 7)))))))
 (C8.pss_cut (ps_setLc (i := 10) (own := [("beat", 21)]) (g := (gName 21)) (tt := tYes) rfl scJr.nd rfl rfl (sw_true rfl rfl rfl (by decide +kernel)) (pi_range1 rfl T.range (pa_cons (pe_op op_add pe_int (pv 7)) pa_nil)) (blkOk_by (N := nJr) (sc := defScope sJr) (by decide +kernel)) (fun _ _ _ _ _ => (pg_name (i := 21) scJr.nd rfl (Or.inl rfl))) (fun _ _ _ _ _ => pts_nil) (fun _ _ _ _ _ => (pe_callB (call_min2 rfl) (by rfl) nmin (by decide +kernel) (pa_cons (pe_ix (r := rIxL K) ix_list (pv 8) (pv 21) (fun _ _ => rfl)) (pa_cons (pe_ix (r := rIxL K) ix_list (pv 9) (pv 21) (fun _ _ => rfl)) pa_nil)))))
 (C8.pss_cut (ps_setLc (i := 11) (own := [("beat", 21)]) (g := (gName 21)) (tt := tYes) rfl scJr.nd rfl rfl (sw_true rfl rfl rfl (by decide +kernel)) (pi_range1 rfl T.range (pa_cons (pe_op op_add pe_int (pv 3)) pa_nil)) (blkOk_by (N := nJr) (sc := defScope sJr) (by decide +kernel)) (fun _ _ _ _ _ => (pg_name (i := 21) scJr.nd rfl (Or.inl rfl))) (fun _ _ _ _ _ => pts_nil) (fun _ _ _ _ _ => (pe_callB (call_max2 rfl) (by rfl) nmax (by decide +kernel) (pa_cons (pe_ix (r := rIxL K) ix_list (pv 8) (pv 21) (fun _ _ => rfl)) (pa_cons (pe_ix (r := rIxL K) ix_list (pv 9) (pv 21) (fun _ _ => rfl)) pa_nil)))))
 (C8.pss_cut (ps_setLc (i := 12) (own := [("beat", 21)]) (g := (gName 21)) (tt := tYes) rfl scJr.nd rfl rfl (sw_true rfl rfl rfl (by decide +kernel)) (pi_range1 rfl T.range (pa_cons (pe_op op_add (pv 4) pe_int) pa_nil)) (blkOk_by (N := nJr) (sc := defScope sJr) (by decide +kernel)) (fun _ _ _ _ _ => (pg_name (i := 21) scJr.nd rfl (Or.inl rfl))) (fun _ _ _ _ _ => pts_nil) (fun _ _ _ _ _ => (pe_op op_add (pe_ix (r := rIxL K) ix_list (pv 8) (pv 21) (fun _ _ => rfl)) (pe_ix (r := rIxL K) ix_list (pv 9) (pv 21) (fun _ _ => rfl)))))
 (C8.pss_cut (ps_set (i := 13) scJr.nd rfl (Or.inl rfl) (pe_lst (pa_cons (pe_tup (pa_cons (pe_glob (v := .ref fLof) rfl m_lof rfl) (pa_cons (pv 10) (pa_cons (pv 7) (pa_cons pe_int pa_nil))))) (pa_cons (pe_tup (pa_cons (pe_glob (v := .ref fMof) rfl m_mof rfl) (pa_cons (pv 11) (pa_cons (pv 3) (pa_cons (pe_op op_add (pe_op op_fdivN (pv 3) (pv 5)) (pe_op op_fdivN (pv 3) (pv 6))) pa_nil))))) (pa_cons (pe_tup (pa_cons (pe_glob (v := .ref fSum) rfl m_sum rfl) (pa_cons (pv 12) (pa_cons (pv 4) (pa_cons (pe_op op_add (pe_op op_fdivN (pe_op op_mul (pe_op op_add (pe_op op_fdivN (pv 3) (pv 5)) (pe_op op_fdivN (pv 3) (pv 6))) (pv 4)) (pv 3)) (pe_op op_fdivN (pv 4) (pv 7))) pa_nil))))) pa_nil)))))
 (C8.pss_cut (ps_for PassesOwn.never rfl (pi_list (pv 13)) (pg_tup rfl (pgs_cons (pg_name (i := 14) scJr.nd rfl (Or.inr rfl)) (pgs_cons (pg_name (i := 15) scJr.nd rfl (Or.inl rfl)) (pgs_cons (pg_name (i := 16) scJr.nd rfl (Or.inl rfl)) (pgs_cons (pg_name (i := 17) scJr.nd rfl (Or.inl rfl)) pgs_nil))))) (C8.pss_cut (ps_asg (pe_tup (pa_cons (pe_callC c_lfo (hr.mono (by decide)) rfl pass0 (pa_cons (pv 15) (pa_cons (pv 16) (pa_cons (pv 17) pa_nil)))) (pa_cons (pe_lst pa_nil) pa_nil))) (pg_tup rfl (pgs_cons (pg_name (i := 18) scJr.nd rfl (Or.inl rfl)) (pgs_cons (pg_name (i := 19) scJr.nd rfl (Or.inr rfl)) pgs_nil))))
 (C8.pss_cut (ps_set (i := 20) scJr.nd rfl (Or.inl rfl) (LamX.pe_lamcall (T := TT) (TT := TTc K W) (Ng := nCaught) (k := 10) (by rfl) mC kC lkC hcdC bC scCaught rfl (Or.inl rfl)
                (caught_gives rfl mW rfl rfl rfl) TB rfl mTT uTT hr (lamS_by (sc := defScope sJr) (by decide +kernel)) (by rfl) (fun _ _ _ _ _ => by rfl)
                (fun A outer s H E f c' hr' => (show PE _ _ (tBM K "list" rAppend (tVar 19) _) from (pe_bm PySem.F.plainAttrs_list PySem.F.slot_list_append PySem.F.type_list_append mt_append (pv 19) (pa_cons (WY.pe_callAX (S := S) (i := 14) AH (hr'.mono (by decide)) rfl (Or.inr (Or.inr rfl)) (passX (takes_of rfl rfl rfl rfl) fun _ _ _ _ h => h) (pa_cons (pv 0) (pa_cons (pv 1) pa_nil))) pa_nil))))))
 (pss_one
 (ps_if (pt_cmpR op_gt (pe_callB call_len_seq (by rfl) T.len PySem.boot_len (pa_cons (pe_ix ix_tup (pv 18) pe_int (fun _ _ => rfl)) pa_nil)) pe_int (nomark _)) (pss_one
 (ps_if (PW.pt (pw_or (pt_not (pt_val (pe_callB (r := rIsA K) call_isA (by rfl) T.isi (by decide +kernel) (pa_cons (pv 20) (pa_cons (pe_glob (v := .ref CT) rfl mCT rfl) pa_nil))))) (pw_or1 (pt_cmpR op_ne (pe_ctF (pv 20)) pe_int (nomark _))))) (pss_one
 (ps_ret pe_bl)) pss_nil)) (pss_one
 (ps_if (PW.pt (pw_or (pt_cmpR op_notN (pv 20) pe_non (nomark _)) (pw_or1 (pt_cmpR op_ne (pe_callB (call_repr hgu hu64) (by rfl) nrepr (by decide +kernel) (pa_cons (pe_tup (pa_cons (pe_fld (pe_ix ix_list (pv 19) pe_int (fun _ _ => rfl)) rfl) (pa_cons (pe_fld (pe_ix ix_list (pv 19) pe_int (fun _ _ => rfl)) rfl) (pa_cons (pe_fld (pe_ix ix_list (pv 19) pe_int (fun _ _ => rfl)) rfl) pa_nil)))) pa_nil)) (pe_callB (call_repr hgu hu64) (by rfl) nrepr (by decide +kernel) (pa_cons (pv 18) pa_nil)) (nomark _))))) (pss_one
 (ps_ret pe_bl)) pss_nil)))))))
 (pss_one
 (ps_ret pe_bl)))))))))), ?_⟩
    have D0 : 0 < D := by rw [eD]; exact Nat.lcm_pos (by omega) (by omega)
    have D36 : D ≤ 3600 := by rw [eD]; exact lcm_60 (by omega) (by omega) a2 b2
    have da : a ∣ D := by rw [eD]; exact Nat.dvd_lcm_left a b
    have db : b ∣ D := by rw [eD]; exact Nat.dvd_lcm_right a b
    have dDc : D ∣ cm := by rw [eC]; exact Nat.dvd_lcm_left D c
    have dcc : c ∣ cm := by rw [eC]; exact Nat.dvd_lcm_right D c
    have cm0 : 0 < cm := by rw [eC]; exact Nat.lcm_pos D0 (by omega)
    -- the three numbers
    refine ⟨fun σ H' => σ = [some (.ref x), some (.ref y), some (.ref u), some (.int (D : Nat)), some (.int (cm : Nat)), some (.int (a : Nat)), some (.int (b : Nat)), some (.int (c : Nat)), none, none, none, none, none, none, none, none, none, none, none, none, none, none] ∧ H' = H, ?_, ?_⟩
    · exact ⟨_, rfl, u, _, rfl, SqL.of hu0, rfl, _, _, rfl, _, _, rfl, _, _, rfl, rfl, rfl, rfl⟩
    rintro σ H ⟨rfl, rfl⟩
    generalize eN : cm + D + 800 = N
    have lr : ∀ (n : Nat) (F : Nat → V), ((List.range n).map F).length = n := fun n F => by rw [List.length_map, List.length_range]
    -- here
    refine ⟨fun σ H' => ∃ p8, σ = [some (.ref x), some (.ref y), some (.ref u), some (.int (D : Nat)), some (.int (cm : Nat)), some (.int (a : Nat)), some (.int (b : Nat)), some (.int (c : Nat)), some (.ref p8), none, none, none, none, none, none, none, none, none, none, none, none, none] ∧ Same H H' ∧ H' p8 = some (.lst ((List.range N).map fun j => V.int (hF a b j))), ?_, ?_⟩
    · refine ⟨_, rfl, _, rfl, _, _, rfl, rfl, _, _, rfl, rfl, ((N : Nat) : Int), (by rw [← eN] <;> rfl), by omega, by omega, fun D1 hD => LM.lcM (walk_range (lo := 0) (n := ((N : Nat) : Int).toNat)) (fun j => V.int (hF a b j)) hD (by omega) (fun _ _ => trivial) ?_ fun H1 h1 s1 => ⟨D1, rfl, s1, by rw [Int.toNat_natCast] at h1; exact h1⟩⟩
      rintro j z H1 H2 hj s1 ⟨rfl, rfl⟩ Rr Nn kk
      have ej : (0 : Int) + (j : Int) = (j : Int) := by omega
      try dsimp only
      rw [ej]
      refine ⟨rfl, _, rfl, _, rfl, _, _, rfl, rfl, ⟨by omega, by omega⟩, _, rfl, _, rfl, _, _, rfl, rfl, ⟨by omega, by omega⟩, _, _, rfl, rfl, ?_⟩
      have kk := kk _ (Same.refl _)
      show Rr (V.int (Int.fdiv (j : Int) (a : Int) + Int.fdiv (j : Int) (b : Int))) _
      rw [fdN, fdN, ← Int.natCast_add]
      exact kk
    rintro σ H1 ⟨p8, rfl, s1, h8⟩
    -- there
    refine ⟨fun σ H' => ∃ p9, σ = [some (.ref x), some (.ref y), some (.ref u), some (.int (D : Nat)), some (.int (cm : Nat)), some (.int (a : Nat)), some (.int (b : Nat)), some (.int (c : Nat)), some (.ref p8), some (.ref p9), none, none, none, none, none, none, none, none, none, none, none, none] ∧ Same H1 H' ∧ H' p9 = some (.lst ((List.range N).map fun j => V.int (gF c j))), ?_, ?_⟩
    · refine ⟨(by show 1 ≤ sizeLine; decide), fun u1 hu1 => ?_⟩
      generalize g2 : upd H1 u1 _ = H2
      obtain ⟨s2, f2⟩ := alloc g2 hu1
      refine ⟨_, rfl, _, rfl, _, _, rfl, rfl, _, _, rfl, rfl, 1, ((N : Nat) : Int), (by rw [← eN] <;> rfl), by omega, fun D1 hD => LM.lcM (walk_range (lo := 1) (n := (((N : Nat) : Int) - 1).toNat)) (fun j => V.int (gF c (1 + j))) hD (by omega) (fun _ _ => trivial) ?_ fun H3 h3 s3 => ?_⟩
      · rintro j z H3 H4 hj s3 ⟨rfl, rfl⟩ Rr Nn kk
        have ej : (1 : Int) + (j : Int) = ((1 + j : Nat) : Int) := by omega
        try dsimp only
        rw [ej]
        refine ⟨rfl, _, rfl, _, rfl, _, _, rfl, rfl, ⟨by omega, by omega⟩, _, _, rfl, rfl, ?_⟩
        have kk := kk _ (Same.refl _)
        show Rr (V.int (3 + Int.fdiv ((1 + j : Nat) : Int) (c : Int))) _
        rw [fdN]
        unfold gF at kk
        rw [if_neg (by omega)] at kk
        exact kk
      · refine ⟨u1, D1, _, _, rfl, rfl, s3 _ _ f2, h3, ?_, fun z hz => ⟨z, rfl, Same.trans s2 (Same.trans s3 (same_new hz)), ?_⟩⟩
        · rw [lr]
          exact line_le (show 1 + _ ≤ 200000 by omega)
        · rw [upd_same, show (((N : Nat) : Int) - 1).toNat = N - 1 by omega]
          congr 2
          obtain ⟨n1, hn1⟩ : ∃ n1, N = n1 + 1 := ⟨N - 1, by omega⟩
          rw [hn1, Nat.add_sub_cancel, List.range_succ_eq_map, List.map_cons, List.map_map]
          show V.int 0 :: _ = V.int (gF c 0) :: _
          congr 1
          refine List.map_congr_left fun j _ => ?_
          show V.int (gF c (1 + j)) = V.int (gF c (j + 1))
          rw [Nat.add_comm]
    rintro σ H2 ⟨p9, rfl, s2, h9⟩
    have h8 := s2 _ _ h8
    have at_ : ∀ {F : Nat → V} {j : Nat}, j < N → atI ((List.range N).map F) (j : Int) = some (F j) := fun {F j} hj => atI_nat (get_r hj)
    -- low
    refine ⟨fun σ H' => ∃ p10, σ = [some (.ref x), some (.ref y), some (.ref u), some (.int (D : Nat)), some (.int (cm : Nat)), some (.int (a : Nat)), some (.int (b : Nat)), some (.int (c : Nat)), some (.ref p8), some (.ref p9), some (.ref p10), none, none, none, none, none, none, none, none, none, none, none] ∧ Same H2 H' ∧ H' p10 = some (.lst ((List.range (701 + c)).map fun j => V.int (minF a b c j))), ?_, ?_⟩
    · refine ⟨_, rfl, _, _, rfl, rfl, ((701 + c : Nat) : Int), rfl, by omega, by omega, fun D1 hD => LM.lcM (walk_range (lo := 0) (n := ((701 + c : Nat) : Int).toNat)) (fun j => V.int (minF a b c j)) hD (by omega) (fun _ _ => trivial) ?_ fun H3 h3 s3 => ⟨D1, rfl, s3, by rw [Int.toNat_natCast] at h3; exact h3⟩⟩
      rintro j z H3 H4 hj s3 ⟨rfl, rfl⟩ Rr Nn kk
      have ej : (0 : Int) + (j : Int) = (j : Int) := by omega
      try dsimp only
      rw [ej]
      refine ⟨rfl, _, rfl, _, rfl, p8, _, _, .int (hF a b j), rfl, rfl, SqL.of (s3 _ _ h8), at_ (by omega), _, rfl, _, rfl, p9, _, _, .int (gF c j), rfl, rfl, SqL.of (s3 _ _ h9), at_ (by omega), _, _, rfl, ?_⟩
      have kk := kk _ (Same.refl _)
      unfold minF at kk
      rw [show min (hF a b j) (gF c j) = (if gF c j < hF a b j then gF c j else hF a b j) by split <;> omega] at kk
      exact kk
    rintro σ H3 ⟨p10, rfl, s3, h10⟩
    -- high
    refine ⟨fun σ H' => ∃ p11, σ = [some (.ref x), some (.ref y), some (.ref u), some (.int (D : Nat)), some (.int (cm : Nat)), some (.int (a : Nat)), some (.int (b : Nat)), some (.int (c : Nat)), some (.ref p8), some (.ref p9), some (.ref p10), some (.ref p11), none, none, none, none, none, none, none, none, none, none] ∧ Same H3 H' ∧ H' p11 = some (.lst ((List.range (701 + D)).map fun j => V.int (maxF a b c j))), ?_, ?_⟩
    · refine ⟨_, rfl, _, _, rfl, rfl, ((701 + D : Nat) : Int), rfl, by omega, by omega, fun D1 hD => LM.lcM (walk_range (lo := 0) (n := ((701 + D : Nat) : Int).toNat)) (fun j => V.int (maxF a b c j)) hD (by omega) (fun _ _ => trivial) ?_ fun H4 h4 s4 => ⟨D1, rfl, s4, by rw [Int.toNat_natCast] at h4; exact h4⟩⟩
      rintro j z H4 H5 hj s4 ⟨rfl, rfl⟩ Rr Nn kk
      have ej : (0 : Int) + (j : Int) = (j : Int) := by omega
      have s24 := Same.trans s3 s4
      try dsimp only
      rw [ej]
      refine ⟨rfl, _, rfl, _, rfl, p8, _, _, .int (hF a b j), rfl, rfl, SqL.of (s24 _ _ h8), at_ (by omega), _, rfl, _, rfl, p9, _, _, .int (gF c j), rfl, rfl, SqL.of (s24 _ _ h9), at_ (by omega), _, _, rfl, ?_⟩
      have kk := kk _ (Same.refl _)
      unfold maxF at kk
      rw [show max (hF a b j) (gF c j) = (if gF c j > hF a b j then gF c j else hF a b j) by split <;> omega] at kk
      exact kk
    rintro σ H4 ⟨p11, rfl, s4, h11⟩
    -- total
    refine ⟨fun σ H' => ∃ p12, σ = [some (.ref x), some (.ref y), some (.ref u), some (.int (D : Nat)), some (.int (cm : Nat)), some (.int (a : Nat)), some (.int (b : Nat)), some (.int (c : Nat)), some (.ref p8), some (.ref p9), some (.ref p10), some (.ref p11), some (.ref p12), none, none, none, none, none, none, none, none, none] ∧ Same H4 H' ∧ H' p12 = some (.lst ((List.range (cm + 1)).map fun j => V.int (sumF a b c j))), ?_, ?_⟩
    · refine ⟨_, rfl, _, _, rfl, rfl, ((cm + 1 : Nat) : Int), rfl, by omega, by omega, fun D1 hD => LM.lcM (walk_range (lo := 0) (n := ((cm + 1 : Nat) : Int).toNat)) (fun j => V.int (sumF a b c j)) hD (by omega) (fun _ _ => trivial) ?_ fun H5 h5 s5 => ⟨D1, rfl, s5, by rw [Int.toNat_natCast] at h5; exact h5⟩⟩
      rintro j z H5 H6 hj s5 ⟨rfl, rfl⟩ Rr Nn kk
      have ej : (0 : Int) + (j : Int) = (j : Int) := by omega
      have s25 := Same.trans s3 (Same.trans s4 s5)
      try dsimp only
      rw [ej]
      exact ⟨rfl, _, rfl, _, rfl, p8, _, _, .int (hF a b j), rfl, rfl, SqL.of (s25 _ _ h8), at_ (by omega), _, rfl, _, rfl, p9, _, _, .int (gF c j), rfl, rfl, SqL.of (s25 _ _ h9), at_ (by omega), _, _, rfl, rfl, kk _ (Same.refl _)⟩
    rintro σ H5 ⟨p12, rfl, s5, h12⟩
    have h10 := s5 _ _ (s4 _ _ h10)
    have h11 := s5 _ _ h11
    have s05 : Same H H5 := Same.trans s1 (Same.trans s2 (Same.trans s3 (Same.trans s4 s5)))
    have T5 := Tabs.same T0 s05
    have kx5 := kx.extN (ExtN.of_same s05)
    have ky5 := ky.extN (ExtN.of_same s05)
    clear s1 s2 s3 s4 s5 h8 h9
    have askL : AskJ S C CT x y H5 fLof (fun j => .int (minF a b c j)) := ⟨_, hLof, fun H' e Q E hj => ⟨_, _, rfl, .inl ⟨x, y, _, _, D, c, rfl, rfl, kx5.extN e, ky5.extN e, by rw [← eC]; exact c4, by
      have ef : (fun j => lesV ((fun j => V.int (hF a b j)) j) ((fun j => V.int (gF c j)) j)) = fun j => V.int (minF a b c j) := funext fun j => by
        show V.int (hm true (hF a b j) (gF c j)) = _
        unfold hm minF
        rw [if_pos rfl]
        congr 1
        split <;> omega
      rw [ef]
      exact hj⟩⟩⟩
    have askM : AskJ S C CT x y H5 fMof (fun j => .int (maxF a b c j)) := ⟨_, hMof, fun H' e Q E hj => ⟨_, _, rfl, .inl ⟨x, y, _, _, D, c, rfl, rfl, kx5.extN e, ky5.extN e, by rw [← eC]; exact c4, by
      have ef : (fun j => joinV (hm false) ((fun j => V.int (hF a b j)) j) ((fun j => V.int (gF c j)) j)) = fun j => V.int (maxF a b c j) := funext fun j => by
        show V.int (hm false (hF a b j) (gF c j)) = _
        unfold hm maxF
        rw [if_neg Bool.false_ne_true]
        congr 1
        split <;> omega
      rw [ef]
      exact hj⟩⟩⟩
    have askS : AskJ S C CT x y H5 fSum (fun j => .int (sumF a b c j)) := ⟨_, hSum, fun H' e Q E hj => ⟨x, y, _, _, D, c, rfl, kx5.extN e, ky5.extN e, fun j z => (by cases z), fun j z => (by cases z), fun _ => hj, fun z => absurd z (by rw [← eC]; omega)⟩⟩
    have a0 : 0 < a := by omega
    have b0 : 0 < b := by omega
    have c0 : 0 < c := by omega
    have ga : D / a ≤ 3600 := Nat.le_trans (Nat.div_le_self _ _) D36
    have gb : D / b ≤ 3600 := Nat.le_trans (Nat.div_le_self _ _) D36
    have bdm : ∀ t, 0 ≤ hF a b t ∧ hF a b t ≤ 2 * (t : Int) ∧ 0 ≤ gF c t ∧ gF c t ≤ 3 + (t : Int) := fun t => ⟨hF_bd.1, hF_bd.2, gF_bd.1, gF_bd.2⟩
    have dueL := due_of (f := minF a b c) (n := 701 + c) (p := c) (g := 1) c0 (by omega) (by omega) (by decide) (by decide) (by rw [Nat.add_sub_cancel]; exact min_qp a0 b0 a2 b2 c1 (by decide)) fun t => by
      have := bdm t
      unfold minF
      omega
    have dueM := due_of (f := maxF a b c) (n := 701 + D) (p := D) (g := ((D / a + D / b : Nat) : Int)) D0 (by omega) (by omega) (Int.natCast_nonneg _) (nat_le6 (by omega)) (by rw [Nat.add_sub_cancel]; exact max_qp a0 b0 a2 b2 c1 da db (.inl (by decide))) fun t => by
      have := bdm t
      unfold maxF
      omega
    have gac : cm / a ≤ 4000 := Nat.le_trans (Nat.div_le_self _ _) c4
    have gbc : cm / b ≤ 4000 := Nat.le_trans (Nat.div_le_self _ _) c4
    have gcc : cm / c ≤ 4000 := Nat.le_trans (Nat.div_le_self _ _) c4
    have dueS := due_of (f := sumF a b c) (n := cm + 1) (p := cm) (g := ((cm / a + cm / b + cm / c : Nat) : Int)) cm0 (by omega) (by omega) (Int.natCast_nonneg _) (nat_le6 (by omega)) (by rw [Nat.add_sub_cancel_left]; exact sum_qp a0 b0 c0 (Nat.dvd_trans da dDc) (Nat.dvd_trans db dDc) dcc) fun t => by
      have := bdm t
      unfold sumF
      omega
    have eG : ((D / a + D / b) * cm) / D + cm / c = cm / a + cm / b + cm / c := by
      obtain ⟨m, em⟩ := dDc
      have q1 : ∀ {k : Nat}, 0 < k → k ∣ D → cm / k = D / k * m := fun {k} k0 hk => by
        obtain ⟨n, rfl⟩ := hk
        rw [em, Nat.mul_div_cancel_left _ k0, Nat.mul_assoc, Nat.mul_div_cancel_left _ k0]
      rw [q1 a0 da, q1 b0 db, em, show (D / a + D / b) * (D * m) = D * ((D / a + D / b) * m) by ac_rfl, Nat.mul_div_cancel_left _ D0, Nat.add_mul]
    -- the dues
    let Item : Hp → Addr → Prop := fun H' t => ∃ (f l : Addr) (xs : List V) (p : Nat) (g : Int) (Uf : Nat → V), H' t = some (.tup [.ref f, .ref l, .int (p : Nat), .int g]) ∧ H' l = some (.lst xs) ∧ DueR xs p g Uf ∧ AskJ S C CT x y H5 f Uf
    refine ⟨fun σ H' => ∃ p13 t1 t2 t3, σ = [some (.ref x), some (.ref y), some (.ref u), some (.int (D : Nat)), some (.int (cm : Nat)), some (.int (a : Nat)), some (.int (b : Nat)), some (.int (c : Nat)), some (.ref p8), some (.ref p9), some (.ref p10), some (.ref p11), some (.ref p12), some (.ref p13), none, none, none, none, none, none, none, none] ∧ Same H5 H' ∧ H' p13 = some (.lst [.ref t1, .ref t2, .ref t3]) ∧ Item H' t1 ∧ Item H' t2 ∧ Item H' t3, ?_, ?_⟩
    · refine ⟨_, rfl, _, rfl, (by show 4 ≤ sizeLine; decide), fun t1 ht1 => ?_⟩
      generalize g6 : upd H5 t1 _ = H6
      obtain ⟨s6, f6⟩ := alloc g6 ht1
      refine ⟨_, rfl, _, rfl, _, rfl, _, rfl, _, _, rfl, rfl, ⟨by omega, by omega⟩, _, rfl, _, rfl, _, _, rfl, rfl, ⟨by omega, by omega⟩, _, _, rfl, rfl, (by show 4 ≤ sizeLine; decide), fun t2 ht2 => ?_⟩
      generalize g7 : upd H6 t2 _ = H7
      obtain ⟨s7, f7⟩ := alloc g7 ht2
      refine ⟨_, rfl, _, rfl, _, rfl, _, rfl, _, _, rfl, rfl, ⟨by omega, by omega⟩, _, rfl, _, rfl, _, _, rfl, rfl, ⟨by omega, by omega⟩, _, _, rfl, rfl, _, rfl, _, _, rfl, rfl, .inr ⟨by omega, by omega⟩, _, rfl, _, _, rfl, rfl, ⟨by omega, by omega⟩, _, rfl, _, rfl, _, _, rfl, rfl, ⟨by omega, by omega⟩, _, _, rfl, rfl, (by show 4 ≤ sizeLine; decide), fun t3 ht3 => ?_⟩
      generalize g8 : upd H7 t3 _ = H8
      obtain ⟨s8, f8⟩ := alloc g8 ht3
      refine ⟨(by show 3 ≤ sizeLine; decide), fun p13 hp13 => ?_⟩
      generalize g9 : upd H8 p13 _ = H9
      obtain ⟨s9, f9⟩ := alloc g9 hp13
      have s59 : Same H5 H9 := Same.trans s6 (Same.trans s7 (Same.trans s8 s9))
      have e7 : Int.fdiv (D : Int) (a : Int) + Int.fdiv (D : Int) (b : Int) = ((D / a + D / b : Nat) : Int) := by rw [fdN, fdN] <;> rfl
      have e8 : Int.fdiv ((Int.fdiv (D : Int) (a : Int) + Int.fdiv (D : Int) (b : Int)) * (cm : Int)) (D : Int) + Int.fdiv (cm : Int) (c : Int) = ((cm / a + cm / b + cm / c : Nat) : Int) := by
        rw [e7, ← Int.natCast_mul, fdN, fdN, ← Int.natCast_add, eG]
      have f7 : H7 t2 = some (.tup [.ref fMof, .ref p11, .int (D : Nat), .int (Int.fdiv (D : Int) (a : Int) + Int.fdiv (D : Int) (b : Int))]) := f7
      have f8 : H8 t3 = some (.tup [.ref fSum, .ref p12, .int (cm : Nat), .int (Int.fdiv ((Int.fdiv (D : Int) (a : Int) + Int.fdiv (D : Int) (b : Int)) * (cm : Int)) (D : Int) + Int.fdiv (cm : Int) (c : Int))]) := f8
      rw [e7] at f7
      rw [e8] at f8
      exact ⟨p13, t1, t2, t3, rfl, s59, f9, ⟨fLof, p10, _, c, 1, _, s9 _ _ (s8 _ _ (s7 _ _ f6)), s59 _ _ h10, dueL, askL⟩, ⟨fMof, p11, _, D, _, _, s9 _ _ (s8 _ _ f7), s59 _ _ h11, dueM, askM⟩, ⟨fSum, p12, _, cm, _, _, s9 _ _ f8, s59 _ _ h12, dueS, askS⟩⟩
    rintro σ H6 ⟨p13, t1, t2, t3, rfl, s6, h13, i1, i2, i3⟩
    have T6 := Tabs.same T5 s6
    have e06 : ExtN H H6 := ExtN.of_same (Same.trans s05 s6)
    have x56 : ExtN H5 H6 := ExtN.of_same s6
    refine ⟨fun σ H' => Tabs TT H' ∧ ExtN H6 H', ?_, fun σ H' ⟨t', e'⟩ => k H' (e06.trans e') t'⟩
    refine ⟨_, rfl, p13, rfl, ⟨_, SqL.of h13⟩, for_list (K := K) (a := p13) (xs := [V.ref t1, .ref t2, .ref t3]) (fun i σ H' => (∃ w14 w15 w16 w17 w18 w19 w20, σ = [some (.ref x), some (.ref y), some (.ref u), some (.int (D : Nat)), some (.int (cm : Nat)), some (.int (a : Nat)), some (.int (b : Nat)), some (.int (c : Nat)), some (.ref p8), some (.ref p9), some (.ref p10), some (.ref p11), some (.ref p12), some (.ref p13), w14, w15, w16, w17, w18, w19, w20, none]) ∧ Tabs TT H' ∧ ExtN H6 H') ⟨⟨_, _, _, _, _, _, _, rfl⟩, T6, ExtN.refl _⟩ (fun i σ H' _ ⟨_, _, x3⟩ => SqL.extN (SqL.of h13) x3) ?_ (fun σ H' ⟨_, t', e'⟩ => ⟨t', e'⟩)⟩
    rintro j v σ HF hv ⟨⟨w14, w15, w16, w17, w18, w19, w20, rfl⟩, TF, xF⟩
    obtain ⟨t, rfl, it⟩ : ∃ t, v = .ref t ∧ Item H6 t := by
      match j, hv with
      | 0, hv => cases hv; exact ⟨_, rfl, i1⟩
      | 1, hv => cases hv; exact ⟨_, rfl, i2⟩
      | 2, hv => cases hv; exact ⟨_, rfl, i3⟩
    obtain ⟨f, l, xs, p, g, Uf, ht, hl, due, sp, hS, ask⟩ := it
    have htF : HF t = some (.tup [.ref f, .ref l, .int (p : Nat), .int g]) := xF _ _ ht (fun _ z => by cases z)
    have hlF : HF l = some (.lst xs) := xF _ _ hl (fun _ z => by cases z)
    refine ⟨t, _, rfl, SqT.of htF, rfl, _, _, rfl, _, _, rfl, _, _, rfl, _, _, rfl, rfl, ?_⟩
    obtain ⟨vals0, q0, r0, fv0⟩ := form_ex due.fi
    obtain ⟨qn, rfl, fg⟩ := form_g fv0 due.ro
    -- the form that is due
    refine ⟨fun σ H' => ∃ td tl to, σ = [some (.ref x), some (.ref y), some (.ref u), some (.int (D : Nat)), some (.int (cm : Nat)), some (.int (a : Nat)), some (.int (b : Nat)), some (.int (c : Nat)), some (.ref p8), some (.ref p9), some (.ref p10), some (.ref p11), some (.ref p12), some (.ref p13), some (.ref f), some (.ref l), some (.int (p : Nat)), some (.int g), some (.ref td), some (.ref to), w20, none] ∧ Same HF H' ∧ H' td = some (.tup [.ref tl, .int (qn : Nat), .int r0]) ∧ H' tl = some (.tup vals0) ∧ HF to = none ∧ H' to = some (.lst []), ?_, ?_⟩
    · refine ⟨_, rfl, _, rfl, _, rfl, l, xs, p, g, rfl, hlF, due.fi, fun vals q r tl td H1 fv htl htd s1 => ⟨(by show 0 ≤ sizeLine; decide), fun to hto => ?_⟩⟩
      generalize g2 : upd H1 to _ = H2
      obtain ⟨s2, f2⟩ := alloc g2 hto
      refine ⟨(by show 2 ≤ sizeLine; decide), fun tt htt => ?_⟩
      generalize g3 : upd H2 tt _ = H3
      obtain ⟨s3, f3⟩ := alloc g3 htt
      obtain ⟨q', rfl, fg'⟩ := form_g fv due.ro
      obtain ⟨rfl, rfl, rfl⟩ := fg'.uniq fg
      exact ⟨tt, [_, _], rfl, SqT.of f3, rfl, _, _, rfl, _, _, rfl, rfl, td, tl, to, rfl, Same.trans s1 (Same.trans s2 s3), s3 _ _ (s2 _ _ htd), s3 _ _ (s2 _ _ htl), s1.free hto, s3 _ _ f2⟩
    rintro σ HG ⟨td, tl, to, rfl, sG, htd, htl, hto0, hto⟩
    have TG := Tabs.same TF sG
    refine ⟨fun σ H' => ∃ z, σ = [some (.ref x), some (.ref y), some (.ref u), some (.int (D : Nat)), some (.int (cm : Nat)), some (.int (a : Nat)), some (.int (b : Nat)), some (.int (c : Nat)), some (.ref p8), some (.ref p9), some (.ref p10), some (.ref p11), some (.ref p12), some (.ref p13), some (.ref f), some (.ref l), some (.int (p : Nat)), some (.int g), some (.ref td), some (.ref to), some (z), none] ∧ ExtN HF H' ∧ Tabs TT H' ∧ H' td = some (.tup [.ref tl, .int (qn : Nat), .int r0]) ∧ H' tl = some (.tup vals0) ∧
      ((4000 < vals0.length ∧ ∃ ad, z = .ref ad ∧ ErrC H' ad CT (some ("most", .int 4000))) ∨ (vals0.length ≤ 4000 ∧ z = .non ∧ ∃ y1, H' to = some (.lst [.ref y1]) ∧ CurveAt H' C y1 vals0 (qn : Nat) r0)), ?_, ?_⟩
    · refine ⟨TG, fun H8 x8 T8 => ?_⟩
      have h8 : H8 to = some (.lst []) := x8 _ _ hto (fun _ z => by cases z)
      have htd8 : H8 td = some (.tup [.ref tl, .int (qn : Nat), .int r0]) := x8 _ _ htd (fun _ z => by cases z)
      have htl8 : H8 tl = some (.tup vals0) := x8 _ _ htl (fun _ z => by cases z)
      have eF8 : ExtN HF H8 := (ExtN.of_same sG).trans x8
      refine ⟨_, rfl, .inl ⟨rfl, _, SqL.of h8⟩, f, sp, rfl, hS, _, rfl, _, rfl, ask H8 (x56.trans (xF.trans eF8)) _ _ ⟨fun v2 q2 r2 z H' fg2 l4 hz cu s' => ?_, fun fa d' H' rd => ?_⟩⟩
      · obtain ⟨rfl, rfl, rfl⟩ := fg2.uniq fg
        have hu' : H' to = some (.lst []) := s' _ _ h8
        have nt : ∀ {b : Addr} {ys : List V}, H' b = some (.tup ys) → upd H' to (.lst [.ref z]) b = some (.tup ys) := fun h => by rw [upd_ne (ne_of h hu' (by intro z; cases z))]; exact h
        refine ⟨to, _, _, rfl, rfl, hu', (by show 0 < sizeLine; decide), _, rfl, _, rfl, extN_put (eF8.trans (ExtN.of_same s')) hto0, tabs_put (Tabs.same T8 s') hu', nt (s' _ _ htd8), nt (s' _ _ htl8), .inr ⟨l4, rfl, z, upd_same, ?_⟩⟩
        obtain ⟨dy, ty, y1, y2⟩ := cu
        exact ⟨dy, ty, by rw [upd_ne (ne_of y1 hu' (by intro z; cases z))]; exact y1, nt y2⟩
      · have big := fa _ _ _ fg
        refine ⟨EM.ex, fun ad hd => ?_⟩
        generalize g7 : upd H' ad _ = HH
        obtain ⟨s7, f7⟩ := alloc g7 hd
        have s8 : Same H8 HH := Same.trans rd.2.2 s7
        exact ⟨_, rfl, eF8.trans (ExtN.of_same s8), Tabs.same T8 s8, s8 _ _ htd8, s8 _ _ htl8, .inl ⟨big, ad, rfl, .with_ f7 (s7 _ _ rd.2.1)⟩⟩
    rintro σ HI ⟨z, rfl, eI, TI, htdI, htlI, hz⟩
    have eFI : ExtN H6 HI := xF.trans eI
    refine ⟨_, rfl, td, _, _, .ref tl, rfl, rfl, SqT.of htdI, atI_nat (j := 0) rfl, tl, vals0, rfl, .inr (SqT.of htlI), _, _, rfl, rfl, ?_⟩
    rcases hz with ⟨big, ad, rfl, er⟩ | ⟨l4, rfl, y1, hy, cy⟩
    · refine ⟨true, bT (by omega), iteT ?_⟩
      refine ⟨_, rfl, .inl ⟨ad, CT, _, .ref CT, .ref CT, true, rfl, er, .own _, EM.ask, EM.one, true, rfl, iteF ⟨_, rfl, ad, CT, .int 4000, rfl, er, EM.ask, EM.hd, EM.hf, rfl, false, rfl, iteF ⟨⟨_, _, _, _, _, _, _, rfl⟩, TI, eFI⟩⟩⟩⟩
    · refine ⟨false, bF (by omega), iteF ?_⟩
      refine ⟨_, rfl, rfl, false, rfl, iteF ?_⟩
      obtain ⟨dy, ty, y2, y3⟩ := cy
      have gi : atI [V.ref y1] 0 = some (.ref y1) := rfl
      have gc := due.sm _ _ _ fg
      have fl := fg.flat
      refine ⟨_, rfl, to, _, _, _, rfl, rfl, SqL.of hy, gi, y1, C, dy, _, .ref ty, rfl, y2, U.cl, U.nS, rfl, _, rfl, to, _, _, _, rfl, rfl, SqL.of hy, gi, y1, C, dy, _, .int (qn : Nat), rfl, y2, U.cl, U.nP, rfl, _, rfl, to, _, _, _, rfl, rfl, SqL.of hy, gi, y1, C, dy, _, .int r0, rfl, y2, U.cl, U.nG, rfl, (by show 3 ≤ sizeLine; decide), fun T2 hT2 => ?_⟩
      generalize g7 : upd HI T2 _ = H7
      obtain ⟨s7, f7⟩ := alloc g7 hT2
      refine ⟨T2, _, rfl, rdb_dp (dp_cur f7 (s7 _ _ y3) fl) gc.hd, gc.sh, gc.dp, gc.le, ?_⟩
      refine ⟨_, rfl, td, _, rfl, rdb_dp (dp_cur (s7 _ _ htdI) (s7 _ _ htlI) fl) gc.hd, gc.sh, gc.dp, gc.le, rfl, false, ?_, iteF ⟨⟨_, _, _, _, _, _, _, rfl⟩, Tabs.same TI s7, eFI.trans (ExtN.of_same s7)⟩⟩
      simp
end
end WW
end

section
set_option Elab.async false
set_option linter.all false
set_option maxRecDepth 100000
set_option maxHeartbeats 8000000
namespace WW
open PySem L2 WO WG RZ WQ WT WL WC WV WY
theorem Sk.wide {L L' pm : Nat} {B B' : Int} {xs : List V} {p : Nat} {g : Int} (h : Sk L pm B xs p g) (l : L ≤ L') (b : B ≤ B') : Sk L' pm B' xs p g := by
  have wd : ∀ {s}, Within s B → Within s B' := fun w i x hx => ⟨(w i x hx).1, Int.le_trans (w i x hx).2 b⟩
  cases h with
  | mkI s p g h => exact .mkI s p g ⟨h.p0, h.pn, h.pm, Nat.le_trans h.le l, h.asc, wd h.wi, h.g0, Int.le_trans h.g1 b, h.fit⟩
  | mkN s k g le asc wi g0 g1 => exact .mkN s k g (Nat.le_trans le l) asc (wd wi) g0 (Int.le_trans g1 b)
theorem ski_mono {N pm : Nat} {B : Int} {s : List Int} {p : Nat} {g : Int} (h : SkI N pm B s p g) : MF.Mono (MF.at_ s p g) := by
  have p0 := h.p0
  have pn := h.pn
  refine MF.mono_at p0 pn (List.pairwise_iff_getElem.mpr fun i j hi hj l => ?_) ?_
  · exact asc_le h.asc (j - i) i _ _ (List.getElem?_eq_getElem hi) (by rw [show i + (j - i) = j by omega]; exact List.getElem?_eq_getElem hj)
  · rw [MF.at_low (show s.length - 1 < s.length by omega), MF.at_low (show s.length - p < s.length by omega), List.getD_eq_getElem?_getD, List.getD_eq_getElem?_getD, List.getElem?_eq_getElem (show s.length - 1 < s.length by omega), List.getElem?_eq_getElem (show s.length - p < s.length by omega)]
    exact h.fit _ _ (List.getElem?_eq_getElem _) (List.getElem?_eq_getElem _)
theorem ski_bd {N pm : Nat} {B : Int} {s : List Int} {p : Nat} {g : Int} (h : SkI N pm B s p g) (j : Nat) : 0 ≤ MF.at_ s p g j ∧ MF.at_ s p g j ≤ B + ((j + 1 : Nat) : Int) * B := by
  have g0 := h.g0
  have g1 := h.g1
  have gd : ∀ i, i < s.length → 0 ≤ s.getD i 0 ∧ s.getD i 0 ≤ B := fun i hi => by
    rw [List.getD_eq_getElem?_getD, List.getElem?_eq_getElem hi]
    exact h.wi i _ (List.getElem?_eq_getElem hi)
  by_cases c : j < s.length
  · rw [MF.at_low c]
    have := gd j c
    have : 0 ≤ ((j + 1 : Nat) : Int) * B := Int.mul_nonneg (by omega) (by omega)
    omega
  · unfold MF.at_
    rw [if_neg c]
    have p0 := h.p0
    have pn := h.pn
    have hm := Nat.mod_add_div (j - s.length) p
    have hml := Nat.mod_lt (j - s.length) p0
    have hq : (j - s.length) / p ≤ j - s.length := Nat.div_le_self _ _
    generalize (j - s.length) / p = qq at *
    have hmul : (qq + 1) * p = p * qq + p := by rw [Nat.succ_mul, Nat.mul_comm]
    have := gd (j - (qq + 1) * p) (by omega)
    have m0 : 0 ≤ ((qq + 1 : Nat) : Int) * g := Int.mul_nonneg (by omega) g0
    have m1 : ((qq + 1 : Nat) : Int) * g ≤ ((j + 1 : Nat) : Int) * B := Int.mul_le_mul (by omega) g1 g0 (by omega)
    omega

/-- a curve of a function whose form is known -/
theorem kcn_at {H : Hp} {C x : Addr} {f : Nat → Int} {q b : Nat} {r : Int} (h : IsCur H C x (fun j => .int (f j))) (F : MF.IsForm f q r b) (l : b + q ≤ 4000) (mono : MF.Mono f) (bd : ∀ j, j ≤ 4000 → 0 ≤ f j ∧ f j ≤ 1000000000) : KCn 4000 H C x (fun j => .int (f j)) q := by
  obtain ⟨v, q', r', cu, fg⟩ := h
  obtain ⟨rfl, rfl, rfl⟩ := fg.uniq (.mkI f q r b F)
  have q0 := F.pos
  have r0 := mono.rise F.qp
  have r1 := F.qp b (Nat.le_refl _)
  have r2 := bd (b + q') (by omega)
  have r3 := bd b (by omega)
  refine ⟨_, r', cu, fg, ⟨r0, by omega, fun z hz => ?_, fun z => ?_⟩, by rw [List.length_map, List.length_range]; exact l⟩
  · obtain ⟨j, hj, e⟩ := List.mem_map.mp hz
    have := List.mem_range.mp hj
    have := bd j (by omega)
    have := V.int.inj e
    omega
  · subst z
    exact mono.flat F
theorem form_const (i : Int) : MF.IsForm (fun _ => i) 1 0 0 := ⟨by decide, fun _ _ => (by omega), fun q h _ => h, .inl rfl⟩
theorem form_steps {s : Int} : MF.IsForm (fun j : Nat => s * (j : Int)) 1 s 0 := ⟨by decide, fun j _ => by
  show s * ((j + 1 : Nat) : Int) = s * (j : Int) + s
  rw [Int.natCast_add, Int.mul_add]
  omega, fun q h _ => h, .inl rfl⟩
theorem form_line {a : Nat} (a0 : 0 < a) : MF.IsForm (fun j : Nat => ((j / a : Nat) : Int)) a 1 0 := by
  have Q0 : MF.QP (fun j : Nat => ((j / a : Nat) : Int)) a 1 0 := fun j _ => by
    show (((j + a) / a : Nat) : Int) = ((j / a : Nat) : Int) + 1
    rw [Nat.add_div_right _ a0]
    omega
  refine ⟨a0, Q0, fun q q0 ⟨e, dp⟩ => ?_, .inl rfl⟩
  have Q := dp.qp
  generalize hr : (fun j : Nat => ((j / a : Nat) : Int)) (e + q) - (fun j : Nat => ((j / a : Nat) : Int)) e = r at Q
  have u1 := Q.up a
  have u2 := (Q0.up q).to (Nat.zero_le e)
  rw [Nat.mul_comm a q] at u1
  have er := u1.rise u2
  have r1 : 1 ≤ r := by
    refine Int.not_lt.mp fun z => ?_
    have := Int.mul_le_mul_of_nonneg_left (show r ≤ 0 by omega) (show (0 : Int) ≤ (a : Int) by omega)
    omega
  have := Int.mul_le_mul_of_nonneg_left r1 (show (0 : Int) ≤ (a : Int) by omega)
  omega
/-- a line under a flat one -/
def capF (B : Nat) (s : Int) (j : Nat) : Int := min ((B : Int) * s) (s * (j : Int))
theorem cap_form {B : Nat} {s : Int} (B0 : 0 < B) (s0 : 0 < s) : MF.IsForm (capF B s) 1 0 B := by
  have hi : ∀ j : Nat, B ≤ j → capF B s j = (B : Int) * s := fun j hj => by
    have : s * (B : Int) ≤ s * (j : Int) := Int.mul_le_mul_of_nonneg_left (by omega) (by omega)
    rw [Int.mul_comm] at this
    unfold capF
    omega
  refine ⟨by decide, fun j hj => ?_, fun q h _ => h, .inr ?_⟩
  · rw [hi j hj, hi (j + 1) (by omega)]
    omega
  · rw [show B - 1 + 1 = B by omega, hi B (Nat.le_refl _)]
    have e : s * ((B - 1 : Nat) : Int) = (B : Int) * s - s := by
      rw [show ((B - 1 : Nat) : Int) = (B : Int) - 1 by omega, Int.mul_sub, Int.mul_comm]
      omega
    unfold capF
    rw [e]
    omega
theorem cap_low {B j : Nat} {s : Int} (s0 : 0 ≤ s) (hj : j ≤ B) : capF B s j = s * (j : Int) := by
  have : s * (j : Int) ≤ s * (B : Int) := Int.mul_le_mul_of_nonneg_left (by omega) s0
  rw [Int.mul_comm s (B : Int)] at this
  unfold capF
  omega
theorem cap_high {B j : Nat} {s : Int} (s0 : 0 ≤ s) (hj : B ≤ j) : capF B s j = (B : Int) * s := by
  have : s * (B : Int) ≤ s * (j : Int) := Int.mul_le_mul_of_nonneg_left (by omega) s0
  rw [Int.mul_comm s (B : Int)] at this
  unfold capF
  omega
/-! ### curves that come later -/
theorem lat_qp {L : Nat → V} {w c p : Nat} {g : Int} (Q : MF.QP (fun j => ival (L j)) p g c) : MF.QP (fun j => ival (latV L w j)) p g (w + c) := fun j hj => by
  show ival (latV L w (j + p)) = ival (latV L w j) + g
  unfold latV
  rw [if_neg (by omega), if_neg (by omega), show j + p - w = j - w + p by omega]
  exact Q (j - w) (by omega)
theorem lat_row {xs : List V} {p : Nat} {g : Int} {L : Nat → V} (R : RowF xs p g L) (p0 : 0 < p) (pn : p ≤ xs.length) (xl : xs.length ≤ 100) (g0 : 0 ≤ g) (g1 : g ≤ 1000000) {w : Nat} (w4 : w ≤ 4000) :
    FormIn ((List.range (w + (xs.length + p))).map (latV L w)) p g ∧ RowF ((List.range (w + (xs.length + p))).map (latV L w)) p g (latV L w) := by
  cases R with
  | mkI s p g p0' pn' pb =>
    rw [List.length_map] at pn xl ⊢
    refine int_row p0 (by omega) (by omega) g0 (by omega) (fun j => ?_) ?_
    · unfold latV
      split <;> rfl
    · have Q := lat_qp (w := w) (L := fun j => .int (MF.at_ s p g j)) (MF.at_qp (s := s) (g := g) p0 pn)
      exact Q.to (by omega)
  | mkN s k p g =>
    rw [List.length_append, List.length_map, List.length_replicate] at pn xl ⊢
    refine ends_row (t := w + s.length) (fun j hj => ?_) (fun j hj => ?_) (by omega) (by omega)
    · unfold latV
      split
      · rfl
      · rw [fn_low (by omega)]
        try rfl
    · unfold latV
      rw [if_neg (by omega)]
      exact fn_high (by omega)
/-- the row that the law makes -/
theorem lat_list {L : Nat → V} {w n : Nat} : List.replicate w (V.int 0) ++ (List.range n).map L = (List.range (w + n)).map (latV L w) := by
  rw [List.range_add, List.map_append, List.map_map]
  congr 1
  · refine List.ext_getElem? fun i => ?_
    rw [List.getElem?_replicate, List.getElem?_map]
    by_cases c : i < w
    · rw [if_pos c, List.getElem?_range c]
      show _ = some (latV L w i)
      unfold latV
      rw [if_pos c]
    · rw [if_neg c, List.getElem?_eq_none (by rw [List.length_range]; omega)]
      try rfl
  · refine List.map_congr_left fun j _ => ?_
    show L j = latV L w (w + j)
    unfold latV
    rw [if_neg (by omega), Nat.add_sub_cancel_left]
/-- it has at least as many values -/
theorem lat_len {L : Nat → V} {w : Nat} {v v' : List V} {q q' : Nat} {r r' : Int} (fx : FormG L v q r) (fy : FormG (latV L w) v' q' r') (l : v.length ≤ w) : v.length ≤ v'.length := by
  rcases fx.cases' with ⟨f, b, e, hf, ev⟩ | ⟨s, e, ev, rfl, rfl⟩ <;> rcases fy.cases' with ⟨F, c, e', hF, ew⟩ | ⟨t, e', ew, _, _⟩
  · have lv : v.length = b + q := by rw [ev, List.length_map, List.length_range]
    have lw : v'.length = c + q' := by rw [ew, List.length_map, List.length_range]
    have eF : ∀ j, F (w + j) = f j := fun j => by
      have := e' (w + j)
      unfold latV at this
      rw [if_neg (by omega), Nat.add_sub_cancel_left, e] at this
      exact (V.int.inj this).symm
    by_cases cw : w ≤ c + q'
    · omega
    -- it goes on already ahead of the wait's end
    have Q : MF.QP f q' r' 0 := fun j _ => by
      have := hF.qp (w + j) (by omega)
      rw [show w + j + q' = w + (j + q') by omega, eF, eF] at this
      exact this
    have q1 := hf.least q' hF.pos ⟨0, Q.dp⟩
    have b0 : b = 0 := by
      rcases hf.low with z | z
      · exact z
      · exfalso
        have d : MF.DP f q 0 := by
          intro j _
          obtain ⟨k, hk⟩ : ∃ k : Nat, b ≤ j + k * q' := ⟨b, Nat.le_trans (Nat.le_mul_of_pos_right b hF.pos) (Nat.le_add_left _ _)⟩
          have a1 := Q.mul (j := j) (Nat.zero_le _) k
          have a2 := Q.mul (j := j + 1) (Nat.zero_le _) k
          have a3 := Q.mul (j := j + q) (Nat.zero_le _) k
          have a4 := Q.mul (j := j + q + 1) (Nat.zero_le _) k
          have b1 := hf.qp (j + k * q') hk
          have b2 := hf.qp (j + 1 + k * q') (by omega)
          unfold MF.D
          rw [show j + k * q' + q = j + q + k * q' by omega] at b1
          rw [show j + 1 + k * q' + q = j + q + 1 + k * q' by omega] at b2
          omega
        have dq := d.qp
        have e1 := dq (b - 1) (Nat.zero_le _)
        have er := dq.rise hf.qp
        rw [er] at e1
        exact z e1
    omega
  · have := e (w + t.length)
    have h2 := e' (w + t.length)
    unfold latV at h2
    rw [if_neg (by omega), e, fn_high (by omega)] at h2
    cases h2
  · have h2 := e' (w + s.length)
    unfold latV at h2
    rw [if_neg (by omega), e, fn_high (by omega)] at h2
    cases h2
  · have lv : v.length = s.length + 1 := by rw [ev, List.length_append, List.length_map] <;> rfl
    have lw : v'.length = t.length + 1 := by rw [ew, List.length_append, List.length_map] <;> rfl
    by_cases c : w ≤ t.length
    · omega
    · have h2 := e' t.length
      unfold latV at h2
      rw [if_pos (by omega), fn_high (Nat.le_refl _)] at h2
      cases h2
/-! ### texts of a start and a period -/
theorem good_two {v : List V} {q : Int} (h : ∀ x ∈ v, SmallV x) (l : v.length ≤ 200000) (hq : SmallI q) : GoodD (.tuple [.tuple (v.map vD), .int q]) := by
  obtain ⟨i1, i2, i3, i4⟩ := shownAll_small v h
  obtain ⟨a1, a2, a3⟩ := shown_small (.inr ⟨q, rfl, hq⟩ : SmallV (.int q))
  refine ⟨?_, ?_, ?_, ?_⟩
  · simp only [PyData.showable, PyData.showableAll, i3]
    simp only [vD, PyData.showable] at a2
    rw [a2]
    try rfl
  · simp [PyData.depth, PyData.depthAll, depth_row]
  · have e : (PyData.tuple [.tuple (v.map vD), .int q]).shown = tupleText [tupleText (PyData.shownAll (v.map vD)), PyData.shown (.int q)] := by
      simp [PyData.shown, PyData.shownAll]
    rw [e]
    have l1 : (tupleText (PyData.shownAll (v.map vD))).length ≤ v.length * 67 + 3 := by
      refine tuple_len (Nat.le_trans (join_len _ _ i1) ?_)
      rw [i2]
      have : (Str.ofString ", ").length = 2 := by decide
      rw [this]
      omega
    have l2 : (tupleText [tupleText (PyData.shownAll (v.map vD)), PyData.shown (.int q)]).length ≤ v.length * 67 + 3 + 100 + 3 := by
      refine tuple_len ?_
      rw [Str.join.eq_3 _ _ _ (by intro z; cases z), Str.join.eq_2]
      simp only [Str.length_append]
      have c : (Str.ofString ", ").length = 2 := by decide
      have a1' : (PyData.shown (.int q)).length ≤ 65 := a1
      omega
    exact big_line (by omega)
  · simp only [PyData.hasDict, PyData.hasDictAll, i4]
    rfl
/-- by so much again and again, up to where both divide it -/
theorem up_to {a b k : Nat} (a0 : 0 < a) (b0 : 0 < b) (k0 : 0 < k) (l : a * k ≤ Nat.lcm a b) : (b ∣ a * k ∧ a * k = Nat.lcm a b) ∨ (¬ b ∣ a * k ∧ a * (k + 1) ≤ Nat.lcm a b) := by
  by_cases c : b ∣ a * k
  · have d : Nat.lcm a b ∣ a * k := Nat.lcm_dvd (Nat.dvd_mul_right ..) c
    have := Nat.le_of_dvd (Nat.mul_pos a0 k0) d
    exact .inl ⟨c, by omega⟩
  · refine .inr ⟨c, ?_⟩
    obtain ⟨m, hm⟩ := Nat.dvd_lcm_left a b
    have kb : k ≠ m := fun z => c (by rw [z, ← hm]; exact Nat.dvd_lcm_right a b)
    rw [hm] at l ⊢
    have := Nat.le_of_mul_le_mul_left l a0
    exact Nat.mul_le_mul_left a (by omega)
end WW
end

section
set_option Elab.async false
set_option linter.all false
set_option maxRecDepth 100000
set_option maxHeartbeats 8000000
namespace WW
open PySem L2 WO WG RZ WQ WT WL WC WV WY
theorem Sk.rowL {N pm : Nat} {B : Int} {xs : List V} {p : Nat} {g : Int} (h : Sk N pm B xs p g) (hp : pm ≤ 60) : ∃ L, RowF xs p g L ∧ 0 < p ∧ p ≤ xs.length ∧ xs.length ≤ N ∧ p ≤ max pm 1 ∧ 0 ≤ g ∧ g ≤ B ∧ ∀ j, L j = .non ∨ ∃ i : Int, L j = .int i ∧ 0 ≤ i ∧ i ≤ B + ((j + 1 : Nat) : Int) * B := by
  cases h with
  | mkI s p g h =>
    refine ⟨_, .mkI s p g h.p0 h.pn (by have := h.pm; omega), h.p0, by rw [List.length_map]; exact h.pn, by rw [List.length_map]; exact h.le, by have := h.pm; omega, h.g0, h.g1, fun j => .inr ⟨_, rfl, ?_⟩⟩
    have g0 := h.g0
    have g1 := h.g1
    have B0 : 0 ≤ B := by omega
    have gd : ∀ i, i < s.length → 0 ≤ s.getD i 0 ∧ s.getD i 0 ≤ B := fun i hi => by
      rw [List.getD_eq_getElem?_getD, List.getElem?_eq_getElem hi]
      exact h.wi i _ (List.getElem?_eq_getElem hi)
    have jb : 0 ≤ ((j + 1 : Nat) : Int) * B := Int.mul_nonneg (by omega) B0
    by_cases c : j < s.length
    · rw [MF.at_low c]
      have := gd j c
      omega
    · unfold MF.at_
      rw [if_neg c]
      have p0 := h.p0
      have pn := h.pn
      have hm := Nat.mod_add_div (j - s.length) p
      have hml := Nat.mod_lt (j - s.length) p0
      have hq : (j - s.length) / p ≤ j - s.length := Nat.div_le_self _ _
      generalize (j - s.length) / p = qq at *
      have hmul : (qq + 1) * p = p * qq + p := by rw [Nat.succ_mul, Nat.mul_comm]
      have := gd (j - (qq + 1) * p) (by omega)
      have m0 : 0 ≤ ((qq + 1 : Nat) : Int) * g := Int.mul_nonneg (by omega) g0
      have m1 : ((qq + 1 : Nat) : Int) * g ≤ ((j + 1 : Nat) : Int) * B := Int.mul_le_mul (by omega) g1 g0 (by omega)
      omega
  | mkN s k g le asc wi g0 g1 =>
    have lx : (s.map V.int ++ List.replicate (k + 1) V.non).length = s.length + (k + 1) := by rw [List.length_append, List.length_map, List.length_replicate]
    refine ⟨_, .mkN s k 1 g, by decide, by omega, by omega, Nat.le_max_right _ _, g0, g1, fun j => ?_⟩
    by_cases c : j < s.length
    · refine .inr ⟨s.getD j 0, fn_low c, ?_⟩
      rw [List.getD_eq_getElem?_getD, List.getElem?_eq_getElem c]
      have := wi j _ (List.getElem?_eq_getElem c)
      have : 0 ≤ ((j + 1 : Nat) : Int) * B := Int.mul_nonneg (by omega) (by omega)
      show 0 ≤ s[j] ∧ s[j] ≤ _
      omega
    · exact .inl (fn_high (by omega))
theorem made_kcn {H : Hp} {C x : Addr} {xs v : List V} {p : Nat} {g q r : Int} {L : Nat → V} (M : MakeOk xs p g) (R : RowF xs p g L) (fv : FormV xs p g v q r) (cu : CurveAt H C x v q r) : ∃ q', KCn 4000 H C x L q' := by
  obtain ⟨q1, rfl, fo⟩ := form_g fv R
  obtain ⟨q2, e2, CM⟩ := calm_of M fv
  obtain rfl : q1 = q2 := Int.ofNat.inj e2
  have := formV_len fv
  have := M.st.l2
  exact ⟨q1, v, r, cu, fo, CM, by omega⟩
theorem dp_two {K : PySem.W.Frag} {H : Hp} {T t : Addr} {vals : List V} {q : Int} (h : SqT K H T [.ref t, .int q]) (h2 : H t = some (.tup vals)) (hf : FlatR vals) : Dp K H (.ref T) (.tuple [.tuple (vals.map vD), .int q]) :=
  .tup h (.cons (.tup (SqT.of h2) (dpAll_row vals hf)) (.cons (.int q) .nil))
theorem DrawAt.tup {H H' : Hp} {d l c a : Addr} {vs : List V} (D : DrawAt H d l c) (h : H a = some (.tup vs)) (k : KeepD H H' d l) : H' a = some (.tup vs) := by
  obtain ⟨⟨r, t, hd⟩, ⟨la, hl, _⟩, _⟩ := D
  exact k _ _ h (fun z => by rw [z, hd] at h; cases h) (fun z => by rw [z, hl] at h; cases h)
theorem zero_rep : ∀ m, (List.replicate m [V.int 0]).flatten = List.replicate m (V.int 0) := fun m => by
  induction m with
  | zero => rfl
  | succ m ih => rw [List.replicate_succ, List.flatten_cons, ih, List.replicate_succ] <;> rfl
end WW
end

section
set_option Elab.async false
set_option linter.all false
set_option maxRecDepth 100000
set_option maxHeartbeats 16000000
namespace WW
open PySem L2 WO WG RZ WQ WT WL WC WV WY
open LamX (ExtN Tabs TabS TabB lamS_by)
abbrev sLaw : Stmt := top 71
abbrev lamQ : Str := "law.<locals>.<lambda>"
abbrev nLaw : List Str := ["script", "draw", "turn", "beat_here", "steps_here", "caught", "told", "sketch", "form_here", "curve", "room", "row", "due", "one", "two", "three", "both", "common", "period_here", "first", "second", "ask", "beat"]
theorem scLaw : FnScope nLaw ["script"] (defScope sLaw) := ⟨rfl, rfl, rfl, by decide +kernel, rfl, by decide +kernel, by decide +kernel⟩
def spLaw (K : PySem.W.Frag) (cs : List (Addr × Addr)) : Sp := fun vs H Q _ => ∃ (a : Addr) (ns : List Int), vs = [.ref a] ∧ SqL K H a (ns.map V.int) ∧ ns.length ≤ 63 ∧ (∀ p ∈ cs, H p.2 = some (.tbl #[])) ∧ ∀ H', Q (.bl true) H'
theorem hand_fit {C CT : Addr} {U : Nat → V} {H : Hp} {Q : VK} {E : XK} {v0 : List V} {q0 : Nat} {r0 : Int} (fg : FormG U v0 q0 r0) (l : v0.length ≤ 4000) (k : ∀ z H', H z = none → CurveAt H' C z v0 q0 r0 → Same H H' → Q (.ref z) H') : HandJ C CT U H Q E :=
  ⟨fun v p g z H' fg' _ hz cu s => by
    obtain ⟨rfl, rfl, rfl⟩ := fg'.uniq fg
    exact k z H' hz cu s, fun fa => by
    have := fa _ _ _ fg
    omega⟩
theorem hand_far {C CT : Addr} {U : Nat → V} {H : Hp} {Q : VK} {E : XK} {v0 : List V} {q0 : Nat} {r0 : Int} (fg : FormG U v0 q0 r0) (l : 4000 < v0.length) (k : ∀ d H', Raised H "most" (.int 4000) d H' → E (.ref CT) (some d) H') : HandJ C CT U H Q E :=
  ⟨fun v p g z H' fg' l' => by
    have := (fg'.uniq fg).1
    subst this
    omega, fun _ => k⟩
/-- what is asked, whether it is TooMany or not -/
def AskB (S : Addr → Sp → Prop) (CT x y : Addr) (cm : Nat) (H : Hp) (f : Addr) : Prop := ∃ sp : Sp, S f sp ∧ ∀ H', ExtN H H' → ∀ (Q : VK) (E : XK), (cm ≤ 4000 → ∀ z H'', Same H' H'' → Q z H'') → (4000 < cm → ∀ d H'', Raised H' "most" (.int 4000) d H'' → E (.ref CT) (some d) H'') → sp [.ref x, .ref y] H' Q E
theorem fits_of {f : Nat → Int} {xs : List V} {p : Nat} {g : Int} (h : DueR xs p g (fun j => .int (f j))) (l : xs.length ≤ 4000) : ∃ v q r, FormG (fun j => .int (f j)) v q r ∧ v.length ≤ 4000 := by
  obtain ⟨v, q, r, fv⟩ := form_ex h.fi
  obtain ⟨qn, rfl, fg⟩ := form_g fv h.ro
  exact ⟨v, qn, r, fg, Nat.le_trans (formV_len fv) l⟩
theorem hand_q {C CT : Addr} {U : Nat → V} {H : Hp} {Q : VK} {E : XK} (h : ∃ v q r, FormG U v q r ∧ v.length ≤ 4000) (k : ∀ z H', Same H H' → Q z H') : HandJ C CT U H Q E := by
  obtain ⟨v, q, r, fg, l⟩ := h
  exact hand_fit fg l fun z H' _ _ s => k _ _ s
theorem ask_five {K : PySem.W.Frag} {S : Addr → Sp → Prop} {C CB CT x y fLof fMof fSum fFab fIsb : Addr} {H : Hp} {a b c D cm : Nat}
    (hLof : S fLof (spLofW K C CB CT)) (hMof : S fMof (spMofW K C CB CT)) (hSum : S fSum (spSumX K C CT)) (hFab : S fFab (spFab K C CB)) (hIsb : S fIsb (spIsb K C CB)) (hLofT : S fLof (spTm K C CT)) (hMofT : S fMof (spTm K C CT)) (hFabT : S fFab (spTm K C CT)) (hIsbT : S fIsb (spTm K C CT))
    (a1 : 50 ≤ a) (a2 : a ≤ 60) (b1 : 50 ≤ b) (b2 : b ≤ 60) (c1 : 40 ≤ c) (c2 : c ≤ 60) (eD : D = Nat.lcm a b) (eC : cm = Nat.lcm D c) (kx : KCn 4000 H C x (fun j => .int (hF a b j)) D) (ky : KCn 4000 H C y (fun j => .int (gF c j)) c) :
    ∀ f ∈ [fLof, fMof, fSum, fFab, fIsb], AskB S CT x y cm H f := by
  have D0 : 0 < D := by rw [eD]; exact Nat.lcm_pos (by omega) (by omega)
  have D36 : D ≤ 3600 := by rw [eD]; exact lcm_60 (by omega) (by omega) a2 b2
  have da : a ∣ D := by rw [eD]; exact Nat.dvd_lcm_left a b
  have db : b ∣ D := by rw [eD]; exact Nat.dvd_lcm_right a b
  have dDc : D ∣ cm := by rw [eC]; exact Nat.dvd_lcm_left D c
  have dcc : c ∣ cm := by rw [eC]; exact Nat.dvd_lcm_right D c
  have cm0 : 0 < cm := by rw [eC]; exact Nat.lcm_pos D0 (by omega)
  have a0 : 0 < a := by omega
  have b0 : 0 < b := by omega
  have c0 : 0 < c := by omega
  have nx : ∀ j, (fun j => V.int (hF a b j)) j ≠ .non := fun j z => by cases z
  have ny : ∀ j, (fun j => V.int (gF c j)) j ≠ .non := fun j z => by cases z
  intro f hf
  by_cases c4 : cm ≤ 4000
  · have lc : Nat.lcm D c ≤ 4000 := by rw [← eC]; exact c4
    have fw := few a1 a2 b1 b2 c1 c2 (by rw [← eD]; exact lc)
    rw [← eD, ← eC] at fw
    have ga : D / a ≤ 3600 := Nat.le_trans (Nat.div_le_self _ _) D36
    have gb : D / b ≤ 3600 := Nat.le_trans (Nat.div_le_self _ _) D36
    have gac : cm / a ≤ 4000 := Nat.le_trans (Nat.div_le_self _ _) c4
    have gbc : cm / b ≤ 4000 := Nat.le_trans (Nat.div_le_self _ _) c4
    have gcc : cm / c ≤ 4000 := Nat.le_trans (Nat.div_le_self _ _) c4
    have bdm : ∀ t, 0 ≤ hF a b t ∧ hF a b t ≤ 2 * (t : Int) ∧ 0 ≤ gF c t ∧ gF c t ≤ 3 + (t : Int) := fun t => ⟨hF_bd.1, hF_bd.2, gF_bd.1, gF_bd.2⟩
    have lr : ∀ (n : Nat) (F : Nat → V), ((List.range n).map F).length = n := fun n F => by rw [List.length_map, List.length_range]
    rcases List.mem_cons.mp hf with rfl | hf
    · refine ⟨_, hLof, fun H' e Q E q1 _ => ⟨_, _, rfl, .inl ⟨x, y, _, _, D, c, rfl, rfl, kx.extN e, ky.extN e, lc, ?_⟩⟩⟩
      have ef : (fun j => lesV ((fun j => V.int (hF a b j)) j) ((fun j => V.int (gF c j)) j)) = fun j => V.int (minF a b c j) := funext fun j => by
        show V.int (hm true (hF a b j) (gF c j)) = _
        unfold hm minF
        rw [if_pos rfl]
        congr 1
        split <;> omega
      rw [ef]
      refine hand_q (fits_of (due_of (f := minF a b c) (n := 701 + c) (p := c) (g := 1) c0 (by omega) (by omega) (by decide) (by decide) (by rw [Nat.add_sub_cancel]; exact min_qp a0 b0 a2 b2 c1 (by decide)) fun t => by
        have := bdm t
        unfold minF
        omega) (by rw [lr]; omega)) fun z H'' s => q1 c4 z H'' s
    rcases List.mem_cons.mp hf with rfl | hf
    · refine ⟨_, hMof, fun H' e Q E q1 _ => ⟨_, _, rfl, .inl ⟨x, y, _, _, D, c, rfl, rfl, kx.extN e, ky.extN e, lc, ?_⟩⟩⟩
      have ef : (fun j => joinV (hm false) ((fun j => V.int (hF a b j)) j) ((fun j => V.int (gF c j)) j)) = fun j => V.int (maxF a b c j) := funext fun j => by
        show V.int (hm false (hF a b j) (gF c j)) = _
        unfold hm maxF
        rw [if_neg Bool.false_ne_true]
        congr 1
        split <;> omega
      rw [ef]
      obtain ⟨n0, n1, n2⟩ : ∃ n0, (540 ≤ n0 ∨ (180 ≤ n0 ∧ (c = a ∨ c = b))) ∧ n0 + D ≤ 4000 := by
        rcases fw.2 with h | h
        · exact ⟨540, .inl (Nat.le_refl _), by omega⟩
        · exact ⟨180, .inr ⟨Nat.le_refl _, h⟩, by omega⟩
      refine hand_q (fits_of (due_of (f := maxF a b c) (n := n0 + D) (p := D) (g := ((D / a + D / b : Nat) : Int)) D0 (by omega) (by omega) (Int.natCast_nonneg _) (nat_le6 (by omega)) (by rw [Nat.add_sub_cancel]; exact max_qp a0 b0 a2 b2 c1 da db n1) fun t => by
        have := bdm t
        unfold maxF
        omega) (by rw [lr]; omega)) fun z H'' s => q1 c4 z H'' s
    rcases List.mem_cons.mp hf with rfl | hf
    · refine ⟨_, hSum, fun H' e Q E q1 _ => ⟨x, y, _, _, D, c, rfl, kx.extN e, ky.extN e, nx, ny, fun _ => ?_, fun z => absurd z (by omega)⟩⟩
      show HandJ C CT (fun j => V.int (sumF a b c j)) H' Q E
      refine hand_q (fits_of (due_of (f := sumF a b c) (n := cm + 1) (p := cm) (g := ((cm / a + cm / b + cm / c : Nat) : Int)) cm0 (by omega) (by omega) (Int.natCast_nonneg _) (nat_le6 (by omega)) (by rw [Nat.add_sub_cancel_left]; exact sum_qp a0 b0 c0 (Nat.dvd_trans da dDc) (Nat.dvd_trans db dDc) dcc) fun t => by
        have := bdm t
        unfold sumF
        omega) (by rw [lr]; omega)) fun z H'' s => q1 c4 z H'' s
    rcases List.mem_cons.mp hf with rfl | hf
    · exact ⟨_, hFab, fun H' e Q E q1 _ => ⟨_, _, rfl, .inl ⟨x, y, _, _, D, c, rfl, rfl, (kx.extN e).kcur, (ky.extN e).kcur, lc, fun d _ H'' s => q1 c4 _ _ s⟩⟩⟩
    · cases List.mem_singleton.mp hf
      exact ⟨_, hIsb, fun H' e Q E q1 _ => ⟨_, _, rfl, .inl ⟨x, y, _, _, D, c, rfl, rfl, (kx.extN e).kcur, (ky.extN e).kcur, lc, fun d _ H'' s => q1 c4 _ _ s⟩⟩⟩
  · have lc : 4000 < Nat.lcm D c := by rw [← eC]; omega
    have c5 : 4000 < cm := by omega
    have tm : ∀ f, S f (spTm K C CT) → AskB S CT x y cm H f := fun f h => ⟨_, h, fun H' e Q E _ q2 => ⟨x, y, rfl, _, _, D, c, kx.extN e, ky.extN e, nx, ny, lc, q2 c5⟩⟩
    rcases List.mem_cons.mp hf with rfl | hf
    · exact tm _ hLofT
    rcases List.mem_cons.mp hf with rfl | hf
    · exact tm _ hMofT
    rcases List.mem_cons.mp hf with rfl | hf
    · exact ⟨_, hSum, fun H' e Q E _ q2 => ⟨x, y, _, _, D, c, rfl, kx.extN e, ky.extN e, nx, ny, fun z => absurd z (by omega), fun _ => q2 c5⟩⟩
    rcases List.mem_cons.mp hf with rfl | hf
    · exact tm _ hFabT
    · cases List.mem_singleton.mp hf
      exact tm _ hIsbT
section
variable {P : Program} {w : World} {K : PySem.W.Frag} {mg : Str → Option Value} {base : Heap}
theorem ok_law {f fC fLof fMof fSum fFab fIsb ct tb W C CB CN CT fI fE : Addr} {TT : List (Addr × Str)} {fd dC : FuncData} {S : Addr → Sp → Prop} {cs0 : List (Addr × Addr)} (F : Fun K "law" "law" sLaw f fd) (hcode : fd.code = .ref ct) (TB : TabB base mg ct tb) (mTL : (tb, lamQ) ∈ TT) (uTL : ∀ p ∈ TT, p.1 = tb → p.2 = lamQ)
    (h0 : ∀ {H : Hp}, (∀ p ∈ cs0, H p.2 = some (.tbl #[])) → ∀ p ∈ TT, H p.1 = some (.tbl #[])) (T : CurG mg) (nrepr : mg "repr" = none) (U : CurT K mg C fI fE)
    (EM : ErrGf K W CT "most") (mW : mg "WaitError" = some (.ref W)) (mCT : mg "TooMany" = some (.ref CT)) (AH : ∀ f sp, S f sp → HeldX P w K mg base 10 f sp)
    (m_lof : mg "least_of" = some (.ref fLof)) (m_mof : mg "most_of" = some (.ref fMof)) (m_sum : mg "sum_of" = some (.ref fSum)) (m_fab : mg "first_above" = some (.ref fFab)) (m_isb : mg "is_below" = some (.ref fIsb))
    (hLof : S fLof (spLofW K C CB CT)) (hMof : S fMof (spMofW K C CB CT)) (hSum : S fSum (spSumX K C CT)) (hFab : S fFab (spFab K C CB)) (hIsb : S fIsb (spIsb K C CB)) (hLofT : S fLof (spTm K C CT)) (hMofT : S fMof (spTm K C CT)) (hFabT : S fFab (spTm K C CT)) (hIsbT : S fIsb (spTm K C CT))
    (c_beg : Cal P w K mg base CX0 1 "_law_begun" ["script"] (spBegun K)) (c_tak : Cal P w K mg base CX0 2 "_law_take" ["draw", "amount"] (spTake K))
    (c_ske : Cal P w K mg base CX0 5 "_law_sketch" ["draw", "long", "most"] (spSketch K)) (c_mad : Cal P w K mg base CX0 6 "_law_made" ["sketch"] (spMade K C)) (c_row : Cal P w K mg base CX0 2 "_law_row" ["sketch", "beats"] (spRow K)) (c_lfo : Cal P w K mg base CX0 1 "_law_form" ["row", "period_here", "growth_here"] (spForm K))
    (c_jr : CalG P w K mg base CX0 13 "_law_joins_right" ["first", "second", "beats_here", "both", "common"] (spJr K C TT))
    (c_flat : Cal P w K mg base (L2.CX P w) 7 "flat" ["number"] (spFlat K C CN)) (c_line : Cal P w K mg base (L2.CX P w) 7 "line" ["burst", "steps", "beats"] (spLine K C CN)) (c_lof : Cal P w K mg base (L2.CX P w) 9 "least_of" ["curve", "other"] (wr (spLofW K C CB CT)))
    (c_sum : Cal P w K mg base (L2.CX P w) 8 "sum_of" ["curve", "other"] (wr (spSumX K C CT))) (c_lat : Cal P w K mg base (L2.CX P w) 7 "later" nLat (wr (spLatX K C CT))) (c_val : Cal P w K mg base (L2.CX P w) 5 "value" ["curve", "beat"] (spValue K C CB CN))
    (FC : Fun K "_law_caught" "_law_caught" sCaught fC dC) (bC : Binds K dC ["work"] []) (mC : mg "_law_caught" = some (.ref fC)) :
    FnG P w K mg base CX0 14 f fd ["script"] (spLaw K cs0) := by
  obtain ⟨ocC, odC, kVC, docC, pmC, anC, cdvC, ctC, oslC, rfl, lkC, hcdC⟩ := FC.ex
  have kC := FC.kp
  refine okC F hcode scLaw (fun vs H Q E h => ?_) (fun A outer s H vs Q E hr hgu h => ?_)
  · obtain ⟨a, ns, rfl, _⟩ := h
    rfl
  · obtain ⟨a, ns, rfl, hS, hn, hT, k⟩ := h
    have hu := hu_of hr
    have hu64 := hr.units
    refine ⟨_, (C8.pss_cut (ps_set (i := 1) scLaw.nd rfl (Or.inl rfl) (pe_callC c_beg (hr.mono (by decide)) rfl pass0 (pa_cons (pv 0) pa_nil)))
 (C8.pss_cut (ps_for PassesOwn.never rfl (pi_range1 rfl T.range (pa_cons (pe_op op_add pe_int (pe_callB (call_min2 rfl) (by rfl) T.min (by decide +kernel) (pa_cons (pe_callB call_len_seq (by rfl) T.len PySem.boot_len (pa_cons (pv 0) pa_nil)) (pa_cons pe_int pa_nil)))) pa_nil)) (pg_name (i := 2) scLaw.nd rfl (Or.inl rfl)) (C8.pss_cut (ps_set (i := 3) scLaw.nd rfl (Or.inr rfl) (pe_op op_add pe_int (pe_callC c_tak (hr.mono (by decide)) rfl pass0 (pa_cons (pv 1) (pa_cons pe_int pa_nil)))))
 (C8.pss_cut (ps_set (i := 4) scLaw.nd rfl (Or.inr rfl) (pe_op op_add pe_int (pe_callC c_tak (hr.mono (by decide)) rfl pass0 (pa_cons (pv 1) (pa_cons pe_int pa_nil)))))
 (C8.pss_cut (ps_set (i := 5) scLaw.nd rfl (Or.inl rfl) (LamX.pe_lamcall (T := TT) (TT := TTc K W) (Ng := nCaught) (k := 11) (by rfl) mC kC lkC hcdC bC scCaught rfl (Or.inl rfl)
                (caught_gives rfl mW rfl rfl rfl) TB rfl mTL uTL hr (lamS_by (sc := defScope sLaw) (by decide +kernel)) (by rfl) (fun _ _ _ _ _ => by rfl)
                (fun A outer s H E f c' hr' => (pe_callC c_lof (hr'.mono (by decide)) rfl (passX (takes_of rfl rfl rfl rfl) fun _ _ _ _ h => h) (pa_cons (pe_callC c_flat (hr'.mono (by decide)) rfl (passX (takes_of rfl rfl rfl rfl) fun _ _ _ _ h => h) (pa_cons (pe_op op_mul (pv 3) (pv 4)) pa_nil)) (pa_cons (pe_callC c_line (hr'.mono (by decide)) rfl (passX (takes_of rfl rfl rfl rfl) fun _ _ _ _ h => h) (pa_cons pe_int (pa_cons (pv 4) (pa_cons pe_int pa_nil)))) pa_nil))))))
 (C8.pss_cut (ps_if (pt_cmpR op_gt (pe_op op_add (pv 3) pe_int) pe_int (nomark _)) (pss_one
 (ps_if (PW.pt (pw_or (pt_not (pt_val (pe_callB (r := rIsA K) call_isA (by rfl) T.isi (by decide +kernel) (pa_cons (pv 5) (pa_cons (pe_glob (v := .ref CT) rfl mCT rfl) pa_nil))))) (pw_or1 (pt_cmpR op_ne (pe_ctF (pv 5)) pe_int (nomark _))))) (pss_one
 (ps_ret pe_bl)) pss_nil)) (C8.pss_cut (ps_set (i := 6) scLaw.nd rfl (Or.inl rfl) (pe_callC c_lof (hr.mono (by decide)) rfl passF (pa_cons (pe_callC c_line (hr.mono (by decide)) rfl passF (pa_cons pe_int (pa_cons (pv 4) (pa_cons pe_int pa_nil)))) (pa_cons (pe_callC c_flat (hr.mono (by decide)) rfl passF (pa_cons (pe_op op_mul (pv 3) (pv 4)) pa_nil)) pa_nil))))
 (C8.pss_cut (ps_if (PW.pt (pw_or (pt_cmpR op_notN (pv 5) pe_non (nomark _)) (pw_or (pt_cmpR op_ne (pe_callB call_len_seq (by rfl) T.len PySem.boot_len (pa_cons (pe_fld (pv 6) rfl) pa_nil)) (pe_op op_add (pv 3) pe_int) (nomark _)) (pw_or1 (pt_cmpR op_ne (pe_callC c_val (hr.mono (by decide)) rfl passF (pa_cons (pv 6) (pa_cons (pe_op op_sub (pv 3) pe_int) pa_nil))) (pe_op op_mul (pe_op op_sub (pv 3) pe_int) (pv 4)) (nomark _)))))) (pss_one
 (ps_ret pe_bl)) pss_nil)
 (pss_one
 (ps_if (PW.pt (pw_or (pt_cmpR op_ne (pe_callC c_val (hr.mono (by decide)) rfl passF (pa_cons (pv 6) (pa_cons (pe_op op_pow pe_int pe_int) pa_nil))) (pe_op op_mul (pv 3) (pv 4)) (nomark _)) (pw_or1 (pt_cmpR op_ne (pe_fld (pv 6) rfl) pe_int (nomark _))))) (pss_one
 (ps_ret pe_bl)) pss_nil)))))
 (C8.pss_cut (ps_set (i := 7) scLaw.nd rfl (Or.inl rfl) (pe_callC c_ske (hr.mono (by decide)) rfl pass0 (pa_cons (pv 1) (pa_cons pe_int (pa_cons pe_int pa_nil)))))
 (C8.pss_cut (ps_set (i := 8) scLaw.nd rfl (Or.inl rfl) (pe_callC c_lfo (hr.mono (by decide)) rfl pass0 (pa_cons (pe_callTy call_list_of (by rfl) T.list (by decide +kernel) (pa_cons (pe_dget hu (pv 7) pe_str (fun _ _ => rfl)) pa_nil)) (pa_cons (pe_dget hu (pv 7) pe_str (fun _ _ => rfl)) (pa_cons (pe_dget hu (pv 7) pe_str (fun _ _ => rfl)) pa_nil)))))
 (C8.pss_cut (ps_asg (pe_tup (pa_cons (pe_callC c_mad (hr.mono (by decide)) rfl pass0 (pa_cons (pv 7) pa_nil)) (pa_cons (pe_op op_add pe_int (pe_callC c_tak (hr.mono (by decide)) rfl pass0 (pa_cons (pv 1) (pa_cons pe_int pa_nil)))) pa_nil))) (pg_tup rfl (pgs_cons (pg_name (i := 9) scLaw.nd rfl (Or.inr rfl)) (pgs_cons (pg_name (i := 10) scLaw.nd rfl (Or.inr rfl)) pgs_nil))))
 (C8.pss_cut (ps_set (i := 11) scLaw.nd rfl (Or.inl rfl) (pe_op op_cat (pe_op op_rep (pe_lst (pa_cons pe_int pa_nil)) (pv 10)) (pe_callC c_row (hr.mono (by decide)) rfl pass0 (pa_cons (pv 7) (pa_cons (pe_op op_add (pe_callB call_len_seq (by rfl) T.len PySem.boot_len (pa_cons (pe_dget hu (pv 7) pe_str (fun _ _ => rfl)) pa_nil)) (pe_dget hu (pv 7) pe_str (fun _ _ => rfl))) pa_nil)))))
 (C8.pss_cut (ps_set (i := 12) scLaw.nd rfl (Or.inl rfl) (pe_callC c_lfo (hr.mono (by decide)) rfl pass0 (pa_cons (pv 11) (pa_cons (pe_dget hu (pv 7) pe_str (fun _ _ => rfl)) (pa_cons (pe_dget hu (pv 7) pe_str (fun _ _ => rfl)) pa_nil)))))
 (C8.pss_cut (ps_set (i := 5) scLaw.nd rfl (Or.inl rfl) (LamX.pe_lamcall (T := TT) (TT := TTc K W) (Ng := nCaught) (k := 11) (by rfl) mC kC lkC hcdC bC scCaught rfl (Or.inl rfl)
                (caught_gives rfl mW rfl rfl rfl) TB rfl mTL uTL hr (lamS_by (sc := defScope sLaw) (by decide +kernel)) (by rfl) (fun _ _ _ _ _ => by rfl)
                (fun A outer s H E f c' hr' => (pe_callC c_lat (hr'.mono (by decide)) rfl (passX (takes_of rfl rfl rfl rfl) fun _ _ _ _ h => h) (pa_cons (pv 9) (pa_cons (pv 10) pa_nil))))))
 (C8.pss_cut (ps_if (pt_cmpR op_gt (pe_callB call_len_seq (by rfl) T.len PySem.boot_len (pa_cons (pe_ix ix_tup (pv 12) pe_int (fun _ _ => rfl)) pa_nil)) pe_int (nomark _)) (pss_one
 (ps_if (PW.pt (pw_or (pt_not (pt_val (pe_callB (r := rIsA K) call_isA (by rfl) T.isi (by decide +kernel) (pa_cons (pv 5) (pa_cons (pe_glob (v := .ref CT) rfl mCT rfl) pa_nil))))) (pw_or1 (pt_cmpR op_ne (pe_ctF (pv 5)) pe_int (nomark _))))) (pss_one
 (ps_ret pe_bl)) pss_nil)) (pss_one
 (ps_if (PW.pt (pw_or (pt_cmpR op_notN (pv 5) pe_non (nomark _)) (pw_or (pt_cmpR op_ne (pe_callB (call_repr hgu hu64) (by rfl) nrepr (by decide +kernel) (pa_cons (pe_tup (pa_cons (pe_fld (pe_callC c_lat (hr.mono (by decide)) rfl passF (pa_cons (pv 9) (pa_cons (pv 10) pa_nil))) rfl) (pa_cons (pe_fld (pe_callC c_lat (hr.mono (by decide)) rfl passF (pa_cons (pv 9) (pa_cons (pv 10) pa_nil))) rfl) pa_nil))) pa_nil)) (pe_callB (call_repr hgu hu64) (by rfl) nrepr (by decide +kernel) (pa_cons (pe_slice LM.sl_tupN (pv 12) po_none (po_some pe_int)) pa_nil)) (nomark _)) (pw_or1 (pt_cmpR op_gt (pe_callB call_len_seq (by rfl) T.len PySem.boot_len (pa_cons (pe_ix ix_tup (pv 8) pe_int (fun _ _ => rfl)) pa_nil)) (pe_callB call_len_seq (by rfl) T.len PySem.boot_len (pa_cons (pe_ix ix_tup (pv 12) pe_int (fun _ _ => rfl)) pa_nil)) (nomark _)))))) (pss_one
 (ps_ret pe_bl)) pss_nil)))
 (C8.pss_cut (ps_asg (pe_tup (pa_cons (pe_op op_add pe_int (pe_callC c_tak (hr.mono (by decide)) rfl pass0 (pa_cons (pv 1) (pa_cons pe_int pa_nil)))) (pa_cons (pe_op op_add pe_int (pe_callC c_tak (hr.mono (by decide)) rfl pass0 (pa_cons (pv 1) (pa_cons pe_int pa_nil)))) (pa_cons (pe_op op_add pe_int (pe_callC c_tak (hr.mono (by decide)) rfl pass0 (pa_cons (pv 1) (pa_cons pe_int pa_nil)))) pa_nil)))) (pg_tup rfl (pgs_cons (pg_name (i := 13) scLaw.nd rfl (Or.inr rfl)) (pgs_cons (pg_name (i := 14) scLaw.nd rfl (Or.inr rfl)) (pgs_cons (pg_name (i := 15) scLaw.nd rfl (Or.inl rfl)) pgs_nil)))))
 (C8.pss_cut (ps_par (i := 16) (j := 17) (by rfl) scLaw.nd rfl rfl (by decide) rfl rfl (pa_cons (pv 13) (pa_cons (pv 15) pa_nil)) (by rfl))
 (C8.pss_cut (ps_while PassesOwn.never (pt_cmpR op_ne (pe_op op_modN (pv 16) (pv 14)) pe_int (nomark _)) (pss_one
 (ps_set (i := 16) scLaw.nd rfl (Or.inl rfl) (pe_op op_add (pv 16) (pv 13)))))
 (C8.pss_cut (ps_setLc (i := 11) (own := [("beat", 22)]) (g := (gName 22)) (tt := tYes) rfl scLaw.nd rfl rfl (sw_true rfl rfl rfl (by decide +kernel)) (pi_range1 rfl T.range (pa_cons (pe_op op_mul pe_int (pv 16)) pa_nil)) (blkOk_by (N := nLaw) (sc := defScope sLaw) (by decide +kernel)) (fun _ _ _ _ _ => (pg_name (i := 22) scLaw.nd rfl (Or.inl rfl))) (fun _ _ _ _ _ => pts_nil) (fun _ _ _ _ _ => (pe_op op_add (pe_op op_fdivN (pv 22) (pv 13)) (pe_op op_fdivN (pv 22) (pv 14)))))
 (C8.pss_cut (ps_set (i := 18) scLaw.nd rfl (Or.inl rfl) (pe_ix ix_tup (pe_callC c_lfo (hr.mono (by decide)) rfl pass0 (pa_cons (pv 11) (pa_cons (pv 16) (pa_cons (pe_op op_add (pe_op op_fdivN (pv 16) (pv 13)) (pe_op op_fdivN (pv 16) (pv 14))) pa_nil)))) pe_int (fun _ _ => rfl)))
 (C8.pss_cut (ps_while PassesOwn.never (pt_cmpR op_ne (pe_op op_modN (pv 17) (pv 18)) pe_int (nomark _)) (pss_one
 (ps_set (i := 17) scLaw.nd rfl (Or.inl rfl) (pe_op op_add (pv 17) (pv 15)))))
 (C8.pss_cut (ps_asg (pe_tup (pa_cons (pe_callC c_sum (hr.mono (by decide)) rfl passF (pa_cons (pe_callC c_line (hr.mono (by decide)) rfl passF (pa_cons pe_int (pa_cons pe_int (pa_cons (pv 13) pa_nil)))) (pa_cons (pe_callC c_line (hr.mono (by decide)) rfl passF (pa_cons pe_int (pa_cons pe_int (pa_cons (pv 14) pa_nil)))) pa_nil))) (pa_cons (pe_callC c_line (hr.mono (by decide)) rfl passF (pa_cons pe_int (pa_cons pe_int (pa_cons (pv 15) pa_nil)))) pa_nil))) (pg_tup rfl (pgs_cons (pg_name (i := 19) scLaw.nd rfl (Or.inr rfl)) (pgs_cons (pg_name (i := 20) scLaw.nd rfl (Or.inr rfl)) pgs_nil))))
 (C8.pss_cut (ps_for PassesOwn.never rfl (pi_list (pe_lst (pa_cons (pe_glob (v := .ref fLof) rfl m_lof rfl) (pa_cons (pe_glob (v := .ref fMof) rfl m_mof rfl) (pa_cons (pe_glob (v := .ref fSum) rfl m_sum rfl) (pa_cons (pe_glob (v := .ref fFab) rfl m_fab rfl) (pa_cons (pe_glob (v := .ref fIsb) rfl m_isb rfl) pa_nil))))))) (pg_name (i := 21) scLaw.nd rfl (Or.inr rfl)) (C8.pss_cut (ps_set (i := 5) scLaw.nd rfl (Or.inl rfl) (LamX.pe_lamcall (T := TT) (TT := TTc K W) (Ng := nCaught) (k := 11) (by rfl) mC kC lkC hcdC bC scCaught rfl (Or.inl rfl)
                (caught_gives rfl mW rfl rfl rfl) TB rfl mTL uTL hr (lamS_by (sc := defScope sLaw) (by decide +kernel)) (by rfl) (fun _ _ _ _ _ => by rfl)
                (fun A outer s H E f c' hr' => (WY.pe_callAX (S := S) (i := 21) AH (hr'.mono (by decide)) rfl (Or.inr (Or.inr rfl)) (passX (takes_of rfl rfl rfl rfl) fun _ _ _ _ h => h) (pa_cons (pv 19) (pa_cons (pv 20) pa_nil))))))
 (C8.pss_cut (ps_if (PW.pt (pw_and (pt_cmpR op_le (pv 17) pe_int (nomark _)) (pw_and (pt_cmpR op_notN (pv 5) pe_non (nomark _)) (pw_and1 (pt_cmpR op_in_seq (pv 21) (pe_lst (pa_cons (pe_glob (v := .ref fFab) rfl m_fab rfl) (pa_cons (pe_glob (v := .ref fIsb) rfl m_isb rfl) pa_nil))) (by rfl)))))) (pss_one
 (ps_ret pe_bl)) pss_nil)
 (pss_one
 (ps_if (PW.pt (pw_and (pt_cmpR op_gt (pv 17) pe_int (nomark _)) (pw_and1 (PW.pt (pw_or (pt_not (pt_val (pe_callB (r := rIsA K) call_isA (by rfl) T.isi (by decide +kernel) (pa_cons (pv 5) (pa_cons (pe_glob (v := .ref CT) rfl mCT rfl) pa_nil))))) (pw_or1 (pt_cmpR op_ne (pe_ctF (pv 5)) pe_int (nomark _)))))))) (pss_one
 (ps_ret pe_bl)) pss_nil)))))
 (pss_one
 (ps_if (PW.pt (pw_and (pt_cmpR op_le (pv 17) pe_int (nomark _)) (pw_and1 (pt_not (pt_val (pe_callCG c_jr hgu (hr.mono (by decide)) rfl pass0 (pa_cons (pv 19) (pa_cons (pv 20) (pa_cons (pe_lst (pa_cons (pv 13) (pa_cons (pv 14) (pa_cons (pv 15) pa_nil)))) (pa_cons (pv 16) (pa_cons (pv 17) pa_nil))))))))))) (pss_one
 (ps_ret pe_bl)) pss_nil))))))))))))))))))))))
 (pss_one
 (ps_ret pe_bl)))), ?_⟩
    -- the draw
    refine ⟨fun σ H' => ∃ d l e0, σ = [some (.ref a), some (.ref d), none, none, none, none, none, none, none, none, none, none, none, none, none, none, none, none, none, none, none, none, none] ∧ DT TT H' d l e0 ∧ SqL K H' a (ns.map V.int), ?_, ?_⟩
    · refine ⟨_, rfl, a, ns, rfl, hS, hn, fun d l e0 H0 _ _ _ D0 s0 => ?_⟩
      exact ⟨d, l, e0, rfl, ⟨D0, fun p hp => LamX.TabS.nil (s0 _ _ (h0 hT p hp))⟩, s0.seq hS⟩
    clear hS hT
    rintro σ H0 ⟨d, l, e0, rfl, D0, hS0⟩
    refine ⟨fun σ H' => True, ?_, fun σ H' _ => k H'⟩
    refine ⟨_, rfl, a, _, rfl, .inl hS0, _, _, rfl, _, _, rfl, rfl, _, rfl, ?_, ?_, for_range (lo := 0) (n := ((1 : Int) + (if (3 : Int) < ((ns.map V.int).length : Int) then (3 : Int) else ((ns.map V.int).length : Int))).toNat)
      (fun i σ H1 => ∃ w2 w3 w4 w5 w6 w7 w8 w9 w10 w11 w12 w13 w14 w15 w16 w17 w18 w19 w20 w21, σ = [some (.ref a), some (.ref d), w2, w3, w4, w5, w6, w7, w8, w9, w10, w11, w12, w13, w14, w15, w16, w17, w18, w19, w20, w21, none] ∧ DT TT H1 d l e0) ⟨_, _, _, _, _, _, _, _, _, _, _, _, _, _, _, _, _, _, _, _, rfl, D0⟩ ?_ (fun _ _ _ => trivial)⟩
    · split <;> omega
    · rw [List.length_map]; split <;> omega
    clear D0 hS0
    rintro i σ H1 hi ⟨w2, w3, w4, w5, w6, w7, w8, w9, w10, w11, w12, w13, w14, w15, w16, w17, w18, w19, w20, w21, rfl, D1⟩
    generalize hv2 : V.int (0 + (i : Int)) = tn
    clear hi hv2
    -- a beat and steps
    refine ⟨fun σ H' => ∃ B : Nat, 3990 ≤ B ∧ B ≤ 4009 ∧ σ = [some (.ref a), some (.ref d), some (tn), some (.int (B : Nat)), w4, w5, w6, w7, w8, w9, w10, w11, w12, w13, w14, w15, w16, w17, w18, w19, w20, w21, none] ∧ DT TT H' d l e0, ?_, ?_⟩
    · refine ⟨_, rfl, d, l, e0, 20, rfl, D1.D, by decide, by decide, fun r H2 r0 r1 D2 k2 => ⟨_, _, rfl, rfl, (3990 + r).toNat, by omega, by omega, ?_, D1.keep D2 k2⟩⟩
      rw [show (((3990 + r).toNat : Nat) : Int) = 3990 + r by omega]
      try rfl
    clear D1
    rintro σ H1 ⟨B, B0, B1, rfl, D1⟩
    refine ⟨fun σ H' => ∃ s : Int, 1 ≤ s ∧ s ≤ 9 ∧ σ = [some (.ref a), some (.ref d), some (tn), some (.int (B : Nat)), some (.int s), w5, w6, w7, w8, w9, w10, w11, w12, w13, w14, w15, w16, w17, w18, w19, w20, w21, none] ∧ DT TT H' d l e0, ?_, ?_⟩
    · exact ⟨_, rfl, d, l, e0, 9, rfl, D1.D, by decide, by decide, fun r H2 r0 r1 D2 k2 => ⟨_, _, rfl, rfl, 1 + r, by omega, by omega, rfl, D1.keep D2 k2⟩⟩
    clear D1
    rintro σ H1 ⟨s, s0, s1, rfl, D1⟩
    have capG : FormG (fun j => .int (capF B s j)) ((List.range (B + 1)).map fun j => V.int (capF B s j)) 1 0 := .mkI _ 1 0 B (cap_form (by omega) (by omega))
    have capL : ((List.range (B + 1)).map fun j => V.int (capF B s j)).length = B + 1 := by rw [List.length_map, List.length_range]
    have Bs : (B : Int) * s ≤ 4009 * 9 := Int.mul_le_mul (by omega) s1 (by omega) (by decide)
    have Bs0 : 0 ≤ (B : Int) * s := Int.mul_nonneg (by omega) (by omega)
    have kFl : ∀ {H' : Hp} {x : Addr}, IsCur H' C x (fun _ => .int ((B : Int) * s)) → KCn 4000 H' C x (fun _ => .int ((B : Int) * s)) 1 := fun h => kcn_at (f := fun _ => (B : Int) * s) h (form_const _) (by decide) (fun _ => Int.le_refl _) fun _ _ => ⟨Bs0, by omega⟩
    have kLi : ∀ {H' : Hp} {x : Addr}, IsCur H' C x (fun j => .int (lineF 0 s 1 j)) → KCn 4000 H' C x (fun j => .int (s * (j : Int))) 1 := fun h => by
      have e : (fun j : Nat => V.int (lineF 0 s 1 j)) = fun j : Nat => V.int (s * (j : Int)) := funext fun j => by
        unfold lineF
        split
        · rename_i z
          subst z
          congr 1
          show (0 : Int) = s * 0
          omega
        · congr 1
          rw [show ((1 : Nat) : Int) = 1 from rfl, Int.fdiv_one]
          omega
      rw [e] at h
      refine kcn_at (f := fun j : Nat => s * (j : Int)) h form_steps (by decide) (fun j => ?_) fun j hj => ⟨Int.mul_nonneg (by omega) (by omega), ?_⟩
      · show s * (j : Int) ≤ s * ((j + 1 : Nat) : Int)
        exact Int.mul_le_mul_of_nonneg_left (by omega) (by omega)
      · have : s * (j : Int) ≤ 9 * 4000 := Int.mul_le_mul s1 (by omega) (by omega) (by decide)
        omega
    have e1 : (fun j => lesV ((fun _ => V.int ((B : Int) * s)) j) ((fun j : Nat => V.int (s * (j : Int))) j)) = fun j => V.int (capF B s j) := funext fun j => by
      show V.int (hm true ((B : Int) * s) (s * (j : Int))) = _
      unfold hm capF
      rw [if_pos rfl]
      congr 1
      split <;> omega
    have e2 : (fun j => lesV ((fun j : Nat => V.int (s * (j : Int))) j) ((fun _ => V.int ((B : Int) * s)) j)) = fun j => V.int (capF B s j) := funext fun j => by
      show V.int (hm true (s * (j : Int)) ((B : Int) * s)) = _
      unfold hm capF
      rw [if_pos rfl]
      congr 1
      split <;> omega
    -- a flat one and a line
    refine ⟨fun σ H' => ∃ z, σ = [some (.ref a), some (.ref d), some (tn), some (.int (B : Nat)), some (.int s), some (z), w6, w7, w8, w9, w10, w11, w12, w13, w14, w15, w16, w17, w18, w19, w20, w21, none] ∧ DT TT H' d l e0 ∧ ((4000 < B + 1 ∧ ∃ ad, z = .ref ad ∧ ErrC H' ad CT (some ("most", .int 4000))) ∨ (B + 1 ≤ 4000 ∧ z = .non)), ?_, ?_⟩
    · refine ⟨D1.T, fun H8 x8 T8 => ?_⟩
      have D8 := D1.ext T8 x8
      refine ⟨_, rfl, _, rfl, _, _, rfl, rfl, .inr ⟨by omega, by omega⟩, _, rfl, .inl ⟨.inr ⟨_, rfl, Bs0, by omega⟩, fun y1 H2 hy1 i1 s2 => ?_⟩⟩
      refine ⟨_, rfl, _, _, _, rfl, .inl ⟨0, s, 1, rfl, rfl, rfl, by decide, by decide, by omega, by omega, by decide, by decide, fun y2 H3 hy2 i2 s3 => ?_⟩⟩
      refine ⟨⟨_, _, rfl, .inl ⟨y1, y2, _, _, 1, 1, rfl, rfl, kFl (i1.same s3), kLi i2, by decide, ?_⟩⟩⟩
      rw [e1]
      by_cases cB : B + 1 ≤ 4000
      · refine hand_fit capG (by rw [capL]; exact cB) fun z H' hz cu s' => ?_
        exact ⟨_, rfl, _, rfl, D8.same (Same.trans s2 (Same.trans s3 s')), .inr ⟨cB, rfl⟩⟩
      · refine hand_far capG (by rw [capL]; omega) fun d' H' rd => ⟨EM.ex, fun ad hd => ?_⟩
        generalize g7 : upd H' ad _ = HH
        obtain ⟨s7, f7⟩ := alloc g7 hd
        exact ⟨_, rfl, D8.same (Same.trans s2 (Same.trans s3 (Same.trans rd.2.2 s7))), .inl ⟨by omega, ad, rfl, .with_ f7 (s7 _ _ rd.2.1)⟩⟩
    clear D1
    rintro σ H1 ⟨z, rfl, D1, hz⟩
    -- what they fold to
    refine ⟨fun σ H' => ∃ z w, σ = [some (.ref a), some (.ref d), some (tn), some (.int (B : Nat)), some (.int s), some (z), w, w7, w8, w9, w10, w11, w12, w13, w14, w15, w16, w17, w18, w19, w20, w21, none] ∧ DT TT H' d l e0, ?_, ?_⟩
    · rcases hz with ⟨big, ad, rfl, er⟩ | ⟨l4, rfl⟩
      · refine ⟨_, rfl, _, _, rfl, rfl, _, _, rfl, rfl, true, bT (by omega), iteT ?_⟩
        exact ⟨_, rfl, .inl ⟨ad, CT, _, .ref CT, .ref CT, true, rfl, er, .own _, EM.ask, EM.one, true, rfl, iteF ⟨_, rfl, ad, CT, .int 4000, rfl, er, EM.ask, EM.hd, EM.hf, rfl, false, rfl, iteF ⟨_, _, rfl, D1⟩⟩⟩⟩
      · refine ⟨_, rfl, _, _, rfl, rfl, _, _, rfl, rfl, false, bF (by omega), iteF ?_⟩
        refine ⟨fun σ H' => ∃ y, σ = [some (.ref a), some (.ref d), some (tn), some (.int (B : Nat)), some (.int s), some (.non), some (.ref y), w7, w8, w9, w10, w11, w12, w13, w14, w15, w16, w17, w18, w19, w20, w21, none] ∧ DT TT H' d l e0 ∧ CurveAt H' C y ((List.range (B + 1)).map fun j => V.int (capF B s j)) (1 : Nat) 0, ?_, ?_⟩
        · refine ⟨_, rfl, _, _, _, rfl, .inl ⟨0, s, 1, rfl, rfl, rfl, by decide, by decide, by omega, by omega, by decide, by decide, fun y2 H3 hy2 i2 s3 => ?_⟩⟩
          refine ⟨_, rfl, _, rfl, _, _, rfl, rfl, .inr ⟨by omega, by omega⟩, _, rfl, .inl ⟨.inr ⟨_, rfl, Bs0, by omega⟩, fun y1 H2 hy1 i1 s2 => ?_⟩⟩
          refine ⟨_, _, rfl, .inl ⟨y2, y1, _, _, 1, 1, rfl, rfl, kLi (i2.same s2), kFl i1, by decide, ?_⟩⟩
          rw [e2]
          exact hand_fit capG (by rw [capL]; exact l4) fun z H' hz cu s' => ⟨_, rfl, D1.same (Same.trans s3 (Same.trans s2 s')), cu⟩
        rintro σ H2 ⟨y, rfl, D2, cu⟩
        have ro := capG.rowF (by decide)
        have cu' := cu
        obtain ⟨dy, ty, y1, y2⟩ := cu
        refine ⟨fun σ H' => σ = [some (.ref a), some (.ref d), some (tn), some (.int (B : Nat)), some (.int s), some (.non), some (.ref y), w7, w8, w9, w10, w11, w12, w13, w14, w15, w16, w17, w18, w19, w20, w21, none] ∧ H' = H2, ?_, ?_⟩
        · refine ⟨_, rfl, rfl, false, rfl, iteF ⟨_, rfl, y, C, dy, _, .ref ty, rfl, y1, U.cl, U.nS, rfl, ty, _, rfl, .inr (SqT.of y2), _, rfl, _, _, rfl, rfl, rfl, false, ?_, iteF ?_⟩⟩
          · rw [capL]; simp
          refine ⟨_, rfl, _, rfl, _, _, rfl, rfl, _, _, rfl, .inl ⟨y, _, 1, B - 1, 0, _, rfl, ?_, cu', ro, by omega, ?_⟩⟩
          · rw [show ((B - 1 : Nat) : Int) = (B : Int) - 1 by omega]
          refine ⟨_, rfl, _, _, rfl, rfl, _, rfl, _, _, rfl, rfl, ?_, rfl, false, ?_, iteF ⟨rfl, rfl⟩⟩
          · exact .inr ⟨by omega, by omega⟩
          · rw [cap_low (by omega) (Nat.sub_le B 1), show ((B - 1 : Nat) : Int) = (B : Int) - 1 by omega, Int.mul_comm]
            simp
        rintro σ _ ⟨rfl, rfl⟩
        refine ⟨_, rfl, _, _, rfl, rfl, ⟨by decide, by decide, by decide⟩, _, _, rfl, .inl ⟨y, _, 1, 1000000000000, 0, _, rfl, rfl, cu', ro, by decide, ?_⟩⟩
        refine ⟨_, rfl, _, rfl, _, _, rfl, rfl, .inr ⟨by omega, by omega⟩, rfl, false, ?_, iteF ⟨_, rfl, y, C, dy, _, .int (1 : Nat), rfl, y1, U.cl, U.nP, rfl, rfl, false, rfl, iteF ⟨_, _, rfl, D2⟩⟩⟩
        rw [cap_high (by omega) (by omega)]
        simp
    clear D1 hz
    rintro σ H1 ⟨z, w6, rfl, D1⟩
    clear capG capL kFl kLi e1 e2 Bs Bs0
    -- a sketch
    refine ⟨fun σ H' => ∃ e b xs p g, σ = [some (.ref a), some (.ref d), some (tn), some (.int (B : Nat)), some (.int s), some (z), w6, some (.ref e), w8, w9, w10, w11, w12, w13, w14, w15, w16, w17, w18, w19, w20, w21, none] ∧ DT TT H' d l e0 ∧ SkAt H' d l e b xs p g ∧ Sk 12 6 1000 xs p g, ?_, ?_⟩
    · exact ⟨_, rfl, d, l, e0, 12, 9, rfl, D1.D, by decide, by decide, by decide, by decide, fun e b xs p g H' he hb A S D' k => ⟨e, b, xs, p, g, rfl, D1.keep D' k, A, S.wide (Nat.le_refl _) (by decide)⟩⟩
    clear D1
    rintro σ H1 ⟨e, b, xs, p, g, rfl, D1, A1, S1⟩
    have M := S1.make (by decide) (by decide) (by decide)
    obtain ⟨L, R, p0, pn, xl, p6, g0, g1, bd⟩ := S1.rowL (by decide)
    have p6 : p ≤ 6 := by omega
    obtain ⟨vals0, q0, r0, fv0⟩ := form_ex M.fo
    obtain ⟨qn, rfl, fg⟩ := form_g fv0 R
    have fl0 := formV_len fv0
    -- its form
    refine ⟨fun σ H' => ∃ t2 t3, σ = [some (.ref a), some (.ref d), some (tn), some (.int (B : Nat)), some (.int s), some (z), w6, some (.ref e), some (.ref t2), w9, w10, w11, w12, w13, w14, w15, w16, w17, w18, w19, w20, w21, none] ∧ DT TT H' d l e0 ∧ SkAt H' d l e b xs p g ∧ H' t2 = some (.tup [.ref t3, .int (qn : Nat), .int r0]) ∧ H' t3 = some (.tup vals0), ?_, ?_⟩
    · refine ⟨_, rfl, e, _, rfl, sk_start A1.ob, b, _, rfl, .inl (SqL.of A1.li), fun u hu => ?_⟩
      generalize g2 : upd H1 u _ = H2
      obtain ⟨s2, f2⟩ := alloc g2 hu
      have A2 := A1.keep (Same.keepD d l s2)
      refine ⟨_, rfl, e, _, rfl, sk_period A2.ob, _, rfl, e, _, rfl, sk_growth A2.ob, u, xs, p, g, rfl, f2, M.fo, fun v2 q' r' t3 t2 H3 fv2 h3 h2 s3 => ?_⟩
      obtain ⟨qb, rfl, fb⟩ := form_g fv2 R
      obtain ⟨rfl, rfl, rfl⟩ := fb.uniq fg
      have ss := Same.trans s2 s3
      exact ⟨t2, t3, rfl, D1.same ss, A1.keep (Same.keepD d l ss), h2, h3⟩
    clear D1 A1
    rintro σ H1 ⟨t2, t3, rfl, D1, A1, h2, h3⟩
    -- its curve and how much later
    refine ⟨fun σ H' => ∃ (x : Addr) (w q : Nat), σ = [some (.ref a), some (.ref d), some (tn), some (.int (B : Nat)), some (.int s), some (z), w6, some (.ref e), some (.ref t2), some (.ref x), some (.int (w : Nat)), w11, w12, w13, w14, w15, w16, w17, w18, w19, w20, w21, none] ∧ DT TT H' d l e0 ∧ SkAt H' d l e b xs p g ∧ H' t2 = some (.tup [.ref t3, .int (qn : Nat), .int r0]) ∧ H' t3 = some (.tup vals0) ∧ 3980 ≤ w ∧ w ≤ 4000 ∧ KCn 4000 H' C x L q, ?_, ?_⟩
    · refine ⟨_, rfl, e, b, xs, p, g, rfl, A1.ob, A1.li, M, fun x v q r H2 fv cu s2 => ?_⟩
      have D2 := D1.same s2
      have A2 := A1.keep (Same.keepD d l s2)
      refine ⟨_, rfl, d, l, e0, 21, rfl, D2.D, by decide, by decide, fun r1 H3 r10 r11 D3 k3 => ⟨_, _, rfl, rfl, (by show 2 ≤ sizeLine; decide), fun tt htt => ?_⟩⟩
      generalize g4 : upd H3 tt _ = H4
      obtain ⟨s4, f4⟩ := alloc g4 htt
      obtain ⟨q', kc⟩ := made_kcn M R fv ((cu.keepD D2.D k3).same s4)
      refine ⟨tt, [_, _], rfl, SqT.of f4, rfl, _, _, rfl, _, _, rfl, rfl, x, (3980 + r1).toNat, q', ?_, (D2.keep D3 k3).same s4, (A2.keep k3).keep (Same.keepD d l s4), s4 _ _ (D2.D.tup (s2 _ _ h2) k3), s4 _ _ (D2.D.tup (s2 _ _ h3) k3), by omega, by omega, kc⟩
      rw [show (((3980 + r1).toNat : Nat) : Int) = 3980 + r1 by omega]
      try rfl
    clear D1 A1 h2 h3
    rintro σ H1 ⟨x, w, q, rfl, D1, A1, h2, h3, w0, w1, kc⟩
    -- the row that is due
    obtain ⟨FI, RW⟩ := lat_row R p0 pn (by omega) g0 (by omega) w1
    refine ⟨fun σ H' => ∃ ra, σ = [some (.ref a), some (.ref d), some (tn), some (.int (B : Nat)), some (.int s), some (z), w6, some (.ref e), some (.ref t2), some (.ref x), some (.int (w : Nat)), some (.ref ra), w12, w13, w14, w15, w16, w17, w18, w19, w20, w21, none] ∧ DT TT H' d l e0 ∧ SkAt H' d l e b xs p g ∧ H' t2 = some (.tup [.ref t3, .int (qn : Nat), .int r0]) ∧ H' t3 = some (.tup vals0) ∧ KCn 4000 H' C x L q ∧ H' ra = some (.lst ((List.range (w + (xs.length + p))).map (latV L w))), ?_, ?_⟩
    · refine ⟨(by show 1 ≤ sizeLine; decide), fun u hu => ?_⟩
      generalize g2 : upd H1 u _ = H2
      obtain ⟨s2, f2⟩ := alloc g2 hu
      refine ⟨_, rfl, u, w, [.int 0], rfl, rfl, f2, by omega, by omega, (by show 1 * _ ≤ sizeLine; exact line_le (by omega)), fun z1 hz1 => ?_⟩
      generalize g3 : upd H2 z1 _ = H3
      obtain ⟨s3, f3⟩ := alloc g3 hz1
      have s13 := Same.trans s2 s3
      have A3 := A1.keep (Same.keepD d l s13)
      refine ⟨_, rfl, _, rfl, e, _, rfl, sk_start A3.ob, b, _, rfl, .inl (SqL.of A3.li), _, rfl, e, _, rfl, sk_period A3.ob, _, _, rfl, rfl, e, b, xs, p, xs.length + p, g, L, rfl, A3.ob, A3.li, R, by omega, fun z2 H4 hz2 f4 s4 => ?_⟩
      refine ⟨z1, z2, _, _, rfl, rfl, s4 _ _ f3, f4, (by rw [Int.toNat_natCast, zero_rep, List.length_replicate, List.length_map, List.length_range]; exact line_le (by omega)), fun z3 hz3 => ?_⟩
      generalize g5 : upd H4 z3 _ = H5
      obtain ⟨s5, f5⟩ := alloc g5 hz3
      have sA := Same.trans s13 (Same.trans s4 s5)
      rw [Int.toNat_natCast, zero_rep, lat_list] at f5
      exact ⟨z3, rfl, D1.same sA, A1.keep (Same.keepD d l sA), sA _ _ h2, sA _ _ h3, kc.same sA, f5⟩
    clear D1 A1 h2 h3 kc
    rintro σ H1 ⟨ra, rfl, D1, A1, h2, h3, kc, hra⟩
    obtain ⟨vals1, q1, r1, fv1⟩ := form_ex FI
    obtain ⟨qm, rfl, fgL⟩ := form_g fv1 RW
    -- the form that is due
    refine ⟨fun σ H' => ∃ td tl, σ = [some (.ref a), some (.ref d), some (tn), some (.int (B : Nat)), some (.int s), some (z), w6, some (.ref e), some (.ref t2), some (.ref x), some (.int (w : Nat)), some (.ref ra), some (.ref td), w13, w14, w15, w16, w17, w18, w19, w20, w21, none] ∧ DT TT H' d l e0 ∧ H' t2 = some (.tup [.ref t3, .int (qn : Nat), .int r0]) ∧ H' t3 = some (.tup vals0) ∧ KCn 4000 H' C x L q ∧ H' td = some (.tup [.ref tl, .int (qm : Nat), .int r1]) ∧ H' tl = some (.tup vals1), ?_, ?_⟩
    · refine ⟨_, rfl, _, rfl, e, _, rfl, sk_period A1.ob, _, rfl, e, _, rfl, sk_growth A1.ob, ra, _, p, g, rfl, hra, FI, fun v2 q' r' tl td H3 fv2 hl ht s3 => ?_⟩
      obtain ⟨qb, rfl, fb⟩ := form_g fv2 RW
      obtain ⟨rfl, rfl, rfl⟩ := fb.uniq fgL
      exact ⟨td, tl, rfl, D1.same s3, s3 _ _ h2, s3 _ _ h3, kc.same s3, ht, hl⟩
    clear D1 A1 h2 h3 kc hra
    rintro σ H1 ⟨td, tl, rfl, D1, h2, h3, kc, htd, htl⟩
    have ll := lat_len fg fgL (by omega)
    -- later, or not
    refine ⟨fun σ H' => ∃ z, σ = [some (.ref a), some (.ref d), some (tn), some (.int (B : Nat)), some (.int s), some (z), w6, some (.ref e), some (.ref t2), some (.ref x), some (.int (w : Nat)), some (.ref ra), some (.ref td), w13, w14, w15, w16, w17, w18, w19, w20, w21, none] ∧ DT TT H' d l e0 ∧ H' t2 = some (.tup [.ref t3, .int (qn : Nat), .int r0]) ∧ H' t3 = some (.tup vals0) ∧ KCn 4000 H' C x L q ∧ H' td = some (.tup [.ref tl, .int (qm : Nat), .int r1]) ∧ H' tl = some (.tup vals1) ∧
      ((4000 < vals1.length ∧ ∃ ad, z = .ref ad ∧ ErrC H' ad CT (some ("most", .int 4000))) ∨ (vals1.length ≤ 4000 ∧ z = .non)), ?_, ?_⟩
    · refine ⟨D1.T, fun H8 x8 T8 => ?_⟩
      have D8 := D1.ext T8 x8
      have h28 : H8 t2 = some (.tup [.ref t3, .int (qn : Nat), .int r0]) := x8 _ _ h2 (fun _ z => by cases z)
      have h38 : H8 t3 = some (.tup vals0) := x8 _ _ h3 (fun _ z => by cases z)
      have htd8 : H8 td = some (.tup [.ref tl, .int (qm : Nat), .int r1]) := x8 _ _ htd (fun _ z => by cases z)
      have htl8 : H8 tl = some (.tup vals1) := x8 _ _ htl (fun _ z => by cases z)
      have k8 := kc.extN x8
      refine ⟨_, rfl, _, rfl, ⟨⟨x, L, q, w, rfl, k8, by omega, ?_⟩⟩⟩
      by_cases c4 : vals1.length ≤ 4000
      · refine hand_fit fgL c4 fun z H' hz cu s' => ?_
        exact ⟨_, rfl, _, rfl, D8.same s', s' _ _ h28, s' _ _ h38, k8.same s', s' _ _ htd8, s' _ _ htl8, .inr ⟨c4, rfl⟩⟩
      · refine hand_far fgL (by omega) fun d' H' rd => ⟨EM.ex, fun ad hd => ?_⟩
        generalize g7 : upd H' ad _ = HH
        obtain ⟨s7, f7⟩ := alloc g7 hd
        have s8 := Same.trans rd.2.2 s7
        exact ⟨_, rfl, D8.same s8, s8 _ _ h28, s8 _ _ h38, k8.same s8, s8 _ _ htd8, s8 _ _ htl8, .inl ⟨by omega, ad, rfl, .with_ f7 (s7 _ _ rd.2.1)⟩⟩
    clear D1 h2 h3 kc htd htl
    rintro σ H1 ⟨z, rfl, D1, h2, h3, kc, htd, htl, hz⟩
    refine ⟨fun σ H' => σ = [some (.ref a), some (.ref d), some (tn), some (.int (B : Nat)), some (.int s), some (z), w6, some (.ref e), some (.ref t2), some (.ref x), some (.int (w : Nat)), some (.ref ra), some (.ref td), w13, w14, w15, w16, w17, w18, w19, w20, w21, none] ∧ DT TT H' d l e0, ?_, ?_⟩
    · refine ⟨_, rfl, td, _, _, .ref tl, rfl, rfl, SqT.of htd, atI_nat (j := 0) rfl, tl, vals1, rfl, .inr (SqT.of htl), _, _, rfl, rfl, ?_⟩
      rcases hz with ⟨big, ad, rfl, er⟩ | ⟨l4, rfl⟩
      · refine ⟨true, bT (by omega), iteT ?_⟩
        exact ⟨_, rfl, .inl ⟨ad, CT, _, .ref CT, .ref CT, true, rfl, er, .own _, EM.ask, EM.one, true, rfl, iteF ⟨_, rfl, ad, CT, .int 4000, rfl, er, EM.ask, EM.hd, EM.hf, rfl, false, rfl, iteF ⟨rfl, D1⟩⟩⟩⟩
      · refine ⟨false, bF (by omega), iteF ⟨_, rfl, rfl, false, rfl, iteF ?_⟩⟩
        refine ⟨_, rfl, _, rfl, x, L, q, w, rfl, kc, by omega, hand_fit fgL l4 fun z2 H2 hz2 cu2 s2 => ?_⟩
        obtain ⟨dy, ty, y1, y2⟩ := cu2
        refine ⟨z2, C, dy, _, .ref ty, rfl, y1, U.cl, U.nS, rfl, _, rfl, _, rfl, x, L, q, w, rfl, kc.same s2, by omega, hand_fit fgL l4 fun z3 H3 hz3 cu3 s3 => ?_⟩
        obtain ⟨dz, tz, x1, x2⟩ := cu3
        refine ⟨z3, C, dz, _, .int (qm : Nat), rfl, x1, U.cl, U.nP, rfl, (by show 2 ≤ sizeLine; decide), fun T2 hT2 => ?_⟩
        generalize g7 : upd H3 T2 _ = H7
        obtain ⟨s7, f7⟩ := alloc g7 hT2
        have s17 := Same.trans s2 (Same.trans s3 s7)
        have fl := fgL.flat
        have gc : GoodD (.tuple [.tuple (vals1.map vD), .int (qm : Nat)]) := good_two (fun y hy => by
          rw [fgL.row] at hy
          obtain ⟨j, hj, rfl⟩ := List.mem_map.mp hy
          have hj := List.mem_range.mp hj
          unfold latV
          split
          · exact .inr ⟨0, rfl, by unfold SmallI; omega⟩
          · rcases bd (j - w) with z | ⟨i, z, i0, i1⟩
            · rw [z]
              exact .inl rfl
            · rw [z]
              exact .inr ⟨i, rfl, by unfold SmallI; omega⟩) (by omega) (by have := fgL.len; unfold SmallI; omega)
        refine ⟨T2, _, rfl, rdb_dp (dp_two (SqT.of f7) (s7 _ _ (s3 _ _ y2)) fl) gc.hd, gc.sh, gc.dp, gc.le, ?_⟩
        refine ⟨_, rfl, 2, rfl, td, _, rfl, SqT.of (s17 _ _ htd), fun T3 H8 hT3 s8 => ?_⟩
        have s18 := Same.trans s17 s8
        refine ⟨T3, _, rfl, rdb_dp (dp_two hT3 (s18 _ _ htl) fl) gc.hd, gc.sh, gc.dp, gc.le, rfl, false, ?_, iteF ?_⟩
        · simp
        exact ⟨_, rfl, t2, _, _, .ref t3, rfl, rfl, SqT.of (s18 _ _ h2), atI_nat (j := 0) rfl, t3, vals0, rfl, .inr (SqT.of (s18 _ _ h3)), _, rfl, td, _, _, .ref tl, rfl, rfl, SqT.of (s18 _ _ htd), atI_nat (j := 0) rfl, tl, vals1, rfl, .inr (SqT.of (s18 _ _ htl)), _, _, rfl, rfl, false, bF (by omega), iteF ⟨rfl, D1.same s18⟩⟩
    clear D1 h2 h3 kc htd htl hz
    rintro σ H1 ⟨rfl, D1⟩
    clear fg fgL fv0 fv1 FI RW R M S1 bd ll
    -- three lines
    refine ⟨fun σ H' => ∃ (w3 w4 w5 w6 w7 w8 w9 w10 w11 w12 : Option V) (i1 i2 i3 : Int) (u v c : Nat), σ = [some (.ref a), some (.ref d), some (tn), w3, w4, w5, w6, w7, w8, w9, w10, w11, w12, some (.int i1), some (.int i2), some (.int i3), w16, w17, w18, w19, w20, w21, none] ∧ DT TT H' d l e0 ∧ i1 = (u : Nat) ∧ i2 = (v : Nat) ∧ i3 = (c : Nat) ∧ 50 ≤ u ∧ u ≤ 60 ∧ 50 ≤ v ∧ v ≤ 60 ∧ 40 ≤ c ∧ c ≤ 60, ?_, ?_⟩
    · refine ⟨_, rfl, d, l, e0, 11, rfl, D1.D, by decide, by decide, fun ra H2 r0 r1 D2 k2 => ⟨_, _, rfl, rfl, ?_⟩⟩
      have D2 := D1.keep D2 k2
      refine ⟨_, rfl, d, l, e0, 11, rfl, D2.D, by decide, by decide, fun rb H3 r2 r3 D3 k3 => ⟨_, _, rfl, rfl, ?_⟩⟩
      have D3 := D2.keep D3 k3
      refine ⟨_, rfl, d, l, e0, 21, rfl, D3.D, by decide, by decide, fun rc H4 r4 r5 D4 k4 => ⟨_, _, rfl, rfl, (by show 3 ≤ sizeLine; decide), fun tt htt => ?_⟩⟩
      have D4 := D3.keep D4 k4
      generalize g5 : upd H4 tt _ = H5
      obtain ⟨s5, f5⟩ := alloc g5 htt
      exact ⟨tt, [_, _, _], rfl, SqT.of f5, rfl, _, _, rfl, _, _, rfl, _, _, rfl, rfl, _, _, _, _, _, _, _, _, _, _, _, _, _, (50 + ra).toNat, (50 + rb).toNat, (40 + rc).toNat, rfl, D4.same s5, by omega, by omega, by omega, by omega, by omega, by omega, by omega, by omega, by omega⟩
    clear D1
    rintro σ H1 ⟨w3, w4, w5, w6, w7, w8, w9, w10, w11, w12, i1, i2, i3, u, v, c, rfl, D1, rfl, rfl, rfl, u1, u2, v1, v2, c1, c2⟩
    have u0 : 0 < u := by omega
    have v0 : 0 < v := by omega
    have c0 : 0 < c := by omega
    have wadd : ∀ {m k : Nat}, ((m * k : Nat) : Int) + (m : Int) = ((m * (k + 1) : Nat) : Int) := fun {m k} => by rw [Nat.mul_succ] <;> rfl
    generalize eD : Nat.lcm u v = D
    have D0 : 0 < D := by rw [← eD]; exact Nat.lcm_pos u0 v0
    have D36 : D ≤ 3600 := by rw [← eD]; exact lcm_60 u0 v0 u2 v2
    generalize eC : Nat.lcm D c = cm
    have cm0 : 0 < cm := by rw [← eC]; exact Nat.lcm_pos D0 c0
    have eC' : Nat.lcm c D = cm := by rw [Nat.lcm_comm]; exact eC
    refine ⟨fun σ H' => σ = [some (.ref a), some (.ref d), some (tn), w3, w4, w5, w6, w7, w8, w9, w10, w11, w12, some (.int (u : Nat)), some (.int (v : Nat)), some (.int (c : Nat)), some (.int (u : Nat)), some (.int (c : Nat)), w18, w19, w20, w21, none] ∧ H' = H1, ⟨_, rfl, _, rfl, _, _, rfl, rfl, rfl⟩, ?_⟩
    rintro σ H1 ⟨rfl, rfl⟩
    -- both
    refine ⟨fun σ H' => σ = [some (.ref a), some (.ref d), some (tn), w3, w4, w5, w6, w7, w8, w9, w10, w11, w12, some (.int (u : Nat)), some (.int (v : Nat)), some (.int (c : Nat)), some (.int (D : Nat)), some (.int (c : Nat)), w18, w19, w20, w21, none] ∧ H' = H1, ?_, ?_⟩
    · refine while_by (fun σ H' => ∃ k : Nat, 0 < k ∧ u * k ≤ D ∧ σ = [some (.ref a), some (.ref d), some (tn), w3, w4, w5, w6, w7, w8, w9, w10, w11, w12, some (.int (u : Nat)), some (.int (v : Nat)), some (.int (c : Nat)), some (.int (u * k : Nat)), some (.int (c : Nat)), w18, w19, w20, w21, none] ∧ H' = H1)
        (fun (σ : L2.St) _ => match σ[16]? with
          | some (some (V.int b)) => D - b.toNat
          | _ => 0) ⟨1, by decide, by rw [Nat.mul_one, ← eD]; exact Nat.le_of_dvd (by omega) (Nat.dvd_lcm_left u v), by rw [Nat.mul_one], rfl⟩ ?_ ?_
      · rintro σ H2 ⟨k, k0, kl, rfl, rfl⟩
        refine ⟨_, rfl, _, rfl, _, _, rfl, rfl, by omega, rfl, ?_⟩
        rcases up_to u0 v0 k0 (by rw [eD]; exact kl) with ⟨hd, he⟩ | ⟨hd, he⟩
        · refine ⟨false, ?_, iteF ⟨?_, rfl⟩⟩
          · show V.bl (!decide (V.int (Int.fmod ((u * k : Nat) : Int) (v : Int)) = V.int 0)) = _
            rw [fmod_nat _ _ v0]
            rw [Nat.mod_eq_zero_of_dvd hd]
            try rfl
          · rw [he, eD]
        · refine ⟨true, ?_, iteT ⟨_, rfl, _, rfl, _, _, rfl, rfl, ⟨k + 1, by omega, by rw [← eD]; exact he, ?_, rfl⟩, ?_⟩⟩
          · show V.bl (!decide (V.int (Int.fmod ((u * k : Nat) : Int) (v : Int)) = V.int 0)) = _
            rw [fmod_nat _ _ v0]
            have hz : ¬ (u * k % v = 0) := fun z => hd (Nat.dvd_of_mod_eq_zero z)
            generalize u * k % v = m at hz
            simp [hz]
          · rw [← wadd]
            try rfl
          · show D - (((u * k : Nat) : Int) + (u : Int)).toNat < D - ((u * k : Nat) : Int).toNat
            rw [wadd, Int.toNat_natCast, Int.toNat_natCast]
            rw [eD] at he
            rw [Nat.mul_succ] at he ⊢
            omega
      · intro σ H Q Q' m h
        obtain ⟨w1, f1, w2, f2, i, j, e1, e2, nz, sc, b, eb, hQ⟩ := h
        exact ⟨w1, f1, w2, f2, i, j, e1, e2, nz, sc, b, eb, m _ _ hQ⟩
    rintro σ H1 ⟨rfl, rfl⟩
    -- their row
    refine ⟨fun σ H' => ∃ ra, σ = [some (.ref a), some (.ref d), some (tn), w3, w4, w5, w6, w7, w8, w9, w10, some (.ref ra), w12, some (.int (u : Nat)), some (.int (v : Nat)), some (.int (c : Nat)), some (.int (D : Nat)), some (.int (c : Nat)), w18, w19, w20, w21, none] ∧ DT TT H' d l e0 ∧ H' ra = some (.lst ((List.range (2 * D)).map fun j => V.int (hF u v j))), ?_, ?_⟩
    · refine ⟨_, rfl, _, _, rfl, rfl, .inr ⟨by omega, by omega⟩, ((2 * D : Nat) : Int), (by rw [Int.natCast_mul] <;> rfl), by omega, by omega, fun z1 hD => LM.lcM (walk_range (lo := 0) (n := ((2 * D : Nat) : Int).toNat)) (fun j => V.int (hF u v j)) hD (by omega) (fun _ _ => trivial) ?_ fun H2 h2 s2 => ⟨z1, rfl, D1.same s2, by rw [Int.toNat_natCast] at h2; exact h2⟩⟩
      rintro j z H2 H3 hj s1 ⟨rfl, rfl⟩ Rr Nn kk
      have ej : (0 : Int) + (j : Int) = (j : Int) := by omega
      try dsimp only
      rw [ej]
      refine ⟨rfl, _, rfl, _, rfl, _, _, rfl, rfl, ⟨by omega, by omega⟩, _, rfl, _, rfl, _, _, rfl, rfl, ⟨by omega, by omega⟩, _, _, rfl, rfl, ?_⟩
      have kk := kk _ (Same.refl _)
      show Rr (V.int (Int.fdiv (j : Int) (u : Int) + Int.fdiv (j : Int) (v : Int))) _
      rw [fdN, fdN, ← Int.natCast_add]
      exact kk
    clear D1
    rintro σ H1 ⟨ra, rfl, D1, hra⟩
    have fgH : FormG (fun j => .int (hF u v j)) ((List.range (0 + D)).map fun j => V.int (hF u v j)) D ((D / u + D / v : Nat) : Int) := by
      have := hF_form u0 v0
      rw [eD] at this
      exact .mkI _ D _ 0 this
    -- its period
    refine ⟨fun σ H' => σ = [some (.ref a), some (.ref d), some (tn), w3, w4, w5, w6, w7, w8, w9, w10, some (.ref ra), w12, some (.int (u : Nat)), some (.int (v : Nat)), some (.int (c : Nat)), some (.int (D : Nat)), some (.int (c : Nat)), some (.int (D : Nat)), w19, w20, w21, none] ∧ DT TT H' d l e0, ?_, ?_⟩
    · have ga : D / u ≤ 3600 := Nat.le_trans (Nat.div_le_self _ _) D36
      have gb : D / v ≤ 3600 := Nat.le_trans (Nat.div_le_self _ _) D36
      have du : u ∣ D := by rw [← eD]; exact Nat.dvd_lcm_left u v
      have dv : v ∣ D := by rw [← eD]; exact Nat.dvd_lcm_right u v
      have due := due_of (f := hF u v) (n := 2 * D) (p := D) (g := ((D / u + D / v : Nat) : Int)) D0 (by omega) (by omega) (Int.natCast_nonneg _) (nat_le6 (by omega)) ((hF_qp u0 v0 du dv).to (Nat.zero_le _)) fun t => by
        have := hF_bd (a := u) (b := v) (t := t)
        omega
      refine ⟨_, rfl, _, rfl, _, rfl, _, rfl, _, _, rfl, rfl, ⟨by omega, by omega⟩, _, rfl, _, rfl, _, _, rfl, rfl, ⟨by omega, by omega⟩, _, _, rfl, rfl, ra, _, D, _, ?_, hra, due.fi, fun v2 q' r' tl td H3 fv2 hl ht s3 => ?_⟩
      · rw [fdN, fdN]
        try rfl
      obtain ⟨qb, rfl, fb⟩ := form_g fv2 due.ro
      rw [(fb.uniq fgH).2.1] at ht
      exact ⟨td, _, _, .int (D : Nat), rfl, rfl, SqT.of ht, atI_nat (j := 1) rfl, rfl, D1.same s3⟩
    clear D1 hra
    rintro σ H1 ⟨rfl, D1⟩
    -- the common one
    refine ⟨fun σ H' => σ = [some (.ref a), some (.ref d), some (tn), w3, w4, w5, w6, w7, w8, w9, w10, some (.ref ra), w12, some (.int (u : Nat)), some (.int (v : Nat)), some (.int (c : Nat)), some (.int (D : Nat)), some (.int (cm : Nat)), some (.int (D : Nat)), w19, w20, w21, none] ∧ H' = H1, ?_, ?_⟩
    · refine while_by (fun σ H' => ∃ k : Nat, 0 < k ∧ c * k ≤ cm ∧ σ = [some (.ref a), some (.ref d), some (tn), w3, w4, w5, w6, w7, w8, w9, w10, some (.ref ra), w12, some (.int (u : Nat)), some (.int (v : Nat)), some (.int (c : Nat)), some (.int (D : Nat)), some (.int (c * k : Nat)), some (.int (D : Nat)), w19, w20, w21, none] ∧ H' = H1)
        (fun (σ : L2.St) _ => match σ[17]? with
          | some (some (V.int b)) => cm - b.toNat
          | _ => 0) ⟨1, by decide, by rw [Nat.mul_one, ← eC']; exact Nat.le_of_dvd (by omega) (Nat.dvd_lcm_left c D), by rw [Nat.mul_one], rfl⟩ ?_ ?_
      · rintro σ H2 ⟨k, k0, kl, rfl, rfl⟩
        refine ⟨_, rfl, _, rfl, _, _, rfl, rfl, by omega, rfl, ?_⟩
        rcases up_to c0 D0 k0 (by rw [eC']; exact kl) with ⟨hd, he⟩ | ⟨hd, he⟩
        · refine ⟨false, ?_, iteF ⟨?_, rfl⟩⟩
          · show V.bl (!decide (V.int (Int.fmod ((c * k : Nat) : Int) (D : Int)) = V.int 0)) = _
            rw [fmod_nat _ _ D0]
            rw [Nat.mod_eq_zero_of_dvd hd]
            try rfl
          · rw [he, eC']
        · refine ⟨true, ?_, iteT ⟨_, rfl, _, rfl, _, _, rfl, rfl, ⟨k + 1, by omega, by rw [← eC']; exact he, ?_, rfl⟩, ?_⟩⟩
          · show V.bl (!decide (V.int (Int.fmod ((c * k : Nat) : Int) (D : Int)) = V.int 0)) = _
            rw [fmod_nat _ _ D0]
            have hz : ¬ (c * k % D = 0) := fun z => hd (Nat.dvd_of_mod_eq_zero z)
            generalize c * k % D = m at hz
            simp [hz]
          · rw [← wadd]
            try rfl
          · show cm - (((c * k : Nat) : Int) + (c : Int)).toNat < cm - ((c * k : Nat) : Int).toNat
            rw [wadd, Int.toNat_natCast, Int.toNat_natCast]
            rw [eC'] at he
            rw [Nat.mul_succ] at he ⊢
            omega
      · intro σ H Q Q' m h
        obtain ⟨w1, f1, w2, f2, i, j, e1, e2, nz, sc, b, eb, hQ⟩ := h
        exact ⟨w1, f1, w2, f2, i, j, e1, e2, nz, sc, b, eb, m _ _ hQ⟩
    rintro σ H1 ⟨rfl, rfl⟩
    have Hf : MF.IsForm (hF u v) D ((D / u + D / v : Nat) : Int) 0 := by
      have := hF_form u0 v0
      rw [eD] at this
      exact this
    -- the two curves
    refine ⟨fun σ H' => ∃ x y, σ = [some (.ref a), some (.ref d), some (tn), w3, w4, w5, w6, w7, w8, w9, w10, some (.ref ra), w12, some (.int (u : Nat)), some (.int (v : Nat)), some (.int (c : Nat)), some (.int (D : Nat)), some (.int (cm : Nat)), some (.int (D : Nat)), some (.ref x), some (.ref y), w21, none] ∧ DT TT H' d l e0 ∧ KCn 4000 H' C x (fun j => .int (hF u v j)) D ∧ KCn 4000 H' C y (fun j => .int (gF c j)) c, ?_, ?_⟩
    · refine ⟨_, rfl, _, _, _, rfl, .inl ⟨0, 1, u, rfl, rfl, rfl, by decide, by decide, by decide, by decide, by omega, by omega, fun y1 H2 hy1 i1 s2 => ?_⟩⟩
      refine ⟨_, rfl, _, _, _, rfl, .inl ⟨0, 1, v, rfl, rfl, rfl, by decide, by decide, by decide, by decide, by omega, by omega, fun y2 H3 hy2 i2 s3 => ?_⟩⟩
      have kl : ∀ {n : Nat} {H' : Hp} {x : Addr}, 0 < n → n ≤ 60 → IsCur H' C x (fun j => .int (lineF 0 1 n j)) → KCn 4000 H' C x (fun j => .int ((j / n : Nat) : Int)) n := fun {n _ _} n0 n6 h => by
        have e : (fun j : Nat => V.int (lineF 0 1 n j)) = fun j : Nat => V.int ((j / n : Nat) : Int) := funext fun j => by rw [line_one]
        rw [e] at h
        refine kcn_at (f := fun j : Nat => ((j / n : Nat) : Int)) h (form_line n0) (by omega) (fun j => ?_) fun j hj => ⟨Int.natCast_nonneg _, ?_⟩
        · have : j / n ≤ (j + 1) / n := Nat.div_le_div_right (by omega)
          exact Int.ofNat_le.mpr this
        · have := Nat.div_le_self j n
          have : ((j / n : Nat) : Int) ≤ ((j : Nat) : Int) := Int.ofNat_le.mpr this
          omega
      have q1 := kl u0 u2 (i1.same s3)
      have q2 := kl v0 v2 i2
      refine ⟨y1, y2, _, _, u, v, rfl, q1, q2, fun j z => (by cases z), fun j z => (by cases z), fun _ => ?_, fun z => absurd z (by rw [eD]; omega)⟩
      show HandJ C CT (fun j => V.int (hF u v j)) H3 _ _
      refine hand_fit fgH (by rw [List.length_map, List.length_range]; omega) fun x H4 hz cu s4 => ?_
      refine ⟨_, rfl, _, _, _, rfl, .inl ⟨3, 1, c, rfl, rfl, rfl, by decide, by decide, by decide, by decide, by omega, by omega, fun y H5 hy3 i3 s5 => ⟨(by show 2 ≤ sizeLine; decide), fun tt htt => ?_⟩⟩⟩
      generalize g6 : upd H5 tt _ = H6
      obtain ⟨s6, f6⟩ := alloc g6 htt
      have e3 : (fun j : Nat => V.int (lineF 3 1 c j)) = fun j : Nat => V.int (gF c j) := funext fun j => by rw [line_three]
      rw [e3] at i3
      refine ⟨tt, [_, _], rfl, SqT.of f6, rfl, _, _, rfl, _, _, rfl, rfl, x, y, rfl, D1.same (Same.trans s2 (Same.trans s3 (Same.trans s4 (Same.trans s5 s6)))), ?_, ?_⟩
      · exact kcn_at ⟨_, _, _, cu.same (Same.trans s5 s6), fgH⟩ Hf (by omega) (hF_mono u v) fun j hj => ⟨hF_bd.1, by have := (hF_bd (a := u) (b := v) (t := j)).2; omega⟩
      · exact kcn_at (i3.same s6) (gF_form c0) (by omega) (gF_mono c) fun j hj => ⟨gF_bd.1, by have := (gF_bd (c := c) (t := j)).2; omega⟩
    clear D1
    rintro σ H1 ⟨x, y, rfl, D1, kx, ky⟩
    -- all five
    refine ⟨fun σ H' => ∃ w5 w21, σ = [some (.ref a), some (.ref d), some (tn), w3, w4, w5, w6, w7, w8, w9, w10, some (.ref ra), w12, some (.int (u : Nat)), some (.int (v : Nat)), some (.int (c : Nat)), some (.int (D : Nat)), some (.int (cm : Nat)), some (.int (D : Nat)), some (.ref x), some (.ref y), w21, none] ∧ DT TT H' d l e0 ∧ KCn 4000 H' C x (fun j => .int (hF u v j)) D ∧ KCn 4000 H' C y (fun j => .int (gF c j)) c, ?_, ?_⟩
    · refine ⟨(by show 5 ≤ sizeLine; decide), fun q1 hq1 => ?_⟩
      generalize g2 : upd H1 q1 _ = H2
      obtain ⟨s2, f2⟩ := alloc g2 hq1
      have D2 := D1.same s2
      have kx := kx.same s2
      have ky := ky.same s2
      have five := ask_five (S := S) (CT := CT) hLof hMof hSum hFab hIsb hLofT hMofT hFabT hIsbT u1 u2 v1 v2 c1 c2 eD.symm eC.symm kx ky
      refine ⟨q1, rfl, ⟨_, SqL.of f2⟩, for_list (K := K) (a := q1) (xs := [V.ref fLof, .ref fMof, .ref fSum, .ref fFab, .ref fIsb]) (fun i σ H' => ∃ w5 w21, σ = [some (.ref a), some (.ref d), some (tn), w3, w4, w5, w6, w7, w8, w9, w10, some (.ref ra), w12, some (.int (u : Nat)), some (.int (v : Nat)), some (.int (c : Nat)), some (.int (D : Nat)), some (.int (cm : Nat)), some (.int (D : Nat)), some (.ref x), some (.ref y), w21, none] ∧ Tabs TT H' ∧ ExtN H2 H') ⟨_, _, rfl, D2.T, ExtN.refl _⟩ (fun i σ H' _ ⟨_, _, _, _, x3⟩ => SqL.extN (SqL.of f2) x3) ?_ ?_⟩
      rotate_left
      · rintro σ HF ⟨w5, w21, rfl, TF, xF⟩
        exact ⟨_, _, rfl, D2.ext TF xF, kx.extN xF, ky.extN xF⟩
      rintro j t σ HF hv ⟨w5, w21, rfl, TF, xF⟩
      obtain ⟨f', rfl, sp, hS, ask⟩ : ∃ f', t = .ref f' ∧ AskB S CT x y cm H2 f' := by
        obtain ⟨f', hf', rfl⟩ := List.mem_map.mp (show t ∈ List.map V.ref [fLof, fMof, fSum, fFab, fIsb] from List.mem_of_getElem? hv)
        exact ⟨f', rfl, five f' hf'⟩
      refine ⟨fun σ H' => ∃ z, σ = [some (.ref a), some (.ref d), some (tn), w3, w4, some (z), w6, w7, w8, w9, w10, some (.ref ra), w12, some (.int (u : Nat)), some (.int (v : Nat)), some (.int (c : Nat)), some (.int (D : Nat)), some (.int (cm : Nat)), some (.int (D : Nat)), some (.ref x), some (.ref y), some (.ref f'), none] ∧ Tabs TT H' ∧ ExtN H2 H' ∧ ((4000 < cm ∧ ∃ ad, z = .ref ad ∧ ErrC H' ad CT (some ("most", .int 4000))) ∨ (cm ≤ 4000 ∧ z = .non)), ?_, ?_⟩
      · refine ⟨TF, fun H8 x8 T8 => ?_⟩
        refine ⟨f', sp, rfl, hS, _, rfl, _, rfl, ask H8 (xF.trans x8) _ _ (fun cl z H' s' => ?_) (fun cb d' H' rd => ?_)⟩
        · exact ⟨_, rfl, _, rfl, Tabs.same T8 s', (xF.trans x8).trans (ExtN.of_same s'), .inr ⟨cl, rfl⟩⟩
        · refine ⟨EM.ex, fun ad hd => ?_⟩
          generalize g7 : upd H' ad _ = HH
          obtain ⟨s7, f7⟩ := alloc g7 hd
          have s8 := Same.trans rd.2.2 s7
          exact ⟨_, rfl, Tabs.same T8 s8, (xF.trans x8).trans (ExtN.of_same s8), .inl ⟨cb, ad, rfl, .with_ f7 (s7 _ _ rd.2.1)⟩⟩
      rintro σ HI ⟨z, rfl, TI, xI, hz⟩
      refine ⟨fun σ H' => σ = [some (.ref a), some (.ref d), some (tn), w3, w4, some (z), w6, w7, w8, w9, w10, some (.ref ra), w12, some (.int (u : Nat)), some (.int (v : Nat)), some (.int (c : Nat)), some (.int (D : Nat)), some (.int (cm : Nat)), some (.int (D : Nat)), some (.ref x), some (.ref y), some (.ref f'), none] ∧ H' = HI, ?_, ?_⟩
      · rcases hz with ⟨big, ad, rfl, er⟩ | ⟨l4, rfl⟩
        · exact ⟨_, rfl, _, _, rfl, rfl, false, bF (by omega), iteF (iteF ⟨rfl, rfl⟩)⟩
        · exact ⟨_, rfl, _, _, rfl, rfl, true, bT (by omega), iteT ⟨_, rfl, rfl, false, rfl, iteF (iteF ⟨rfl, rfl⟩)⟩⟩
      rintro σ HI ⟨rfl, rfl⟩
      rcases hz with ⟨big, ad, rfl, er⟩ | ⟨l4, rfl⟩
      · exact ⟨_, rfl, _, _, rfl, rfl, true, bT (by omega), iteT ⟨_, rfl, .inl ⟨ad, CT, _, .ref CT, .ref CT, true, rfl, er, .own _, EM.ask, EM.one, true, rfl, iteF ⟨_, rfl, ad, CT, .int 4000, rfl, er, EM.ask, EM.hd, EM.hf, rfl, false, rfl, iteF ⟨_, _, rfl, TI, xI⟩⟩⟩⟩⟩
      · exact ⟨_, rfl, _, _, rfl, rfl, false, bF (by omega), iteF (iteF ⟨_, _, rfl, TI, xI⟩)⟩
    clear D1 kx ky
    rintro σ H1 ⟨w5, w21, rfl, D1, kx, ky⟩
    -- what they answer
    by_cases c4 : cm ≤ 4000
    · refine ⟨_, rfl, _, _, rfl, rfl, true, bT (by omega), iteT ?_⟩
      refine ⟨_, rfl, _, rfl, _, rfl, _, rfl, _, rfl, (by show 3 ≤ sizeLine; decide), fun u' hu' => ?_⟩
      generalize g2 : upd H1 u' _ = H2
      obtain ⟨s2, f2⟩ := alloc g2 hu'
      have D2 := D1.same s2
      exact ⟨_, rfl, _, rfl, x, y, u', u, v, c, D, cm, rfl, D2.T, f2, u1, u2, v1, v2, c1, c2, eD.symm, eC.symm, c4, kx.same s2, ky.same s2, fun H' e t' => ⟨true, rfl, iteF ⟨_, _, _, _, _, _, _, _, _, _, _, _, _, _, _, _, _, _, _, _, rfl, D2.ext t' e⟩⟩⟩
    · exact ⟨_, rfl, _, _, rfl, rfl, false, bF (by omega), iteF (iteF ⟨_, _, _, _, _, _, _, _, _, _, _, _, _, _, _, _, _, _, _, _, rfl, D1⟩)⟩
end
end WW
end

section
set_option Elab.async false
set_option linter.all false
set_option maxRecDepth 100000
set_option maxHeartbeats 0
namespace WK
open PySem L2 WW WT WG WL WV WC WY
abbrev sE_BadCurve : Stmt := L2.inClass (top 3) 0
theorem scE_BadCurve : FnScope ["self", "part"] ["self", "part"] (defScope sE_BadCurve) := ⟨rfl, rfl, rfl, by decide +kernel, rfl, by decide +kernel, by decide +kernel⟩
theorem okE_BadCurve {P : Program} {w : World} {K : PySem.W.Frag} {mg : Str → Option Value} {base : Heap} {f : Addr} {fd : FuncData} (F : Fun K "__init__" "BadCurve.__init__" sE_BadCurve f fd) : FnOk P w K mg base C8.CX0 1 f fd [("self" : Str), "part"] (WT.spErrI K "part") := by
  refine F.ok scE_BadCurve (fun vs H Q E h => ?_) (fun cdv A outer s H vs Q E hr h => ?_)
  · obtain ⟨a, C, y, rfl, _⟩ := h
    rfl
  · obtain ⟨a, C, y, rfl, e, T, hf, k⟩ := h
    exact ⟨_, pss_one (ps_ost (pv 0) (pv 1)), _, rfl, _, rfl, a, C, rfl, T, hf, .inl ⟨e, k⟩⟩
abbrev sE_BadNumber : Stmt := L2.inClass (top 4) 0
theorem scE_BadNumber : FnScope ["self", "part"] ["self", "part"] (defScope sE_BadNumber) := ⟨rfl, rfl, rfl, by decide +kernel, rfl, by decide +kernel, by decide +kernel⟩
theorem okE_BadNumber {P : Program} {w : World} {K : PySem.W.Frag} {mg : Str → Option Value} {base : Heap} {f : Addr} {fd : FuncData} (F : Fun K "__init__" "BadNumber.__init__" sE_BadNumber f fd) : FnOk P w K mg base C8.CX0 1 f fd [("self" : Str), "part"] (WT.spErrI K "part") := by
  refine F.ok scE_BadNumber (fun vs H Q E h => ?_) (fun cdv A outer s H vs Q E hr h => ?_)
  · obtain ⟨a, C, y, rfl, _⟩ := h
    rfl
  · obtain ⟨a, C, y, rfl, e, T, hf, k⟩ := h
    exact ⟨_, pss_one (ps_ost (pv 0) (pv 1)), _, rfl, _, rfl, a, C, rfl, T, hf, .inl ⟨e, k⟩⟩
abbrev sE_TooMany : Stmt := L2.inClass (top 5) 0
theorem scE_TooMany : FnScope ["self", "most"] ["self", "most"] (defScope sE_TooMany) := ⟨rfl, rfl, rfl, by decide +kernel, rfl, by decide +kernel, by decide +kernel⟩
theorem okE_TooMany {P : Program} {w : World} {K : PySem.W.Frag} {mg : Str → Option Value} {base : Heap} {f : Addr} {fd : FuncData} (F : Fun K "__init__" "TooMany.__init__" sE_TooMany f fd) : FnOk P w K mg base C8.CX0 1 f fd [("self" : Str), "most"] (WT.spErrI K "most") := by
  refine F.ok scE_TooMany (fun vs H Q E h => ?_) (fun cdv A outer s H vs Q E hr h => ?_)
  · obtain ⟨a, C, y, rfl, _⟩ := h
    rfl
  · obtain ⟨a, C, y, rfl, e, T, hf, k⟩ := h
    exact ⟨_, pss_one (ps_ost (pv 0) (pv 1)), _, rfl, _, rfl, a, C, rfl, T, hf, .inl ⟨e, k⟩⟩
theorem curB_ok {K : PySem.W.Frag} {mg : Str → Option Value} {C fI fE : Addr} (h : curB K C fI fE = true) (m : mg "Curve" = some (.ref C)) : CurT K mg C fI fE := by
  unfold curB at h
  simp only [Bool.and_eq_true, decide_eq_true_eq] at h
  obtain ⟨⟨⟨⟨a1, a2⟩, a3⟩, a4⟩, ⟨⟨b1, b2⟩, b3⟩, ⟨⟨⟨c1, c2⟩, c3⟩, c4⟩, ⟨⟨d1, d2⟩, d3⟩, ⟨⟨⟨e1, e2⟩, e3⟩, e4⟩, ⟨⟨f1, f2⟩, f3⟩, ⟨g1, g2⟩, g3⟩ := h
  exact ⟨⟨a1, a2, a3, a4⟩, b1, b2, b3, c1, c2, c3, c4, d1, d2, d3, m, ⟨e1, e2, e3, e4⟩, f1, f2, f3, g1, g2, g3⟩
theorem exG_ok {P : Program} {w : World} {K : PySem.W.Frag} {mg : Str → Option Value} {base : Heap} {x f : Str} {C W fI : Addr} {fd : FuncData} (h : exG K C W = true) (T : WT.ErrT P w K mg base x f C fI fd) : ErrGf K W C f := by
  unfold exG at h
  simp only [Bool.and_eq_true, decide_eq_true_eq] at h
  exact ⟨T.ask, h.1, h.2, T.hd, T.hf⟩
theorem kitG_ok {K : PySem.W.Frag} {C : Addr} (h : kitG K C = true) : PySem.W.kitOne K (.type "NoneType") (.ref C) = some false ∧ PySem.W.kitOne K (.type "int") (.ref C) = some false ∧ PySem.W.kitOne K (.type "str") (.ref C) = some false := by
  unfold kitG at h
  simp only [Bool.and_eq_true, decide_eq_true_eq] at h
  exact h
theorem code_of {K : PySem.W.Frag} {x q : Str} {st : Stmt} {fd : FuncData} (F : Fun K x q st (He.ga K x) fd) : fd.code = .ref (WH.ctOf K x).1 := by
  obtain ⟨oc, od, kV, doc, pm, an, cdv, ct, osl, rfl, lk, hcd⟩ := F.ex
  unfold PySem.W.codeIn at hcd
  split at hcd
  · rename_i c
    unfold WH.ctOf WH.coOf
    rw [lk]
  · cases hcd
theorem kbR1 {K : PySem.W.Frag} {x qual y : Str} {st : Stmt} {f : Addr} {fd : FuncData} (F : Fun K x qual st f fd)
    (h : ∀ (kV doc pm : Value) (an : Option Addr) (cdv ct a : Value), bindArgs (PySem.W.fnOf x qual (defArgs st) (defBody st) (defScope st) .none kV doc pm an cdv ct) ⟨[], [(y, a)]⟩ = pure [(y, a)]) :
    KBinds K fd [y] [y] kgR1 kgR1 := by
  obtain ⟨oc, od, kV, doc, pm, an, cdv, ct, osl, rfl, lk, hcd⟩ := F.ex
  refine ⟨fun s us ws _ hl => ?_, fun {vs us zs ws} r rz => ?_⟩
  · match us, ws, hl with
    | [], [a], _ => exact .of_eq (h _ _ _ _ _ _ a)
    | [], [], hl => exact absurd (show (0 : Nat) = 1 from hl) (by decide)
    | [], _ :: _ :: _, hl => exact absurd (show (0 : Nat) = 1 from hl) (by decide)
    | _ :: _, _, hl => exact absurd (show (0 : Nat) = 1 from hl) (by decide)
  · cases r with
    | cons _ _ => exact .nil
    | nil =>
      cases rz with
      | nil => exact .nil
      | cons a1 a2 =>
        cases a2 with
        | nil => exact .cons a1 .nil
        | cons _ _ => exact .nil
theorem kbR2 {K : PySem.W.Frag} {x qual y z : Str} {st : Stmt} {f : Addr} {fd : FuncData} (F : Fun K x qual st f fd)
    (h : ∀ (kV doc pm : Value) (an : Option Addr) (cdv ct a b : Value), bindArgs (PySem.W.fnOf x qual (defArgs st) (defBody st) (defScope st) .none kV doc pm an cdv ct) ⟨[], [(z, a), (y, b)]⟩ = pure [(y, b), (z, a)]) :
    KBinds K fd [y, z] [z, y] kgR2 kgR2 := by
  obtain ⟨oc, od, kV, doc, pm, an, cdv, ct, osl, rfl, lk, hcd⟩ := F.ex
  refine ⟨fun s us ws _ hl => ?_, fun {vs us zs ws} r rz => ?_⟩
  · match us, ws, hl with
    | [], [a, b], _ => exact .of_eq (h _ _ _ _ _ _ a b)
    | [], [], hl => exact absurd (show (0 : Nat) = 2 from hl) (by decide)
    | [], [_], hl => exact absurd (show (0 : Nat) = 2 from hl) (by decide)
    | [], _ :: _ :: _ :: _, hl => exact absurd (show (0 : Nat) = 2 from hl) (by decide)
    | _ :: _, _, hl => exact absurd (show (0 : Nat) = 2 from hl) (by decide)
  · cases r with
    | cons _ _ => exact .nil
    | nil =>
      cases rz with
      | nil => exact .nil
      | cons a1 a2 =>
        cases a2 with
        | nil => exact .nil
        | cons b1 b2 =>
          cases b2 with
          | nil => exact .cons b1 (.cons a1 .nil)
          | cons _ _ => exact .nil
theorem kbR3 {K : PySem.W.Frag} {x qual y1 y2 y3 : Str} {st : Stmt} {f : Addr} {fd : FuncData} (F : Fun K x qual st f fd)
    (h : ∀ (kV doc pm : Value) (an : Option Addr) (cdv ct a b c : Value), bindArgs (PySem.W.fnOf x qual (defArgs st) (defBody st) (defScope st) .none kV doc pm an cdv ct) ⟨[], [(y3, a), (y2, b), (y1, c)]⟩ = pure [(y1, c), (y2, b), (y3, a)]) :
    KBinds K fd [y1, y2, y3] [y3, y2, y1] kgR3 kgR3 := by
  obtain ⟨oc, od, kV, doc, pm, an, cdv, ct, osl, rfl, lk, hcd⟩ := F.ex
  refine ⟨fun s us ws _ hl => ?_, fun {vs us zs ws} r rz => ?_⟩
  · match us, ws, hl with
    | [], [a, b, c], _ => exact .of_eq (h _ _ _ _ _ _ a b c)
    | [], [], hl => exact absurd (show (0 : Nat) = 3 from hl) (by decide)
    | [], [_], hl => exact absurd (show (0 : Nat) = 3 from hl) (by decide)
    | [], [_, _], hl => exact absurd (show (0 : Nat) = 3 from hl) (by decide)
    | [], _ :: _ :: _ :: _ :: _, hl => exact absurd (show (0 : Nat) = 3 from hl) (by decide)
    | _ :: _, _, hl => exact absurd (show (0 : Nat) = 3 from hl) (by decide)
  · cases r with
    | cons _ _ => exact .nil
    | nil =>
      cases rz with
      | nil => exact .nil
      | cons a1 a2 =>
        cases a2 with
        | nil => exact .nil
        | cons b1 b2 =>
          cases b2 with
          | nil => exact .nil
          | cons c1 c2 =>
            cases c2 with
            | nil => exact .cons c1 (.cons b1 (.cons a1 .nil))
            | cons _ _ => exact .nil
def jS (K : PySem.W.Frag) : Addr → Option Sp := fun f => if f = He.ga K "lesser_row" then some (spRowJ K (hm true)) else if f = He.ga K "greater_row" then some (spRowJ K (hm false)) else if f = He.ga K "added_row" then some (spRowJ K fun i j => i + j) else none
theorem jS_les {K : PySem.W.Frag} : jS K (He.ga K "lesser_row") = some (spRowJ K (hm true)) := if_pos rfl
theorem jS_gre {K : PySem.W.Frag} (ne : He.ga K "lesser_row" ≠ He.ga K "greater_row") : jS K (He.ga K "greater_row") = some (spRowJ K (hm false)) := by
  unfold jS
  rw [if_neg (Ne.symm ne), if_pos rfl]
theorem jS_add {K : PySem.W.Frag} (ne : He.ga K "lesser_row" ≠ He.ga K "added_row") (ne2 : He.ga K "greater_row" ≠ He.ga K "added_row") : jS K (He.ga K "added_row") = some (spRowJ K fun i j => i + j) := by
  unfold jS
  rw [if_neg (Ne.symm ne), if_neg (Ne.symm ne2), if_pos rfl]
theorem jS_ok {P : Program} {w : World} {K : PySem.W.Frag} {mg : Str → Option Value} {base : Heap} {fd1 fd2 fd3 : FuncData}
    (o1 : FnOk P w K mg base C8.CX0 1 (He.ga K "lesser_row") fd1 ["row", "other_row"] (spRowJ K fun i j => if i < j then i else j)) (k1 : PySem.W.keepIn K (.ref (He.ga K "lesser_row")) = true) (b1 : Binds K fd1 ["row", "other_row"] [])
    (o2 : FnOk P w K mg base C8.CX0 1 (He.ga K "greater_row") fd2 ["row", "other_row"] (spRowJ K fun i j => if j < i then i else j)) (k2 : PySem.W.keepIn K (.ref (He.ga K "greater_row")) = true) (b2 : Binds K fd2 ["row", "other_row"] [])
    (o3 : FnOk P w K mg base C8.CX0 1 (He.ga K "added_row") fd3 ["row", "other_row"] (spRowJ K fun i j => i + j)) (k3 : PySem.W.keepIn K (.ref (He.ga K "added_row")) = true) (b3 : Binds K fd3 ["row", "other_row"] []) :
    ∀ f sp, jS K f = some sp → L2.Held P w K mg base 1 f sp := fun f sp h => by
  unfold jS at h
  have e1 : hm true = fun i j => if i < j then i else j := by funext i j; exact if_pos rfl
  have e2 : hm false = fun i j => if j < i then i else j := by funext i j; exact if_neg Bool.false_ne_true
  split at h
  · rename_i c
    cases h
    subst c
    rw [e1]
    exact ⟨fd1, _, o1, k1, b1⟩
  · split at h
    · rename_i c
      cases h
      subst c
      rw [e2]
      exact ⟨fd2, _, o2, k2, b2⟩
    · split at h
      · rename_i c
        cases h
        subst c
        exact ⟨fd3, _, o3, k3, b3⟩
      · cases h
def s08 (K : PySem.W.Frag) : Addr → Sp → Prop := fun f sp => (f = He.ga K "least_of" ∧ (sp = spLofW K (He.ga K "Curve") (He.ga K "BadCurve") (He.ga K "TooMany") ∨ sp = spTm K (He.ga K "Curve") (He.ga K "TooMany"))) ∨ (f = He.ga K "most_of" ∧ (sp = spMofW K (He.ga K "Curve") (He.ga K "BadCurve") (He.ga K "TooMany") ∨ sp = spTm K (He.ga K "Curve") (He.ga K "TooMany"))) ∨ (f = He.ga K "sum_of" ∧ sp = spSumX K (He.ga K "Curve") (He.ga K "TooMany")) ∨ (f = He.ga K "first_above" ∧ (sp = spFab K (He.ga K "Curve") (He.ga K "BadCurve") ∨ sp = spTm K (He.ga K "Curve") (He.ga K "TooMany"))) ∨ (f = He.ga K "is_below" ∧ (sp = spIsb K (He.ga K "Curve") (He.ga K "BadCurve") ∨ sp = spTm K (He.ga K "Curve") (He.ga K "TooMany")))
theorem s08_ok {P : Program} {w : World} {K : PySem.W.Frag} {mg : Str → Option Value} {base : Heap} {fd1 fd2 fd3 fd4 fd5 : FuncData} {p1 p2 p3 p4 p5 : List Str}
    (o1 : FnOk P w K mg base (L2.CX P w) 9 (He.ga K "least_of") fd1 p1 (spLofW K (He.ga K "Curve") (He.ga K "BadCurve") (He.ga K "TooMany"))) (r1 : FnOk P w K mg base (L2.CX P w) 9 (He.ga K "least_of") fd1 p1 (spTm K (He.ga K "Curve") (He.ga K "TooMany"))) (k1 : PySem.W.keepIn K (.ref (He.ga K "least_of")) = true) (b1 : Binds K fd1 p1 [])
    (o2 : FnOk P w K mg base (L2.CX P w) 9 (He.ga K "most_of") fd2 p2 (spMofW K (He.ga K "Curve") (He.ga K "BadCurve") (He.ga K "TooMany"))) (r2 : FnOk P w K mg base (L2.CX P w) 9 (He.ga K "most_of") fd2 p2 (spTm K (He.ga K "Curve") (He.ga K "TooMany"))) (k2 : PySem.W.keepIn K (.ref (He.ga K "most_of")) = true) (b2 : Binds K fd2 p2 [])
    (o3 : FnOk P w K mg base (L2.CX P w) 8 (He.ga K "sum_of") fd3 p3 (spSumX K (He.ga K "Curve") (He.ga K "TooMany"))) (k3 : PySem.W.keepIn K (.ref (He.ga K "sum_of")) = true) (b3 : Binds K fd3 p3 [])
    (o4 : FnOk P w K mg base (L2.CX P w) 5 (He.ga K "first_above") fd4 p4 (spFab K (He.ga K "Curve") (He.ga K "BadCurve"))) (r4 : FnOk P w K mg base (L2.CX P w) 5 (He.ga K "first_above") fd4 p4 (spTm K (He.ga K "Curve") (He.ga K "TooMany"))) (k4 : PySem.W.keepIn K (.ref (He.ga K "first_above")) = true) (b4 : Binds K fd4 p4 [])
    (o5 : FnOk P w K mg base (L2.CX P w) 6 (He.ga K "is_below") fd5 p5 (spIsb K (He.ga K "Curve") (He.ga K "BadCurve"))) (r5 : FnOk P w K mg base (L2.CX P w) 6 (He.ga K "is_below") fd5 p5 (spTm K (He.ga K "Curve") (He.ga K "TooMany"))) (k5 : PySem.W.keepIn K (.ref (He.ga K "is_below")) = true) (b5 : Binds K fd5 p5 []) :
    ∀ f sp, s08 K f sp → WY.HeldX P w K mg base 10 f sp := fun f sp h => by
  rcases h with ⟨rfl, rfl | rfl⟩ | ⟨rfl, rfl | rfl⟩ | ⟨rfl, rfl⟩ | ⟨rfl, rfl | rfl⟩ | ⟨rfl, rfl | rfl⟩
  · exact .of (o1.mono (by decide)) k1 b1
  · exact .of (r1.mono (by decide)) k1 b1
  · exact .of (o2.mono (by decide)) k2 b2
  · exact .of (r2.mono (by decide)) k2 b2
  · exact .of (o3.mono (by decide)) k3 b3
  · exact .of (o4.mono (by decide)) k4 b4
  · exact .of (r4.mono (by decide)) k4 b4
  · exact .of (o5.mono (by decide)) k5 b5
  · exact .of (r5.mono (by decide)) k5 b5
/-- the tables of code of the lambdas -/
def t08 (K : PySem.W.Frag) : List (Addr × Str) := [((WH.ctOf K "_law_joins_right").2, lamQJ), ((WH.ctOf K "law").2, lamQ)]
theorem t08_u {K : PySem.W.Frag} (n : (WH.ctOf K "_law_joins_right").2 ≠ (WH.ctOf K "law").2) : (∀ p ∈ t08 K, p.1 = (WH.ctOf K "_law_joins_right").2 → p.2 = lamQJ) ∧ ∀ p ∈ t08 K, p.1 = (WH.ctOf K "law").2 → p.2 = lamQ := by
  unfold t08
  refine ⟨fun p hp e => ?_, fun p hp e => ?_⟩ <;> simp only [List.mem_cons, List.not_mem_nil, or_false] at hp <;> rcases hp with rfl | rfl
  · rfl
  · exact absurd e.symm n
  · exact absurd e n
  · rfl
theorem t08_h {K : PySem.W.Frag} {H : Hp} {o : HO} (h1 : H (WH.ctOf K "_law_joins_right").2 = some o) (h2 : H (WH.ctOf K "law").2 = some o) : ∀ p ∈ t08 K, H p.1 = some o := by
  unfold t08
  intro p hp
  simp only [List.mem_cons, List.not_mem_nil, or_false] at hp
  rcases hp with rfl | rfl
  · exact h1
  · exact h2
end WK
end

section
set_option Elab.async false
set_option linter.all false
set_option maxRecDepth 100000
set_option maxHeartbeats 0
namespace WK
open PySem L2 WW WT WG WL WV WC WY
theorem facts {l : PySem.W.OpenLaw} {w : World} {h : Heap} {K : PySem.W.Frag} {mg : Str → Option Value} {fa : Addr} (X : K.In h) (G : h.Ns mainGlobals mg) (hfa : mg "law" = some (.ref fa)) (c : He.SaysD faK fnK K) (hB : moreB K = true) (hT : WH.TabsIn h tfN K) :
    WH.LawAt l w 14 63 "script" mg fa h := by
  obtain ⟨g_num, D_num⟩ := c.def_ 0 (d := d_num) rfl
  have F_num := WH.fun_of (st := sNum) D_num
  have b_num : Binds K g_num ["thing"] [] := F_num.binds fun _ _ _ _ _ _ us hl => match us, hl with | [_], _ => rfl
  have m_num := He.glo_ok X G (c.fact 0 (f := .glo "is_number") rfl)
  obtain ⟨g_are, D_are⟩ := c.def_ 1 (d := d_are) rfl
  have F_are := WH.fun_of (st := sAre) D_are
  have b_are : Binds K g_are ["row"] [] := F_are.binds fun _ _ _ _ _ _ us hl => match us, hl with | [_], _ => rfl
  have m_are := He.glo_ok X G (c.fact 1 (f := .glo "are_numbers") rfl)
  obtain ⟨g_from, D_from⟩ := c.def_ 2 (d := d_from) rfl
  have F_from := WH.fun_of (st := sFrom) D_from
  have b_from : Binds K g_from ["thing", "low", "high"] [] := F_from.binds fun _ _ _ _ _ _ us hl => match us, hl with | [_, _, _], _ => rfl
  have m_from := He.glo_ok X G (c.fact 2 (f := .glo "is_from") rfl)
  obtain ⟨g_isl, D_isl⟩ := c.def_ 3 (d := d_isl) rfl
  have F_isl := WH.fun_of (st := sIsList) D_isl
  have b_isl : Binds K g_isl ["thing"] [] := F_isl.binds fun _ _ _ _ _ _ us hl => match us, hl with | [_], _ => rfl
  have m_isl := He.glo_ok X G (c.fact 3 (f := .glo "is_list") rfl)
  obtain ⟨g_nnm, D_nnm⟩ := c.def_ 4 (d := d_nnm) rfl
  have F_nnm := WH.fun_of (st := sNeedNum) D_nnm
  have b_nnm : Binds K g_nnm ["thing", "low", "high", "part"] [] := F_nnm.binds fun _ _ _ _ _ _ us hl => match us, hl with | [_, _, _, _], _ => rfl
  have m_nnm := He.glo_ok X G (c.fact 4 (f := .glo "need_number") rfl)
  obtain ⟨g_ini, D_ini⟩ := c.def_ 5 (d := d_ini) rfl
  have F_ini := WH.fun_of (st := sInit) D_ini
  have b_ini : Binds K g_ini ["self", "start", "period", "growth"] [] := F_ini.binds fun _ _ _ _ _ _ us hl => match us, hl with | [_, _, _, _], _ => rfl
  obtain ⟨g_eqc, D_eqc⟩ := c.def_ 6 (d := d_eqc) rfl
  have F_eqc := WH.fun_of (st := sEq) D_eqc
  have b_eqc : Binds K g_eqc ["self", "other"] [] := F_eqc.binds fun _ _ _ _ _ _ us hl => match us, hl with | [_, _], _ => rfl
  obtain ⟨g_abv, D_abv⟩ := c.def_ 7 (d := d_abv) rfl
  have F_abv := WH.fun_of (st := sAbove) D_abv
  have b_abv : Binds K g_abv ["one", "two"] [] := F_abv.binds fun _ _ _ _ _ _ us hl => match us, hl with | [_, _], _ => rfl
  have m_abv := He.glo_ok X G (c.fact 5 (f := .glo "is_above") rfl)
  obtain ⟨g_sta, D_sta⟩ := c.def_ 8 (d := d_sta) rfl
  have F_sta := WH.fun_of (st := sStart) D_sta
  have b_sta : Binds K g_sta ["thing"] [] := F_sta.binds fun _ _ _ _ _ _ us hl => match us, hl with | [_], _ => rfl
  have m_sta := He.glo_ok X G (c.fact 6 (f := .glo "is_start") rfl)
  obtain ⟨g_fal, D_fal⟩ := c.def_ 9 (d := d_fal) rfl
  have F_fal := WH.fun_of (st := sFalls) D_fal
  have b_fal : Binds K g_fal ["start", "period", "growth"] [] := F_fal.binds fun _ _ _ _ _ _ us hl => match us, hl with | [_, _, _], _ => rfl
  have m_fal := He.glo_ok X G (c.fact 7 (f := .glo "falls_behind") rfl)
  obtain ⟨g_frm, D_frm⟩ := c.def_ 10 (d := d_frm) rfl
  have F_frm := WH.fun_of (st := sForm) D_frm
  have b_frm : Binds K g_frm ["row", "period", "growth"] [] := F_frm.binds fun _ _ _ _ _ _ us hl => match us, hl with | [_, _, _], _ => rfl
  have m_frm := He.glo_ok X G (c.fact 8 (f := .glo "least_form") rfl)
  obtain ⟨g_stp, D_stp⟩ := c.def_ 11 (d := d_stp) rfl
  have F_stp := WH.fun_of (st := sStep) D_stp
  have b_stp : Binds K g_stp ["row", "period", "growth"] [] := F_stp.binds fun _ _ _ _ _ _ us hl => match us, hl with | [_, _, _], _ => rfl
  have m_stp := He.glo_ok X G (c.fact 9 (f := .glo "least_step") rfl)
  obtain ⟨g_made, D_made⟩ := c.def_ 12 (d := d_made) rfl
  have F_made := WH.fun_of (st := sMadeC) D_made
  have b_made : Binds K g_made ["row", "period", "growth"] [] := F_made.binds fun _ _ _ _ _ _ us hl => match us, hl with | [_, _, _], _ => rfl
  have m_made := He.glo_ok X G (c.fact 10 (f := .glo "made") rfl)
  obtain ⟨g_ncu, D_ncu⟩ := c.def_ 13 (d := d_ncu) rfl
  have F_ncu := WH.fun_of (st := sNeedCur) D_ncu
  have b_ncu : Binds K g_ncu ["thing"] [] := F_ncu.binds fun _ _ _ _ _ _ us hl => match us, hl with | [_], _ => rfl
  have m_ncu := He.glo_ok X G (c.fact 11 (f := .glo "need_curve") rfl)
  obtain ⟨g_has, D_has⟩ := c.def_ 14 (d := d_has) rfl
  have F_has := WH.fun_of (st := sHas) D_has
  have b_has : Binds K g_has ["curve"] [] := F_has.binds fun _ _ _ _ _ _ us hl => match us, hl with | [_], _ => rfl
  have m_has := He.glo_ok X G (c.fact 12 (f := .glo "has_none") rfl)
  obtain ⟨g_fno, D_fno⟩ := c.def_ 15 (d := d_fno) rfl
  have F_fno := WH.fun_of (st := sFno) D_fno
  have b_fno : Binds K g_fno ["curve"] [] := F_fno.binds fun _ _ _ _ _ _ us hl => match us, hl with | [_], _ => rfl
  have m_fno := He.glo_ok X G (c.fact 13 (f := .glo "first_none") rfl)
  obtain ⟨g_reg, D_reg⟩ := c.def_ 16 (d := d_reg) rfl
  have F_reg := WH.fun_of (st := sRegular) D_reg
  have b_reg : Binds K g_reg ["curve"] [] := F_reg.binds fun _ _ _ _ _ _ us hl => match us, hl with | [_], _ => rfl
  have m_reg := He.glo_ok X G (c.fact 14 (f := .glo "regular_from") rfl)
  obtain ⟨g_cat, D_cat⟩ := c.def_ 17 (d := d_cat) rfl
  have F_cat := WH.fun_of (st := sCat) D_cat
  have b_cat : Binds K g_cat ["curve", "beat"] [] := F_cat.binds fun _ _ _ _ _ _ us hl => match us, hl with | [_, _], _ => rfl
  have m_cat := He.glo_ok X G (c.fact 15 (f := .glo "at") rfl)
  obtain ⟨g_fst, D_fst⟩ := c.def_ 18 (d := d_fst) rfl
  have F_fst := WH.fun_of (st := sFirst) D_fst
  have b_fst : Binds K g_fst ["curve", "many"] [] := F_fst.binds fun _ _ _ _ _ _ us hl => match us, hl with | [_, _], _ => rfl
  have m_fst := He.glo_ok X G (c.fact 16 (f := .glo "first_values") rfl)
  obtain ⟨g_beh, D_beh⟩ := c.def_ 19 (d := d_beh) rfl
  have F_beh := WH.fun_of (st := sBehind) D_beh
  have b_beh : Binds K g_beh ["curve", "many"] [] := F_beh.binds fun _ _ _ _ _ _ us hl => match us, hl with | [_, _], _ => rfl
  have m_beh := He.glo_ok X G (c.fact 17 (f := .glo "values_behind") rfl)
  obtain ⟨g_val, D_val⟩ := c.def_ 20 (d := d_val) rfl
  have F_val := WH.fun_of (st := sValue) D_val
  have b_val : Binds K g_val ["curve", "beat"] [] := F_val.binds fun _ _ _ _ _ _ us hl => match us, hl with | [_, _], _ => rfl
  have m_val := He.glo_ok X G (c.fact 18 (f := .glo "value") rfl)
  obtain ⟨g_flat, D_flat⟩ := c.def_ 21 (d := d_flat) rfl
  have F_flat := WH.fun_of (st := sFlat) D_flat
  have b_flat : Binds K g_flat ["number"] [] := F_flat.binds fun _ _ _ _ _ _ us hl => match us, hl with | [_], _ => rfl
  have m_flat := He.glo_ok X G (c.fact 19 (f := .glo "flat") rfl)
  obtain ⟨g_line, D_line⟩ := c.def_ 22 (d := d_line) rfl
  have F_line := WH.fun_of (st := sLine) D_line
  have b_line : Binds K g_line ["burst", "steps", "beats"] [] := F_line.binds fun _ _ _ _ _ _ us hl => match us, hl with | [_, _, _], _ => rfl
  have m_line := He.glo_ok X G (c.fact 20 (f := .glo "line") rfl)
  obtain ⟨g_two, D_two⟩ := c.def_ 23 (d := d_two) rfl
  have F_two := WH.fun_of (st := sTwo) D_two
  have b_two : Binds K g_two ["curve", "other"] [] := F_two.binds fun _ _ _ _ _ _ us hl => match us, hl with | [_, _], _ => rfl
  have m_two := He.glo_ok X G (c.fact 21 (f := .glo "need_two") rfl)
  obtain ⟨g_per, D_per⟩ := c.def_ 24 (d := d_per) rfl
  have F_per := WH.fun_of (st := sPer) D_per
  have b_per : Binds K g_per ["curve", "other"] [] := F_per.binds fun _ _ _ _ _ _ us hl => match us, hl with | [_, _], _ => rfl
  have m_per := He.glo_ok X G (c.fact 22 (f := .glo "common_period") rfl)
  obtain ⟨g_gai, D_gai⟩ := c.def_ 25 (d := d_gai) rfl
  have F_gai := WH.fun_of (st := sGai) D_gai
  have b_gai : Binds K g_gai ["curve", "other", "step"] [] := F_gai.binds fun _ _ _ _ _ _ us hl => match us, hl with | [_, _, _], _ => rfl
  have m_gai := He.glo_ok X G (c.fact 23 (f := .glo "gain_in") rfl)
  obtain ⟨g_fab, D_fab⟩ := c.def_ 26 (d := d_fab) rfl
  have F_fab := WH.fun_of (st := sFab) D_fab
  have b_fab : Binds K g_fab ["curve", "other"] [] := F_fab.binds fun _ _ _ _ _ _ us hl => match us, hl with | [_, _], _ => rfl
  have m_fab := He.glo_ok X G (c.fact 24 (f := .glo "first_above") rfl)
  obtain ⟨g_ahe, D_ahe⟩ := c.def_ 27 (d := d_ahe) rfl
  have F_ahe := WH.fun_of (st := sAhe) D_ahe
  have b_ahe : Binds K g_ahe ["curve", "other"] [] := F_ahe.binds fun _ _ _ _ _ _ us hl => match us, hl with | [_, _], _ => rfl
  have m_ahe := He.glo_ok X G (c.fact 25 (f := .glo "above_ahead") rfl)
  obtain ⟨g_gap, D_gap⟩ := c.def_ 28 (d := d_gap) rfl
  have F_gap := WH.fun_of (st := sGap) D_gap
  have b_gap : Binds K g_gap ["row", "other_row"] [] := F_gap.binds fun _ _ _ _ _ _ us hl => match us, hl with | [_, _], _ => rfl
  have m_gap := He.glo_ok X G (c.fact 26 (f := .glo "gaps_of") rfl)
  obtain ⟨g_fbe, D_fbe⟩ := c.def_ 29 (d := d_fbe) rfl
  have F_fbe := WH.fun_of (st := sFbe) D_fbe
  have b_fbe : Binds K g_fbe ["row", "number"] [] := F_fbe.binds fun _ _ _ _ _ _ us hl => match us, hl with | [_, _], _ => rfl
  have m_fbe := He.glo_ok X G (c.fact 27 (f := .glo "first_below") rfl)
  obtain ⟨g_isb, D_isb⟩ := c.def_ 30 (d := d_isb) rfl
  have F_isb := WH.fun_of (st := sIsb) D_isb
  have b_isb : Binds K g_isb ["curve", "other"] [] := F_isb.binds fun _ _ _ _ _ _ us hl => match us, hl with | [_, _], _ => rfl
  have m_isb := He.glo_ok X G (c.fact 28 (f := .glo "is_below") rfl)
  obtain ⟨g_slo, D_slo⟩ := c.def_ 31 (d := d_slo) rfl
  have F_slo := WH.fun_of (st := sSlo) D_slo
  have b_slo : Binds K g_slo ["curve", "other"] [] := F_slo.binds fun _ _ _ _ _ _ us hl => match us, hl with | [_, _], _ => rfl
  have m_slo := He.glo_ok X G (c.fact 29 (f := .glo "slower_first") rfl)
  obtain ⟨g_lab, D_lab⟩ := c.def_ 32 (d := d_lab) rfl
  have F_lab := WH.fun_of (st := sLab) D_lab
  have b_lab : Binds K g_lab ["row", "other_row", "begin", "gain"] [] := F_lab.binds fun _ _ _ _ _ _ us hl => match us, hl with | [_, _, _, _], _ => rfl
  have m_lab := He.glo_ok X G (c.fact 30 (f := .glo "last_above") rfl)
  obtain ⟨g_lle, D_lle⟩ := c.def_ 33 (d := d_lle) rfl
  have F_lle := WH.fun_of (st := sLle) D_lle
  have b_lle : Binds K g_lle ["slow", "fast", "step"] [] := F_lle.binds fun _ _ _ _ _ _ us hl => match us, hl with | [_, _, _], _ => rfl
  have m_lle := He.glo_ok X G (c.fact 31 (f := .glo "last_lead") rfl)
  obtain ⟨g_set, D_set⟩ := c.def_ 34 (d := d_set) rfl
  have F_set := WH.fun_of (st := sSet) D_set
  have b_set : Binds K g_set ["curve", "other", "least"] [] := F_set.binds fun _ _ _ _ _ _ us hl => match us, hl with | [_, _, _], _ => rfl
  have m_set := He.glo_ok X G (c.fact 32 (f := .glo "settled") rfl)
  obtain ⟨g_sho, D_sho⟩ := c.def_ 35 (d := d_sho) rfl
  have F_sho := WH.fun_of (st := sSho) D_sho
  have b_sho : Binds K g_sho ["curve", "other"] [] := F_sho.binds fun _ _ _ _ _ _ us hl => match us, hl with | [_, _], _ => rfl
  have m_sho := He.glo_ok X G (c.fact 33 (f := .glo "shorter_end") rfl)
  obtain ⟨g_les, D_les⟩ := c.def_ 36 (d := d_les) rfl
  have F_les := WH.fun_of (st := sLes) D_les
  have b_les : Binds K g_les ["row", "other_row"] [] := F_les.binds fun _ _ _ _ _ _ us hl => match us, hl with | [_, _], _ => rfl
  have m_les := He.glo_ok X G (c.fact 34 (f := .glo "lesser_row") rfl)
  obtain ⟨g_gre, D_gre⟩ := c.def_ 37 (d := d_gre) rfl
  have F_gre := WH.fun_of (st := sGre) D_gre
  have b_gre : Binds K g_gre ["row", "other_row"] [] := F_gre.binds fun _ _ _ _ _ _ us hl => match us, hl with | [_, _], _ => rfl
  have m_gre := He.glo_ok X G (c.fact 35 (f := .glo "greater_row") rfl)
  obtain ⟨g_add, D_add⟩ := c.def_ 38 (d := d_add) rfl
  have F_add := WH.fun_of (st := sAdd) D_add
  have b_add : Binds K g_add ["row", "other_row"] [] := F_add.binds fun _ _ _ _ _ _ us hl => match us, hl with | [_, _], _ => rfl
  have m_add := He.glo_ok X G (c.fact 36 (f := .glo "added_row") rfl)
  obtain ⟨g_lof, D_lof⟩ := c.def_ 39 (d := d_lof) rfl
  have F_lof := WH.fun_of (st := sLof) D_lof
  have b_lof : Binds K g_lof ["curve", "other"] [] := F_lof.binds fun _ _ _ _ _ _ us hl => match us, hl with | [_, _], _ => rfl
  have m_lof := He.glo_ok X G (c.fact 37 (f := .glo "least_of") rfl)
  obtain ⟨g_mof, D_mof⟩ := c.def_ 40 (d := d_mof) rfl
  have F_mof := WH.fun_of (st := sMof) D_mof
  have b_mof : Binds K g_mof ["curve", "other"] [] := F_mof.binds fun _ _ _ _ _ _ us hl => match us, hl with | [_, _], _ => rfl
  have m_mof := He.glo_ok X G (c.fact 38 (f := .glo "most_of") rfl)
  obtain ⟨g_jnu, D_jnu⟩ := c.def_ 41 (d := d_jnu) rfl
  have F_jnu := WH.fun_of (st := sJnu) D_jnu
  have b_jnu : Binds K g_jnu ["joined_row", "curve", "other", "least"] [] := F_jnu.binds fun _ _ _ _ _ _ us hl => match us, hl with | [_, _, _, _], _ => rfl
  have m_jnu := He.glo_ok X G (c.fact 39 (f := .glo "joined_numbers") rfl)
  obtain ⟨g_jby, D_jby⟩ := c.def_ 42 (d := d_jby) rfl
  have F_jby := WH.fun_of (st := sJby) D_jby
  have b_jby : Binds K g_jby ["joined_row", "curve", "other", "many", "period", "growth"] [] := F_jby.binds fun _ _ _ _ _ _ us hl => match us, hl with | [_, _, _, _, _, _], _ => rfl
  have m_jby := He.glo_ok X G (c.fact 40 (f := .glo "joined_by") rfl)
  obtain ⟨g_jen, D_jen⟩ := c.def_ 43 (d := d_jen) rfl
  have F_jen := WH.fun_of (st := sJen) D_jen
  have b_jen : Binds K g_jen ["joined_row", "curve", "other"] [] := F_jen.binds fun _ _ _ _ _ _ us hl => match us, hl with | [_, _, _], _ => rfl
  have m_jen := He.glo_ok X G (c.fact 41 (f := .glo "joined_ends") rfl)
  obtain ⟨g_sum, D_sum⟩ := c.def_ 44 (d := d_sum) rfl
  have F_sum := WH.fun_of (st := sSum) D_sum
  have b_sum : Binds K g_sum ["curve", "other"] [] := F_sum.binds fun _ _ _ _ _ _ us hl => match us, hl with | [_, _], _ => rfl
  have m_sum := He.glo_ok X G (c.fact 42 (f := .glo "sum_of") rfl)
  obtain ⟨g_ltr, D_ltr⟩ := c.def_ 45 (d := d_ltr) rfl
  have F_ltr := WH.fun_of (st := sLat) D_ltr
  have b_ltr : Binds K g_ltr ["curve", "beats"] [] := F_ltr.binds fun _ _ _ _ _ _ us hl => match us, hl with | [_, _], _ => rfl
  have m_ltr := He.glo_ok X G (c.fact 43 (f := .glo "later") rfl)
  obtain ⟨g_beg, D_beg⟩ := c.def_ 46 (d := d_beg) rfl
  have F_beg := WH.fun_of (st := sBegun) D_beg
  have b_beg : Binds K g_beg ["script"] [] := F_beg.binds fun _ _ _ _ _ _ us hl => match us, hl with | [_], _ => rfl
  have m_beg := He.glo_ok X G (c.fact 44 (f := .glo "_law_begun") rfl)
  obtain ⟨g_mix, D_mix⟩ := c.def_ 47 (d := d_mix) rfl
  have F_mix := WH.fun_of (st := sMixed) D_mix
  have b_mix : Binds K g_mix ["draw"] [] := F_mix.binds fun _ _ _ _ _ _ us hl => match us, hl with | [_], _ => rfl
  have m_mix := He.glo_ok X G (c.fact 45 (f := .glo "_law_mixed") rfl)
  obtain ⟨g_tak, D_tak⟩ := c.def_ 48 (d := d_tak) rfl
  have F_tak := WH.fun_of (st := sTake) D_tak
  have b_tak : Binds K g_tak ["draw", "amount"] [] := F_tak.binds fun _ _ _ _ _ _ us hl => match us, hl with | [_, _], _ => rfl
  have m_tak := He.glo_ok X G (c.fact 46 (f := .glo "_law_take") rfl)
  obtain ⟨g_pic, D_pic⟩ := c.def_ 49 (d := d_pic) rfl
  have F_pic := WH.fun_of (st := sPick) D_pic
  have b_pic : Binds K g_pic ["draw", "some"] [] := F_pic.binds fun _ _ _ _ _ _ us hl => match us, hl with | [_, _], _ => rfl
  have m_pic := He.glo_ok X G (c.fact 47 (f := .glo "_law_pick") rfl)
  obtain ⟨g_cau, D_cau⟩ := c.def_ 50 (d := d_cau) rfl
  have F_cau := WH.fun_of (st := sCaught) D_cau
  have b_cau : Binds K g_cau ["work"] [] := F_cau.binds fun _ _ _ _ _ _ us hl => match us, hl with | [_], _ => rfl
  have m_cau := He.glo_ok X G (c.fact 48 (f := .glo "_law_caught") rfl)
  obtain ⟨g_sts, D_sts⟩ := c.def_ 51 (d := d_sts) rfl
  have F_sts := WH.fun_of (st := sSteps) D_sts
  have b_sts : Binds K g_sts ["draw", "size", "most"] [] := F_sts.binds fun _ _ _ _ _ _ us hl => match us, hl with | [_, _, _], _ => rfl
  have m_sts := He.glo_ok X G (c.fact 49 (f := .glo "_law_steps") rfl)
  obtain ⟨g_ske, D_ske⟩ := c.def_ 52 (d := d_ske) rfl
  have F_ske := WH.fun_of (st := sSketch) D_ske
  have b_ske : Binds K g_ske ["draw", "long", "most"] [] := F_ske.binds fun _ _ _ _ _ _ us hl => match us, hl with | [_, _, _], _ => rfl
  have m_ske := He.glo_ok X G (c.fact 50 (f := .glo "_law_sketch") rfl)
  obtain ⟨g_mad, D_mad⟩ := c.def_ 53 (d := d_mad) rfl
  have F_mad := WH.fun_of (st := sMade) D_mad
  have b_mad : Binds K g_mad ["sketch"] [] := F_mad.binds fun _ _ _ _ _ _ us hl => match us, hl with | [_], _ => rfl
  have m_mad := He.glo_ok X G (c.fact 51 (f := .glo "_law_made") rfl)
  obtain ⟨g_att, D_att⟩ := c.def_ 54 (d := d_att) rfl
  have F_att := WH.fun_of (st := sAt) D_att
  have b_att : Binds K g_att ["sketch", "beat"] [] := F_att.binds fun _ _ _ _ _ _ us hl => match us, hl with | [_, _], _ => rfl
  have m_att := He.glo_ok X G (c.fact 52 (f := .glo "_law_at") rfl)
  obtain ⟨g_row, D_row⟩ := c.def_ 55 (d := d_row) rfl
  have F_row := WH.fun_of (st := sRow) D_row
  have b_row : Binds K g_row ["sketch", "beats"] [] := F_row.binds fun _ _ _ _ _ _ us hl => match us, hl with | [_, _], _ => rfl
  have m_row := He.glo_ok X G (c.fact 53 (f := .glo "_law_row") rfl)
  obtain ⟨g_lfo, D_lfo⟩ := c.def_ 56 (d := d_lfo) rfl
  have F_lfo := WH.fun_of (st := sLForm) D_lfo
  have b_lfo : Binds K g_lfo ["row", "period_here", "growth_here"] [] := F_lfo.binds fun _ _ _ _ _ _ us hl => match us, hl with | [_, _, _], _ => rfl
  have m_lfo := He.glo_ok X G (c.fact 54 (f := .glo "_law_form") rfl)
  obtain ⟨g_jr, D_jr⟩ := c.def_ 57 (d := d_jr) rfl
  have F_jr := WH.fun_of (st := sJr) D_jr
  have b_jr : Binds K g_jr ["first", "second", "beats_here", "both", "common"] [] := F_jr.binds fun _ _ _ _ _ _ us hl => match us, hl with | [_, _, _, _, _], _ => rfl
  have m_jr := He.glo_ok X G (c.fact 55 (f := .glo "_law_joins_right") rfl)
  obtain ⟨g_law, D_law⟩ := c.def_ 58 (d := d_law) rfl
  have F_law := WH.fun_of (st := sLaw) D_law
  have b_law : Binds K g_law ["script"] [] := F_law.binds fun _ _ _ _ _ _ us hl => match us, hl with | [_], _ => rfl
  have m_law := He.glo_ok X G (c.fact 56 (f := .glo "law") rfl)
  obtain ⟨g_EBadCurve, D_EBadCurve⟩ := c.def_ 59 (d := d_EBadCurve) rfl
  have F_EBadCurve := WH.fun_of (st := sE_BadCurve) D_EBadCurve
  have b_EBadCurve : Binds K g_EBadCurve ["self", "part"] [] := F_EBadCurve.binds fun _ _ _ _ _ _ us hl => match us, hl with | [_, _], _ => rfl
  obtain ⟨g_EBadNumber, D_EBadNumber⟩ := c.def_ 60 (d := d_EBadNumber) rfl
  have F_EBadNumber := WH.fun_of (st := sE_BadNumber) D_EBadNumber
  have b_EBadNumber : Binds K g_EBadNumber ["self", "part"] [] := F_EBadNumber.binds fun _ _ _ _ _ _ us hl => match us, hl with | [_, _], _ => rfl
  obtain ⟨g_ETooMany, D_ETooMany⟩ := c.def_ 61 (d := d_ETooMany) rfl
  have F_ETooMany := WH.fun_of (st := sE_TooMany) D_ETooMany
  have b_ETooMany : Binds K g_ETooMany ["self", "most"] [] := F_ETooMany.binds fun _ _ _ _ _ _ us hl => match us, hl with | [_, _], _ => rfl
  have m_WaitError := He.glo_ok X G (c.fact 57 (f := .glo "WaitError") rfl)
  have m_BadCurve := He.glo_ok X G (c.fact 58 (f := .glo "BadCurve") rfl)
  have m_BadNumber := He.glo_ok X G (c.fact 59 (f := .glo "BadNumber") rfl)
  have m_TooMany := He.glo_ok X G (c.fact 60 (f := .glo "TooMany") rfl)
  have m_Curve := He.glo_ok X G (c.fact 61 (f := .glo "Curve") rfl)
  have n_isinstance := He.free_ok X G (c.fact 62 (f := .free "isinstance") rfl)
  have n_int := He.free_ok X G (c.fact 63 (f := .free "int") rfl)
  have n_bool := He.free_ok X G (c.fact 64 (f := .free "bool") rfl)
  have n_list := He.free_ok X G (c.fact 65 (f := .free "list") rfl)
  have n_tuple := He.free_ok X G (c.fact 66 (f := .free "tuple") rfl)
  have n_len := He.free_ok X G (c.fact 67 (f := .free "len") rfl)
  have n_all := He.free_ok X G (c.fact 68 (f := .free "all") rfl)
  have n_sorted := He.free_ok X G (c.fact 69 (f := .free "sorted") rfl)
  have n_zip := He.free_ok X G (c.fact 70 (f := .free "zip") rfl)
  have n_min := He.free_ok X G (c.fact 71 (f := .free "min") rfl)
  have n_range := He.free_ok X G (c.fact 72 (f := .free "range") rfl)
  have n_type := He.free_ok X G (c.fact 73 (f := .free "type") rfl)
  have n_abs := He.free_ok X G (c.fact 74 (f := .free "abs") rfl)
  have n_repr := He.free_ok X G (c.fact 75 (f := .free "repr") rfl)
  have n_max := He.free_ok X G (c.fact 76 (f := .free "max") rfl)
  have t_MOST := He.int_ok X G (c.fact 77 (f := .int "MOST" 1000000000) rfl)
  have t_MOST_GIVEN := He.int_ok X G (c.fact 78 (f := .int "MOST_GIVEN" 400) rfl)
  have t_MOST_MADE := He.int_ok X G (c.fact 79 (f := .int "MOST_MADE" 4000) rfl)
  have t_FEW := He.int_ok X G (c.fact 80 (f := .int "FEW" 12) rfl)
  have e := hfa.symm.trans m_law
  cases e
  have hB0 := Bool.and_eq_true_iff.mp hB
  have hB1 := Bool.and_eq_true_iff.mp hB0.2
  have hB2 := Bool.and_eq_true_iff.mp hB1.2
  have hB3 := Bool.and_eq_true_iff.mp hB2.2
  have hB4 := Bool.and_eq_true_iff.mp hB3.2
  have hB5 := Bool.and_eq_true_iff.mp hB4.2
  have hB6 := Bool.and_eq_true_iff.mp hB5.2
  have hB7 := Bool.and_eq_true_iff.mp hB6.2
  have hB8 := Bool.and_eq_true_iff.mp hB7.2
  have hB9 := Bool.and_eq_true_iff.mp hB8.2
  have U := curB_ok hB0.1 m_Curve
  have z_BadCurve := hB1.1
  have z_BadNumber := hB2.1
  have z_TooMany := hB3.1
  have z_EM := hB4.1
  have z_ne := hB5.1
  have z_j1 := hB6.1
  have z_j2 := hB7.1
  have z_n1 := hB8.1
  have z_i_gcd := hB9.1
  have z_i_lcm := hB9.2
  have i_gcd : mg "gcd" = some (.builtin "math.gcd") := PySem.W.mg_of X G (of_decide_eq_true z_i_gcd)
  have i_lcm : mg "lcm" = some (.builtin "math.lcm") := PySem.W.mg_of X G (of_decide_eq_true z_i_lcm)
  have hTf : ∀ p ∈ tfN.map (WH.ctOf K), h.get? p.2 = some WH.tab0 ∧ K.lookup p.2 = none ∧ PySem.W.CodeHd h p.1 p.2 := by
    intro p hp
    obtain ⟨x, hx, rfl⟩ := List.mem_map.mp hp
    exact ⟨hT.emp x hx, hT.out x hx, PySem.W.codeHd_of_K X (hT.hd x hx)⟩
  refine ⟨K, g_law, tfN.map (WH.ctOf K), spLaw K (tfN.map (WH.ctOf K)), X, fun p hp => (hTf p hp).1, fun p hp => (hTf p hp).2.1, fun p hp => (hTf p hp).2.2,
    fun s v => (FunD.bindsA (ps := ["script"]) D_law fun _ _ _ _ _ _ us hl => match us, hl with | [_], _ => rfl) s [v] rfl, fun H a ns hl hH hS => ⟨a, ns, rfl, hS, hl, hH, fun _ => rfl⟩, fun base _ _ TB => ?_⟩
  have T_BadCurve : WT.ErrT l.prog w K mg base "BadCurve" "part" _ _ _ := WH.errX_ok z_BadCurve m_BadCurve (okE_BadCurve F_EBadCurve) b_EBadCurve
  have T_BadNumber : WT.ErrT l.prog w K mg base "BadNumber" "part" _ _ _ := WH.errX_ok z_BadNumber m_BadNumber (okE_BadNumber F_EBadNumber) b_EBadNumber
  have T_TooMany : WT.ErrT l.prog w K mg base "TooMany" "most" _ _ _ := WH.errX_ok z_TooMany m_TooMany (okE_TooMany F_ETooMany) b_ETooMany
  have T : CurG mg := ⟨n_isinstance, n_int, n_bool, n_list, n_tuple, n_len, n_all, n_sorted, n_zip, n_min, n_range, n_type, t_MOST, t_MOST_GIVEN, i_gcd⟩
  have PG : PreG mg := ⟨n_abs, n_int, n_len⟩
  have EM := exG_ok z_EM T_TooMany
  have x_ne : He.ga K "lesser_row" ≠ He.ga K "greater_row" := of_decide_eq_true z_ne
  have x_n1 : He.ga K "lesser_row" ≠ He.ga K "added_row" := of_decide_eq_true z_j1
  have x_n2 : He.ga K "greater_row" ≠ He.ga K "added_row" := of_decide_eq_true z_j2
  have uT := t08_u (K := K) (of_decide_eq_true z_n1)
  have memJ : WH.ctOf K "_law_joins_right" ∈ tfN.map (WH.ctOf K) := List.mem_cons_self ..
  have memL : WH.ctOf K "law" ∈ tfN.map (WH.ctOf K) := List.mem_cons_of_mem _ (List.mem_cons_self ..)
  have o_num := ok_num (P := l.prog) (w := w) (base := base) F_num T
  have c_num : WC.Cal l.prog w K mg base _ _ _ _ _ := ⟨⟨_, _, o_num, F_num.kp, b_num, m_num⟩⟩
  have o_are := ok_are F_are T o_num F_num.kp b_num m_num
  have c_are : WC.Cal l.prog w K mg base _ _ _ _ _ := ⟨⟨_, _, o_are, F_are.kp, b_are, m_are⟩⟩
  have o_from := ok_from F_from o_num F_num.kp b_num m_num
  have c_from : WC.Cal l.prog w K mg base _ _ _ _ _ := ⟨⟨_, _, o_from, F_from.kp, b_from, m_from⟩⟩
  have o_isl := ok_isList (P := l.prog) (w := w) (base := base) F_isl T
  have c_isl : WC.Cal l.prog w K mg base _ _ _ _ _ := ⟨⟨_, _, o_isl, F_isl.kp, b_isl, m_isl⟩⟩
  have o_nnm := ok_needNum F_nnm T_BadNumber o_from F_from.kp b_from m_from
  have c_nnm : WC.Cal l.prog w K mg base _ _ _ _ _ := ⟨⟨_, _, o_nnm, F_nnm.kp, b_nnm, m_nnm⟩⟩
  have o_eqc := ok_eq (P := l.prog) (w := w) (base := base) F_eqc T U
  have o_abv := ok_above (P := l.prog) (w := w) (mg := mg) (base := base) F_abv
  have c_abv : WC.Cal l.prog w K mg base _ _ _ _ _ := ⟨⟨_, _, o_abv, F_abv.kp, b_abv, m_abv⟩⟩
  have o_sta := ok_start F_sta T o_isl F_isl.kp b_isl m_isl o_are F_are.kp b_are m_are
  have c_sta : WC.Cal l.prog w K mg base _ _ _ _ _ := ⟨⟨_, _, o_sta, F_sta.kp, b_sta, m_sta⟩⟩
  have o_fal := ok_falls F_fal T o_abv F_abv.kp b_abv m_abv
  have c_fal : WC.Cal l.prog w K mg base _ _ _ _ _ := ⟨⟨_, _, o_fal, F_fal.kp, b_fal, m_fal⟩⟩
  have o_stp := ok_step (P := l.prog) (w := w) (base := base) F_stp T
  have c_stp : WC.Cal l.prog w K mg base _ _ _ _ _ := ⟨⟨_, _, o_stp, F_stp.kp, b_stp, m_stp⟩⟩
  have o_ncu := ok_needCur F_ncu T U T_BadCurve
  have c_ncu : WC.Cal l.prog w K mg base _ _ _ _ _ := ⟨⟨_, _, o_ncu, F_ncu.kp, b_ncu, m_ncu⟩⟩
  have o_has := ok_has (P := l.prog) (w := w) (base := base) F_has U
  have c_has : WC.Cal l.prog w K mg base _ _ _ _ _ := ⟨⟨_, _, o_has, F_has.kp, b_has, m_has⟩⟩
  have o_fno := ok_fno (P := l.prog) (w := w) (base := base) F_fno T U
  have c_fno : WC.Cal l.prog w K mg base _ _ _ _ _ := ⟨⟨_, _, o_fno, F_fno.kp, b_fno, m_fno⟩⟩
  have o_reg := ok_regular (P := l.prog) (w := w) (base := base) F_reg T U
  have c_reg : WC.Cal l.prog w K mg base _ _ _ _ _ := ⟨⟨_, _, o_reg, F_reg.kp, b_reg, m_reg⟩⟩
  have o_cat := ok_cat F_cat T U o_has F_has.kp b_has m_has
  have c_cat : WC.Cal l.prog w K mg base _ _ _ _ _ := ⟨⟨_, _, o_cat, F_cat.kp, b_cat, m_cat⟩⟩
  have o_beh := ok_behind F_beh T t_FEW U o_reg F_reg.kp b_reg m_reg
  have c_beh : WC.Cal l.prog w K mg base _ _ _ _ _ := ⟨⟨_, _, o_beh, F_beh.kp, b_beh, m_beh⟩⟩
  have o_val := ok_value F_val o_ncu F_ncu.kp b_ncu m_ncu o_nnm F_nnm.kp b_nnm m_nnm o_cat F_cat.kp b_cat m_cat
  have c_val : WC.Cal l.prog w K mg base _ _ _ _ _ := ⟨⟨_, _, o_val, F_val.kp, b_val, m_val⟩⟩
  have o_two := ok_two F_two c_ncu
  have c_two : WC.Cal l.prog w K mg base _ _ _ _ _ := ⟨⟨_, _, o_two, F_two.kp, b_two, m_two⟩⟩
  have o_per := ok_per F_per t_MOST_MADE i_lcm U T_TooMany
  have c_per : WC.Cal l.prog w K mg base _ _ _ _ _ := ⟨⟨_, _, o_per, F_per.kp, b_per, m_per⟩⟩
  have o_gai := ok_gai (P := l.prog) (w := w) (mg := mg) (base := base) F_gai U
  have c_gai : WC.Cal l.prog w K mg base _ _ _ _ _ := ⟨⟨_, _, o_gai, F_gai.kp, b_gai, m_gai⟩⟩
  have o_gap := ok_gap (P := l.prog) (w := w) (base := base) F_gap T
  have c_gap : WC.Cal l.prog w K mg base _ _ _ _ _ := ⟨⟨_, _, o_gap, F_gap.kp, b_gap, m_gap⟩⟩
  have o_fbe := ok_fbe (P := l.prog) (w := w) (mg := mg) (base := base) F_fbe
  have c_fbe : WC.Cal l.prog w K mg base _ _ _ _ _ := ⟨⟨_, _, o_fbe, F_fbe.kp, b_fbe, m_fbe⟩⟩
  have o_slo := ok_slo (P := l.prog) (w := w) (mg := mg) (base := base) F_slo U
  have c_slo : WC.Cal l.prog w K mg base _ _ _ _ _ := ⟨⟨_, _, o_slo, F_slo.kp, b_slo, m_slo⟩⟩
  have o_lab := ok_lab F_lab T n_max c_gap
  have c_lab : WC.Cal l.prog w K mg base _ _ _ _ _ := ⟨⟨_, _, o_lab, F_lab.kp, b_lab, m_lab⟩⟩
  have o_sho := ok_sho F_sho T c_has c_fno
  have c_sho : WC.Cal l.prog w K mg base _ _ _ _ _ := ⟨⟨_, _, o_sho, F_sho.kp, b_sho, m_sho⟩⟩
  have o_les := ok_les (P := l.prog) (w := w) (base := base) F_les T
  have c_les : WC.Cal l.prog w K mg base _ _ _ _ _ := ⟨⟨_, _, o_les, F_les.kp, b_les, m_les⟩⟩
  have o_gre := ok_gre (P := l.prog) (w := w) (base := base) F_gre T
  have c_gre : WC.Cal l.prog w K mg base _ _ _ _ _ := ⟨⟨_, _, o_gre, F_gre.kp, b_gre, m_gre⟩⟩
  have o_add := ok_add (P := l.prog) (w := w) (base := base) F_add T
  have c_add : WC.Cal l.prog w K mg base _ _ _ _ _ := ⟨⟨_, _, o_add, F_add.kp, b_add, m_add⟩⟩
  have o_beg := ok_begun (P := l.prog) (w := w) (base := base) F_beg PG
  have c_beg : WC.Cal l.prog w K mg base _ _ _ _ _ := ⟨⟨_, _, o_beg, F_beg.kp, b_beg, m_beg⟩⟩
  have o_mix := ok_mixed (P := l.prog) (w := w) (base := base) F_mix PG
  have c_mix : WC.Cal l.prog w K mg base _ _ _ _ _ := ⟨⟨_, _, o_mix, F_mix.kp, b_mix, m_mix⟩⟩
  have o_tak := ok_take F_tak PG o_mix F_mix.kp b_mix m_mix
  have c_tak : WC.Cal l.prog w K mg base _ _ _ _ _ := ⟨⟨_, _, o_tak, F_tak.kp, b_tak, m_tak⟩⟩
  have o_pic := ok_pick F_pic PG o_tak F_tak.kp b_tak m_tak
  have c_pic : WC.Cal l.prog w K mg base _ _ _ _ _ := ⟨⟨_, _, o_pic, F_pic.kp, b_pic, m_pic⟩⟩
  have o_sts := ok_steps F_sts T o_pic F_pic.kp b_pic m_pic o_tak F_tak.kp b_tak m_tak
  have c_sts : WC.Cal l.prog w K mg base _ _ _ _ _ := ⟨⟨_, _, o_sts, F_sts.kp, b_sts, m_sts⟩⟩
  have o_ske := ok_sketch F_ske T o_pic F_pic.kp b_pic m_pic o_tak F_tak.kp b_tak m_tak o_sts F_sts.kp b_sts m_sts
  have c_ske : WC.Cal l.prog w K mg base _ _ _ _ _ := ⟨⟨_, _, o_ske, F_ske.kp, b_ske, m_ske⟩⟩
  have o_att := ok_at (P := l.prog) (w := w) (base := base) F_att T
  have c_att : WC.Cal l.prog w K mg base _ _ _ _ _ := ⟨⟨_, _, o_att, F_att.kp, b_att, m_att⟩⟩
  have o_row := ok_row F_row T o_att F_att.kp b_att m_att
  have c_row : WC.Cal l.prog w K mg base _ _ _ _ _ := ⟨⟨_, _, o_row, F_row.kp, b_row, m_row⟩⟩
  have o_lfo := ok_lform (P := l.prog) (w := w) (base := base) F_lfo T
  have c_lfo : WC.Cal l.prog w K mg base _ _ _ _ _ := ⟨⟨_, _, o_lfo, F_lfo.kp, b_lfo, m_lfo⟩⟩
  have o_frm := ok_form F_frm T o_stp F_stp.kp b_stp m_stp
  have c_frm : WC.Cal l.prog w K mg base _ _ _ _ _ := ⟨⟨_, _, o_frm, F_frm.kp, b_frm, m_frm⟩⟩
  have o_fst := ok_first F_fst T t_FEW U o_has F_has.kp b_has m_has o_beh F_beh.kp b_beh m_beh
  have c_fst : WC.Cal l.prog w K mg base _ _ _ _ _ := ⟨⟨_, _, o_fst, F_fst.kp, b_fst, m_fst⟩⟩
  have o_ahe := ok_ahe F_ahe T c_sho c_gap c_fst c_fbe c_cat
  have c_ahe : WC.Cal l.prog w K mg base _ _ _ _ _ := ⟨⟨_, _, o_ahe, F_ahe.kp, b_ahe, m_ahe⟩⟩
  have o_lle := ok_lleW F_lle T n_max t_MOST_MADE T_TooMany c_reg c_gai c_fst c_lab
  have c_lle : WC.Cal l.prog w K mg base _ _ _ _ _ := ⟨⟨_, _, o_lle, F_lle.kp, b_lle, m_lle⟩⟩
  have o_set := ok_setW F_set T n_max c_slo c_lle c_per c_reg
  have c_set : WC.Cal l.prog w K mg base _ _ _ _ _ := ⟨⟨_, _, o_set, F_set.kp, b_set, m_set⟩⟩
  have o_ini := ok_init F_ini T U T_BadCurve o_sta F_sta.kp b_sta m_sta o_from F_from.kp b_from m_from o_fal F_fal.kp b_fal m_fal o_frm F_frm.kp b_frm m_frm
  have o_made := ok_madeC F_made T t_MOST_MADE U T_TooMany o_ini b_ini c_frm
  have c_made : WC.Cal l.prog w K mg base _ _ _ _ _ := ⟨⟨_, _, o_made, F_made.kp, b_made, m_made⟩⟩
  have o_flat := ok_flat F_flat T c_nnm c_made
  have c_flat : WC.Cal l.prog w K mg base _ _ _ _ _ := ⟨⟨_, _, o_flat, F_flat.kp, b_flat, m_flat⟩⟩
  have o_line := ok_line F_line T c_nnm c_made
  have c_line : WC.Cal l.prog w K mg base _ _ _ _ _ := ⟨⟨_, _, o_line, F_line.kp, b_line, m_line⟩⟩
  have o_fab := ok_fab F_fab T n_max c_two c_per c_has c_reg c_gai c_gap c_fst c_fbe c_ahe
  have c_fab : WC.Cal l.prog w K mg base _ _ _ _ _ := ⟨⟨_, _, o_fab, F_fab.kp, b_fab, m_fab⟩⟩
  have o_isb := ok_isb F_isb c_fab
  have c_isb : WC.Cal l.prog w K mg base _ _ _ _ _ := ⟨⟨_, _, o_isb, F_isb.kp, b_isb, m_isb⟩⟩
  have o_jby := ok_jbyW (S := jS K) F_jby (jS_ok o_les F_les.kp b_les o_gre F_gre.kp b_gre o_add F_add.kp b_add) c_fst c_made
  have c_jby : WC.Cal l.prog w K mg base _ _ _ _ _ := ⟨⟨_, _, o_jby, F_jby.kp, b_jby, m_jby⟩⟩
  have o_jen := ok_jenW (S := jS K) F_jen (jS_ok o_les F_les.kp b_les o_gre F_gre.kp b_gre o_add F_add.kp b_add) c_sho c_fst c_made
  have c_jen : WC.Cal l.prog w K mg base _ _ _ _ _ := ⟨⟨_, _, o_jen, F_jen.kp, b_jen, m_jen⟩⟩
  have o_sum := ok_sumX F_sum U n_max m_add (jS_add x_n1 x_n2) c_two c_has c_per c_reg c_jen c_jby
  have c_sum : WC.Cal l.prog w K mg base _ _ _ _ _ := ⟨⟨_, _, o_sum, F_sum.kp, b_sum, m_sum⟩⟩
  have o_ltr := ok_latX F_ltr T U t_MOST_MADE c_ncu c_nnm c_made
  have c_ltr : WC.Cal l.prog w K mg base _ _ _ _ _ := ⟨⟨_, _, o_ltr, F_ltr.kp, b_ltr, m_ltr⟩⟩
  have o_mad := ok_made F_mad U o_ini b_ini
  have c_mad : WC.Cal l.prog w K mg base _ _ _ _ _ := ⟨⟨_, _, o_mad, F_mad.kp, b_mad, m_mad⟩⟩
  have o_jnu := ok_jnuW F_jnu T U n_max c_per c_gai c_reg c_jby c_set
  have c_jnu : WC.Cal l.prog w K mg base _ _ _ _ _ := ⟨⟨_, _, o_jnu, F_jnu.kp, b_jnu, m_jnu⟩⟩
  have o_lof := ok_lofW F_lof T U n_max m_les jS_les c_two c_has c_sho c_cat c_fst c_made c_les c_jnu
  have c_lof : WC.Cal l.prog w K mg base _ _ _ _ _ := ⟨⟨_, _, o_lof, F_lof.kp, b_lof, m_lof⟩⟩
  have o_mof := ok_mofW F_mof m_gre (jS_gre x_ne) c_two c_has c_jen c_jnu
  have c_mof : WC.Cal l.prog w K mg base _ _ _ _ _ := ⟨⟨_, _, o_mof, F_mof.kp, b_mof, m_mof⟩⟩
  have oT_jnu := ok_jnuT F_jnu T U n_max c_per c_gai c_reg c_jby c_set
  have cT_jnu : WC.Cal l.prog w K mg base _ _ _ _ _ := ⟨⟨_, _, oT_jnu, F_jnu.kp, b_jnu, m_jnu⟩⟩
  have oT_lof := ok_lofT F_lof T U n_max m_les jS_les c_two c_has c_sho c_cat c_fst c_made c_les cT_jnu
  have oT_mof := ok_mofT F_mof m_gre (jS_gre x_ne) c_two c_has c_jen cT_jnu
  have oT_fab := ok_fabT F_fab T n_max c_two c_per c_has c_reg c_gai c_gap c_fst c_fbe c_ahe
  have cT_fab : WC.Cal l.prog w K mg base _ _ _ _ _ := ⟨⟨_, _, oT_fab, F_fab.kp, b_fab, m_fab⟩⟩
  have oT_isb := ok_isbT (CB := He.ga K "BadCurve") F_isb cT_fab
  have AH := s08_ok o_lof oT_lof F_lof.kp b_lof o_mof oT_mof F_mof.kp b_mof o_sum F_sum.kp b_sum o_fab oT_fab F_fab.kp b_fab o_isb oT_isb F_isb.kp b_isb
  have o_jr := ok_jr (S := s08 K) (TT := t08 K) F_jr (code_of F_jr) (TB _ memJ) (List.mem_cons_self ..) uT.1 T n_repr n_min n_max U EM m_WaitError m_TooMany AH m_lof m_mof m_sum (.inl ⟨rfl, .inl rfl⟩) (.inr (.inl ⟨rfl, .inl rfl⟩)) (.inr (.inr (.inl ⟨rfl, rfl⟩))) c_lfo F_cau b_cau m_cau
  have c_jr : WC.CalG l.prog w K mg base _ _ _ _ _ := ⟨⟨_, _, o_jr, F_jr.kp, b_jr, m_jr⟩⟩
  exact ok_law (S := s08 K) (TT := t08 K) F_law (code_of F_law) (TB _ memL) (List.mem_cons_of_mem _ (List.mem_cons_self ..)) uT.2 (fun {H} q => t08_h (q _ memJ) (q _ memL)) T n_repr U EM m_WaitError m_TooMany AH m_lof m_mof m_sum m_fab m_isb (.inl ⟨rfl, .inl rfl⟩) (.inr (.inl ⟨rfl, .inl rfl⟩)) (.inr (.inr (.inl ⟨rfl, rfl⟩))) (.inr (.inr (.inr (.inl ⟨rfl, .inl rfl⟩)))) (.inr (.inr (.inr (.inr ⟨rfl, .inl rfl⟩)))) (.inl ⟨rfl, .inr rfl⟩) (.inr (.inl ⟨rfl, .inr rfl⟩)) (.inr (.inr (.inr (.inl ⟨rfl, .inr rfl⟩)))) (.inr (.inr (.inr (.inr ⟨rfl, .inr rfl⟩)))) c_beg c_tak c_ske c_mad c_row c_lfo c_jr c_flat c_line (Cal_wr c_lof) (Cal_wr c_sum) (Cal_wr c_ltr) c_val F_cau b_cau m_cau
end WK
end

section
set_option Elab.async false
open PySem PySem.W PySem.Calls PyProof.Rows
set_option maxRecDepth 100000 in
set_option maxHeartbeats 0 in
theorem PySem.Challenge.cw_worstwait_k08_made_curves_at_their_bound_holds : PySem.Challenge.rw_worstwait_k08_made_curves_at_their_bound.Holds := by
  w_on; o_law
  refine HandSHeadRun.head_imp (r := WK.R) (q := view WK.R.prog [0, 71]) (H := WK.hk) (ob := WK.ob) (M := 10000) (loose := WK.lsN) (d := HandSHeadRun.topDef WK.R.prog 71) (kwd := []) WK.ob_eq
    WK.run (by kernel_rfl) (by kernel_rfl) (by kernel_rfl) (by rfl) (by first | assumption | decide +kernel) (by decide +kernel) ⟨rfl, rfl, rfl, rfl, rfl, by decide +kernel⟩ ?hw ?hc
  case hw => w_witness2
  case hc =>
    refine WH.walkT (l := PySem.Challenge.rw_worstwait_k08_made_curves_at_their_bound) (n := 63) (k := 14) (x := "script") rfl (by decide) (by kernel_rfl) ⟨rfl, by decide, by decide⟩ ?F
    intro w mg fa h Y G hmg0
    obtain ⟨K, KX, c, hB, hT⟩ := Y
    have hmg : mg ("law" : PySem.Str) = some (.ref fa) := by
      have e : (HandSHeadRun.topDef WK.R.prog 71).name = ("law" : PySem.Str) := by kernel_rfl
      rw [← e]
      exact hmg0
    exact WK.facts (l := PySem.Challenge.rw_worstwait_k08_made_curves_at_their_bound) (w := w) KX G hmg c hB hT
end
