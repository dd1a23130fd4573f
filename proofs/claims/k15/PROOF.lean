import PyProof.Rows.All
import Wide.All
import OpenK.AllK
import Wide.FinOn
import HandS.ForMost
import HandS.Wide
import HandS.Codes
import PySem.Challenge.RW_worstwait_k15_whole_there_and_back
import HandS.OwnEq
import HandS.IsInst
import HandS.SlotsOwn
import PyProof.ReprRoads
import HandS.TupAny
import HandS.Walk
import HandS.Zip
import HandS.ExcOwn
import HandS.WordsExc
import HandS.Lambda
import HandS.ExcField
import HandS.ExcInit
import KE.KExcIs
import KE.GoesEnum
import HandS.SetFor
import HandS.More
import HandS.Flow
import HandS.SortInts
import HandS.Gcd
import HandS.Iter
import HandS.Conv
import HandS.Style
import PyProof.FitsInt
import HandS.EndTab
import KE.KStateDown
import HandS.Defaults
import HandS.Head0
import HandS.Head1
import HandS.Head2
import HandS.HeadEnd
import HandS.HeadHook1
import HandS.HeadHook2
import HandS.HeadHook4
import HandS.RaiseMore
import KE.KMathGC
import HandS.Dict
import HandS.CallLocal
import KE.GoesMore
import KE.GoesZip
import HandS.TupLe
import HandS.MakeKwOnly
import HandS.Head3
section
set_option Elab.async false
set_option linter.all false
set_option maxRecDepth 100000
set_option maxHeartbeats 4000000
namespace WW
open PySem L2
def top (i : Nat) : Stmt := PySem.Challenge.pw_worstwait_k15_whole_there_and_back.main.body.getD i (.Pass ⟨0, 0, 0, 0⟩)
abbrev sBegun : Stmt := top 59
abbrev sMixed : Stmt := top 60
abbrev sTake : Stmt := top 61
abbrev sPick : Stmt := top 62
/-! ### the draw: a dict of four, with two lists of ints -/
abbrev drawKvs (l c : Addr) (r t : Int) : List (Key × V) := [(Sum.inr "large", .ref l), (Sum.inr "rest", .int r), (Sum.inr "cells", .ref c), (Sum.inr "turn", .int t)]
structure DrawAt (H : Hp) (d l c : Addr) : Prop where
  ob : ∃ r t, H d = some (.dK (drawKvs l c r t))
  la : ∃ large : List Int, H l = some (.lst (large.map V.int)) ∧ large.length ≤ 63
  ce : ∃ cells : List Int, H c = some (.lst (cells.map V.int)) ∧ cells.length ≤ 63
  lc : l ≠ c
/-- all but the draw's dict and its first list stands -/
def KeepD (H H' : Hp) (d l : Addr) : Prop := ∀ b o, H b = some o → b ≠ d → b ≠ l → H' b = some o
theorem KeepD.refl (H : Hp) (d l : Addr) : KeepD H H d l := fun _ _ h _ _ => h
theorem KeepD.trans {H H1 H2 : Hp} {d l : Addr} (a : KeepD H H1 d l) (b : KeepD H1 H2 d l) : KeepD H H2 d l := fun c o h h1 h2 => b c o (a c o h h1 h2) h1 h2
theorem Same.keepD {H H1 : Hp} (d l : Addr) (a : Same H H1) : KeepD H H1 d l := fun c o h _ _ => a c o h
theorem DrawAt.dl {H : Hp} {d l c : Addr} (D : DrawAt H d l c) : d ≠ l := by
  obtain ⟨⟨r, t, h⟩, ⟨la, h2, _⟩, _, _⟩ := D
  exact ne_of h h2 (by intro z; cases z)
theorem DrawAt.dc {H : Hp} {d l c : Addr} (D : DrawAt H d l c) : d ≠ c := by
  obtain ⟨⟨r, t, h⟩, _, ⟨la, h2, _⟩, _⟩ := D
  exact ne_of h h2 (by intro z; cases z)
theorem DrawAt.same {H H' : Hp} {d l c : Addr} (D : DrawAt H d l c) (s : Same H H') : DrawAt H' d l c := by
  obtain ⟨⟨r, t, h⟩, ⟨la, h2, h3⟩, ⟨ce, h4, h5⟩, h6⟩ := D
  exact ⟨⟨r, t, s _ _ h⟩, ⟨la, s _ _ h2, h3⟩, ⟨ce, s _ _ h4, h5⟩, h6⟩
theorem DrawAt.keepF {H H' : Hp} {d l c a : Addr} (D : DrawAt H d l c) (k : KeepD H H' d l) (D' : DrawAt H' d l c) (h : H' a = none) : H a = none := by
  cases q : H a with
  | none => rfl
  | some o =>
    by_cases e1 : a = d
    · subst e1
      obtain ⟨⟨r, t, z⟩, _⟩ := D'
      rw [z] at h
      cases h
    · by_cases e2 : a = l
      · subst e2
        obtain ⟨_, ⟨la, z, _⟩, _⟩ := D'
        rw [z] at h
        cases h
      · rw [k a o q e1 e2] at h
        cases h
/-- the names of the prelude -/
structure PreG (mg : Str → Option Value) : Prop where
  abs : mg "abs" = none
  int : mg "int" = none
  len : mg "len" = none
def spBegun (K : PySem.W.Frag) : Sp := fun vs H Q _ => ∃ (a : Addr) (ns : List Int), vs = [.ref a] ∧ SqL K H a (ns.map V.int) ∧ ns.length ≤ 63 ∧
  ∀ (d l c : Addr) (H' : Hp), H d = none → H l = none → H c = none → DrawAt H' d l c → Same H H' → Q (.ref d) H'
local macro_rules | `(tactic| walk_at "rd") => `(tactic| simp only [tTest, tOp, tUn, tCB, tCons, tNil, tVar, tC, rI, rI0, rU, CPow, CMul, CDivN, tIf, tIfS, tNext, tCall, List.append_nil, rEq, tPar, tDGet, tSeq, sDPut, tLst, tYes, false_or, or_false, reduceCtorEq, and_false, false_and, exists_false, if_true, Bool.false_eq_true, if_false, ite_self, tAsg, gName, tDisp, tPairs, tRet, L2.start, wipe, List.map_cons, List.map_nil, List.length_cons, List.length_nil, List.replicate, List.cons_append, List.nil_append, List.set_cons_zero, List.set_cons_succ,
  List.getElem?_cons_zero, List.getElem?_cons_succ, V.int.injEq, V.bl.injEq, V.str.injEq, V.ref.injEq, Option.some.injEq, exists_eq_left', exists_eq_left, exists_and_left, exists_const, decide_eq_true_eq, true_and, and_true, exists_eq', exists_eq, Nat.reduceSub, Nat.reduceAdd, Int.reduceToNat, Int.reducePow, Int.reduceLE, Int.reduceNeg, Nat.reduceLT, Nat.reducePow, Int.natAbs_cast, Int.reduceLT, Nat.reduceLeDiff, List.cons.injEq])
section
variable {P : Program} {w : World} {K : PySem.W.Frag} {mg : Str → Option Value} {base : Heap}
theorem scBegun : FnScope ["script", "large", "grain"] ["script"] (defScope sBegun) := ⟨rfl, rfl, rfl, by decide +kernel, rfl, by decide +kernel, by decide +kernel⟩
theorem get_map_int {ns : List Int} {i : Nat} {x : V} (h : (ns.map V.int)[i]? = some x) : ∃ z, x = V.int z := by
  rw [List.getElem?_map] at h
  cases e : ns[i]? with
  | none => rw [e] at h; cases h
  | some z => rw [e] at h; exact ⟨z, (Option.some.inj h).symm⟩
theorem snocI (xs : List Int) (z : Int) : ∃ ys : List Int, xs.map V.int ++ [V.int z] = ys.map V.int ∧ ys.length = xs.length + 1 := ⟨xs ++ [z], by rw [List.map_append]; rfl, by rw [List.length_append]; rfl⟩
theorem ok_begun {f : Addr} {fd : FuncData} (F : Fun K "_law_begun" "_law_begun" sBegun f fd) (T : PreG mg) : FnOk P w K mg base CX0 1 f fd ["script"] (spBegun K) := by
  refine F.ok scBegun (fun vs H Q E h => ?_) (fun cdv A outer s H vs Q E hr h => ?_)
  · obtain ⟨a, ns, rfl, _⟩ := h
    rfl
  · obtain ⟨a, ns, rfl, hS, hn, k⟩ := h
    have hu := hu_of hr
    refine ⟨_, pss_cons (ps_setLc (i := 1) (own := [("grain", 2)]) (g := gName 2) rfl scBegun.nd rfl rfl (sw_true rfl rfl rfl (by decide +kernel)) (pi_list (pv 0)) (blkOk_by (N := ["script", "large", "grain"]) (sc := defScope sBegun) (by decide +kernel))
        (fun _ _ _ _ _ => pg_name (i := 2) scBegun.nd rfl (Or.inl rfl))
        (fun _ _ _ _ _ => pts_one (pt_cmpR op_ge (pe_callB call_abs (by rfl) T.abs (by decide +kernel) (pa_cons (pv 2) pa_nil)) (pe_op op_pow pe_int pe_int) (nomark _)))
        (fun _ _ _ _ _ => pe_op op_sub (pe_callB call_abs (by rfl) T.abs (by decide +kernel) (pa_cons (pv 2) pa_nil)) (pe_op op_pow pe_int pe_int)))
      (pss_one (ps_ret (pe_disp (pps_cons pe_str (pv 1) (pps_cons pe_str pe_int (pps_cons pe_str
        (pe_lc (own := [("grain", 2)]) (g := gName 2) (tt := tYes) rfl scBegun.nd (pi_list (pv 0)) (blkOk_by (N := ["script", "large", "grain"]) (sc := defScope sBegun) (by decide +kernel)) (fun _ _ _ _ _ => pg_name (i := 2) scBegun.nd rfl (Or.inl rfl)) (fun _ _ _ _ _ => pts_nil)
          (fun _ _ _ _ _ => pe_callB call_abs (by rfl) T.abs (by decide +kernel) (pa_cons (pv 2) pa_nil)))
        (pps_cons pe_str pe_int pps_nil)))) (by rfl) (by rfl) (fun z => by cases z) (by decide)))), ?_⟩
    refine ⟨_, rfl, a, rfl, ⟨_, hS⟩, fun D hD => lc_list (K := K) (a := a) (xs := ns.map V.int) (fun i H2 => ∃ xs : List Int, H2 D = some (.lst (xs.map V.int)) ∧ xs.length ≤ i ∧ Same H H2) ⟨[], upd_same, Nat.le_refl _, fun b o e => by rw [upd_ne (ne_of_none e hD)]; exact e⟩ (fun i H2 _ ⟨_, _, _, s2⟩ => s2.seq hS) ?_ ?_⟩
    · rintro i x H2 hx ⟨xs, hxs, hxl, s2⟩
      obtain ⟨z, rfl⟩ := get_map_int hx
      have hi : i < ns.length := by
        have q := (List.getElem?_eq_some_iff.mp hx).1
        rwa [List.length_map] at q
      refine ⟨rfl, ?_⟩
      walk_at "rd"
      refine ⟨by decide, ite2 (fun _ => ⟨by decide, ?_⟩) (fun _ => ?_)⟩
      · obtain ⟨ys, e1, e2⟩ := snocI xs ((if z < 0 then -z else z) - 1000000000000000000)
        exact ⟨xs.map V.int, hxs, (by rw [List.length_map]; exact small1000 (by omega)), ys, by rw [e1]; exact upd_same, by omega, fun b o e => by rw [upd_ne (ne_of_none e hD)]; exact s2 b o e⟩
      · exact ⟨xs, hxs, by omega, s2⟩
    · rintro H2 ⟨large, hl, hll, s2⟩
      walk_at "rd"
      intro p hp
      have hDp : D ≠ p := fun e => by rw [e, hp] at hl; cases hl
      have s3 : Same H (upd H2 p (.dK [])) := fun b o e => by rw [upd_ne (ne_of_none (s2 _ _ e) hp)]; exact s2 _ _ e
      refine ⟨_, rfl, a, rfl, ⟨_, s3.seq hS⟩, fun c hc => lc_list (K := K) (a := a) (xs := ns.map V.int) (fun i H3 => ∃ xs : List Int, H3 c = some (.lst (xs.map V.int)) ∧ xs.length ≤ i ∧ Same (upd H2 p (.dK [])) H3) ⟨[], upd_same, Nat.le_refl _, fun b o e => by rw [upd_ne (ne_of_none e hc)]; exact e⟩ (fun i H3 _ ⟨_, _, _, s4⟩ => (Same.trans s3 s4).seq hS) ?_ ?_⟩
      · rintro i x H3 hx ⟨xs, hxs, hxl, s4⟩
        obtain ⟨z, rfl⟩ := get_map_int hx
        have hi : i < ns.length := by
          have q := (List.getElem?_eq_some_iff.mp hx).1
          rwa [List.length_map] at q
        refine ⟨rfl, ?_⟩
        walk_at "rd"
        obtain ⟨ys, e1, e2⟩ := snocI xs (if z < 0 then -z else z)
        exact ⟨xs.map V.int, hxs, (by rw [List.length_map]; exact small1000 (by omega)), ys, by rw [e1]; exact upd_same, by omega, fun b o e => by rw [upd_ne (ne_of_none e hc)]; exact s4 b o e⟩
      · rintro H3 ⟨cells, hcl, hcll, s4⟩
        rw [List.length_map] at hll hcll
        refine ⟨s4 _ _ upd_same, drawKvs D c 0 0, rfl, (by show 4 ≤ 15; decide), ?_⟩
        have hpc : p ≠ c := ne_of_none (upd_same (H := H2) (a := p) (o := .dK [])) hc
        have hcD : D ≠ c := fun e => by rw [← e, upd_ne hDp, hl] at hc; cases hc
        have hD3 : H3 D = some (.lst (large.map V.int)) := s4 _ _ (by rw [upd_ne hDp]; exact hl)
        refine k p D c _ (s2.free hp) hD (s3.free hc) ⟨⟨0, 0, ?_⟩, ⟨large, ?_, by omega⟩, ⟨cells, ?_, by omega⟩, hcD⟩ ?_
        · exact upd_same
        · rw [upd_ne hDp]; exact hD3
        · rw [upd_ne hpc.symm]; exact hcl
        · exact fun b o e => by rw [upd_ne (ne_of_none (s2 _ _ e) hp)]; exact s4 _ _ (s3 _ _ e)
section
variable {H : Hp} {d l c : Addr} {r t x : Int}
theorem dg_large (h : H d = some (.dK (drawKvs l c r t))) : DGet H d (.str "large") (some (.ref l)) := by
  have e : valV (drawKvs l c r t) (Sum.inr "large" : Key) = some (.ref l) := by rfl
  rw [← e]
  exact DGet.k (k := Sum.inr "large") h
theorem dg_rest (h : H d = some (.dK (drawKvs l c r t))) : DGet H d (.str "rest") (some (.int r)) := by
  have e : valV (drawKvs l c r t) (Sum.inr "rest" : Key) = some (.int r) := by rfl
  rw [← e]
  exact DGet.k (k := Sum.inr "rest") h
theorem dg_cells (h : H d = some (.dK (drawKvs l c r t))) : DGet H d (.str "cells") (some (.ref c)) := by
  have e : valV (drawKvs l c r t) (Sum.inr "cells" : Key) = some (.ref c) := by rfl
  rw [← e]
  exact DGet.k (k := Sum.inr "cells") h
theorem dg_turn (h : H d = some (.dK (drawKvs l c r t))) : DGet H d (.str "turn") (some (.int t)) := by
  have e : valV (drawKvs l c r t) (Sum.inr "turn" : Key) = some (.int t) := by rfl
  rw [← e]
  exact DGet.k (k := Sum.inr "turn") h
theorem dp_turn (h : H d = some (.dK (drawKvs l c r t))) : DPut H d (.str "turn") (.int x) (upd H d (.dK (drawKvs l c r x))) :=
  DPut.k (k := Sum.inr "turn") h (by show 4 < sizeLine; decide)
theorem dp_rest (h : H d = some (.dK (drawKvs l c r t))) : DPut H d (.str "rest") (.int x) (upd H d (.dK (drawKvs l c x t))) :=
  DPut.k (k := Sum.inr "rest") h (by show 4 < sizeLine; decide)
end
def spMixed (K : PySem.W.Frag) : Sp := fun vs H Q _ => ∃ (d l c : Addr), vs = [.ref d] ∧ DrawAt H d l c ∧ ∀ (z : Int) (H' : Hp), DrawAt H' d l c → (∀ b o, H b = some o → b ≠ d → H' b = some o) → Q (.int z) H'
theorem scMixed : FnScope ["draw", "turn", "found", "great", "blend", "grain"] ["draw"] (defScope sMixed) := ⟨rfl, rfl, rfl, by decide +kernel, rfl, by decide +kernel, by decide +kernel⟩
theorem ok_mixed {f : Addr} {fd : FuncData} (F : Fun K "_law_mixed" "_law_mixed" sMixed f fd) (T : PreG mg) : FnOk P w K mg base CX0 1 f fd ["draw"] (spMixed K) := by
  refine F.ok scMixed (fun vs H Q E h => ?_) (fun cdv A outer s H vs Q E hr h => ?_)
  · obtain ⟨d, l, c, rfl, _⟩ := h
    rfl
  · obtain ⟨d, l, c, rfl, D, k⟩ := h
    have hu := hu_of hr
    refine ⟨_, pss_cons (ps_dput hu (pv 0) pe_str (pe_op op_add (pe_dget hu (pv 0) pe_str (fun _ _ => rfl)) pe_int) rfl)
      (pss_cons (ps_par (i := 1) (j := 2) (by rfl) scMixed.nd rfl rfl (by decide) rfl rfl (pa_cons (pe_callTy call_int1 (by rfl) T.int (by decide +kernel) (pa_cons (pe_dget hu (pv 0) pe_str (fun _ _ => rfl)) pa_nil)) (pa_cons pe_int pa_nil)) (by rfl))
      (pss_cons (ps_for PassesOwn.never rfl (pi_list (pe_lst (pa_cons pe_int (pa_cons pe_int (pa_cons pe_int pa_nil))))) (pg_name (i := 3) scMixed.nd rfl (Or.inl rfl))
        (pss_cons (ps_set (i := 4) scMixed.nd rfl (Or.inl rfl) (pe_op op_modN (pe_op op_add (pe_op op_mul (pv 1) pe_int) (pe_op op_fdivN (pv 3) pe_int)) (pv 3)))
        (pss_cons (ps_for PassesOwn.never rfl (pi_list (pe_dget hu (pv 0) pe_str (fun _ _ => rfl))) (pg_name (i := 5) scMixed.nd rfl (Or.inl rfl))
          (pss_one (ps_set (i := 4) scMixed.nd rfl (Or.inl rfl) (pe_op op_modN (pe_op op_add (pe_op op_mul (pv 4) pe_int) (pe_callTy call_int1 (by rfl) T.int (by decide +kernel) (pa_cons (pv 5) pa_nil))) (pv 3)))))
        (pss_one (ps_set (i := 2) scMixed.nd rfl (Or.inl rfl) (pe_op op_add (pe_op op_mul (pv 2) pe_int) (pe_op op_modN (pe_op op_pow (pv 4) pe_int) (pv 3))))))))
      (pss_one (ps_ret (pv 2))))), ?_⟩
    obtain ⟨⟨r, t, hd⟩, ⟨la, hl, hll⟩, ⟨ce, hc, hcl⟩, hlc⟩ := id D
    walk_at "rd"
    have hd1 : ∀ x, upd H d (.dK (drawKvs l c r x)) d = some (.dK (drawKvs l c r x)) := fun x => upd_same
    refine ⟨_, dg_turn hd, _, rfl, _, dp_turn hd, _, dg_turn (hd1 _), .inl ⟨_, rfl, _, _, ⟨rfl, rfl⟩, ?_⟩⟩
    refine ⟨(by show 3 ≤ sizeLine; decide), fun p hp => ⟨p, rfl, ⟨_, SqL.of upd_same⟩, ?_⟩⟩
    have hpd : p ≠ d := fun e => by rw [e, hd1] at hp; cases hp
    refine for_list (K := K) (a := p) (xs := [V.int 2147483629, V.int 2147483587, V.int 2147483579]) (fun i σ H2 => ∃ (z tt : Int) (v3 v4 v5 : Option V), σ = [some (.ref d), some (.int tt), some (.int z), v3, v4, v5] ∧ Same (upd (upd H d (.dK (drawKvs l c r (t + 1)))) p (.lst [V.int 2147483629, V.int 2147483587, V.int 2147483579])) H2) ⟨_, _, _, _, _, rfl, Same.refl _⟩ (fun i σ H2 _ ⟨_, _, _, _, _, _, s2⟩ => SqL.of (s2 _ _ upd_same)) ?_ ?_
    · rintro i x σ H2 hx ⟨z, tt, v3, v4, v5, rfl, s2⟩
      obtain ⟨g, rfl, g0, g1⟩ : ∃ g : Int, x = V.int g ∧ 0 < g ∧ g < 2147483648 := by
        match i, hx with
        | 0, hx => exact ⟨_, (Option.some.inj hx).symm, by decide, by decide⟩
        | 1, hx => exact ⟨_, (Option.some.inj hx).symm, by decide, by decide⟩
        | 2, hx => exact ⟨_, (Option.some.inj hx).symm, by decide, by decide⟩
      have gn : g ≠ 0 := by omega
      have fm : ∀ y : Int, 0 ≤ y.fmod g ∧ y.fmod g < g := fun y => by
        rw [Int.fmod_eq_emod_of_nonneg _ (by omega)]
        exact ⟨Int.emod_nonneg _ gn, Int.emod_lt_of_pos _ g0⟩
      walk_at "rd"
      refine ⟨.inr trivial, ⟨by decide, by decide⟩, gn, ?_⟩
      have hd2 : H2 d = some (.dK (drawKvs l c r (t + 1))) := s2 _ _ (by rw [upd_ne hpd.symm]; exact hd1 _)
      have hc2 : H2 c = some (.lst (ce.map V.int)) := s2 _ _ (by rw [upd_ne (ne_of_none (by rw [upd_ne D.dc.symm]; exact hc) hp), upd_ne D.dc.symm]; exact hc)
      refine ⟨_, rfl, d, _, rfl, dg_cells hd2, c, rfl, ⟨_, SqL.of hc2⟩, for_list (K := K) (a := c) (xs := ce.map V.int) (fun i σ H3 => ∃ (b : Int) (v5 : Option V), σ = [some (.ref d), some (.int tt), some (.int z), some (.int g), some (.int b), v5] ∧ 0 ≤ b ∧ b < g ∧ H3 = H2) ⟨_, _, rfl, (fm _).1, (fm _).2, rfl⟩ (fun i σ H3 _ ⟨_, _, _, _, _, e⟩ => by rw [e]; exact SqL.of hc2) ?_ ?_⟩
      · rintro i x σ H3 hx ⟨b, v5, rfl, b0, b1, rfl⟩
        obtain ⟨y, rfl⟩ := get_map_int hx
        walk_at "rd"
        exact ⟨.inr trivial, gn, _, _, ⟨rfl, rfl⟩, (fm _).1, (fm _).2⟩
      · rintro σ H3 ⟨b, v5, rfl, b0, b1, rfl⟩
        walk_at "rd"
        exact ⟨.inr trivial, by show b.natAbs < 18446744073709551616; omega, gn, _, _, _, _, _, ⟨rfl, rfl, rfl, rfl, rfl⟩, s2⟩
    · rintro σ H2 ⟨z, tt, v3, v4, v5, rfl, s2⟩
      walk_at "rd"
      have hd2 : H2 d = some (.dK (drawKvs l c r (t + 1))) := s2 _ _ (by rw [upd_ne hpd.symm]; exact hd1 _)
      have up : ∀ b o, H b = some o → b ≠ d → H2 b = some o := fun b o e hb => s2 _ _ (by
        have q : upd H d (.dK (drawKvs l c r (t + 1))) b = some o := by rw [upd_ne hb]; exact e
        rw [upd_ne (ne_of_none q hp)]; exact q)
      exact k z H2 ⟨⟨r, t + 1, hd2⟩, ⟨la, up _ _ hl D.dl.symm, hll⟩, ⟨ce, up _ _ hc D.dc.symm, hcl⟩, hlc⟩ up
/-! ### data of ints -/
theorem dpAll_int {H : Hp} : ∀ ns : List Int, DpAll K H (ns.map V.int) (ns.map PyData.int)
  | [] => .nil
  | _ :: r => .cons (.int _) (dpAll_int r)
theorem can_ints : ∀ ns : List Int, PyData.canLayAll0 (ns.map PyData.int) = true
  | [] => by simp [PyData.canLayAll0]
  | _ :: r => by simp [PyData.canLayAll0, PyData.canLay0, can_ints r]
theorem depth_ints : ∀ ns : List Int, PyData.depthAll (ns.map PyData.int) = 0
  | [] => by simp [PyData.depthAll]
  | _ :: r => by simp [PyData.depthAll, PyData.depth, depth_ints r]
theorem shaped_ints (ns : List Int) : SeqAt.shaped (.list (ns.map PyData.int)) = true := by
  simp [SeqAt.shaped, PyData.canLay0, PyData.depth, can_ints, depth_ints]
theorem shaped_tints (ns : List Int) : SeqAt.shaped (.tuple (ns.map PyData.int)) = true := by
  simp [SeqAt.shaped, PyData.canLay0, PyData.depth, can_ints, depth_ints]
theorem eqvAll_ints : ∀ ns ms : List Int, PyData.eqvAll (ns.map PyData.int) (ms.map PyData.int) = decide (ns = ms)
  | [], [] => by simp [PyData.eqvAll]
  | [], _ :: _ => by simp [PyData.eqvAll]
  | _ :: _, [] => by simp [PyData.eqvAll]
  | a :: r, b :: q => by
    simp only [List.map_cons, PyData.eqvAll, PyData.eqv, eqvAll_ints r q, List.cons.injEq, Bool.decide_and]
    rfl
theorem eqv_ints (ns ms : List Int) : PyData.eqv (.list (ns.map PyData.int)) (.list (ms.map PyData.int)) = decide (ns = ms) := by
  rw [← eqvAll_ints]; simp [PyData.eqv]
def spTake (K : PySem.W.Frag) : Sp := fun vs H Q _ => ∃ (d l c : Addr) (m : Int), vs = [.ref d, .int m] ∧ DrawAt H d l c ∧ 0 < m ∧ m < 2 ^ 200 ∧
  ∀ (r : Int) (H' : Hp), 0 ≤ r → r < m → DrawAt H' d l c → KeepD H H' d l → Q (.int r) H'
theorem scTake : FnScope ["draw", "amount", "found"] ["draw", "amount"] (defScope sTake) := ⟨rfl, rfl, rfl, by decide +kernel, rfl, by decide +kernel, by decide +kernel⟩
theorem ok_take {f fM : Addr} {fd fdM : FuncData} (F : Fun K "_law_take" "_law_take" sTake f fd) (T : PreG mg) (GM : FnOk P w K mg base CX0 1 fM fdM ["draw"] (spMixed K)) (kM : PySem.W.keepIn K (.ref fM) = true) (bM : Binds K fdM ["draw"] []) (mM : mg "_law_mixed" = some (.ref fM)) : FnOk P w K mg base CX0 2 f fd ["draw", "amount"] (spTake K) := by
  refine F.ok scTake (fun vs H Q E h => ?_) (fun cdv A outer s H vs Q E hr h => ?_)
  · obtain ⟨d, l, c, m, rfl, _⟩ := h
    rfl
  · obtain ⟨d, l, c, m, rfl, D, m0, m1, k⟩ := h
    have hu := hu_of hr
    refine ⟨_, C8.pss_cut (ps_if (pt_cmpR op_eq (pe_dget hu (pv 0) pe_str (fun _ _ => rfl)) pe_int (nomark _))
        (pss_one (ps_dput hu (pv 0) pe_str (pe_ifExp (pt_cmpR (op_neD hr.units) (pe_dget hu (pv 0) pe_str (fun _ _ => rfl)) (pe_lst pa_nil) (nomark _))
          (pe_bm PySem.F.plainAttrs_list PySem.F.slot_list_pop PySem.F.type_list_pop mt_popAt (pe_dget hu (pv 0) pe_str (fun _ _ => rfl)) (pa_cons pe_int pa_nil))
          (pe_call GM hr rfl mM kM bM .nil pass0 (pa_cons (pv 0) pa_nil))) rfl)) pss_nil)
      (pss_cons (ps_set (i := 2) scTake.nd rfl (Or.inl rfl) (pe_op op_modN (pe_callTy call_int1 (by rfl) T.int (by decide +kernel) (pa_cons (pe_dget hu (pv 0) pe_str (fun _ _ => rfl)) pa_nil)) (pv 1)))
      (pss_cons (ps_dput hu (pv 0) pe_str (pe_op op_fdivW (pe_callTy call_int1 (by rfl) T.int (by decide +kernel) (pa_cons (pe_dget hu (pv 0) pe_str (fun _ _ => rfl)) pa_nil)) (pv 1)) rfl)
      (pss_one (ps_ret (pv 2))))), ?_⟩
    -- behind the if: the draw again, all else as it was
    refine ⟨fun σ' H' => σ' = [some (.ref d), some (.int m), none] ∧ DrawAt H' d l c ∧ KeepD H H' d l, ?_, ?_⟩
    · have key : ∀ H', DrawAt H' d l c → KeepD H H' d l → ([some (V.ref d), some (V.int m), none] : List (Option V)) = [some (.ref d), some (.int m), none] ∧ DrawAt H' d l c ∧ KeepD H H' d l := fun H' a b => ⟨rfl, a, b⟩
      obtain ⟨⟨r, t, hd⟩, ⟨la, hl, hll⟩, ⟨ce, hc, hcl⟩, hlc⟩ := id D
      walk_at "rd"
      refine ⟨_, dg_rest hd, rfl, ?_⟩
      refine ite2 (fun _ => ?_) (fun _ => (key H D (KeepD.refl _ _ _)).2)
      refine ⟨_, dg_large hd, by decide, fun q hq => ⟨.list (la.map .int), .list [], .lst (SqL.of (by rw [upd_ne (ne_of_none hl hq)]; exact hl)) (dpAll_int la), .lst (SqL.of upd_same) .nil, shaped_ints la, by decide, ?_⟩⟩
      rw [show PyData.eqv (.list (la.map .int)) (.list []) = decide (la = []) from eqv_ints la []]
      have hd1 : (upd H q (.lst [])) d = some (.dK (drawKvs l c r t)) := by rw [upd_ne (ne_of_none hd hq)]; exact hd
      have hl1 : (upd H q (.lst [])) l = some (.lst (la.map V.int)) := by rw [upd_ne (ne_of_none hl hq)]; exact hl
      have s1 : Same H (upd H q (.lst [])) := fun b o e => by rw [upd_ne (ne_of_none e hq)]; exact e
      cases la with
      | nil =>
        refine ⟨false, rfl, ?_⟩
        rw [if_neg Bool.false_ne_true]
        refine ⟨d, l, c, rfl, D.same s1, fun z H2 D2 k2 => ?_⟩
        obtain ⟨⟨r2, t2, hd2⟩, ⟨la2, hl2, hll2⟩, ⟨ce2, hc2, hcl2⟩, _⟩ := id D2
        refine ⟨_, dp_rest hd2, (key _ ⟨⟨_, _, upd_same⟩, ⟨la2, by rw [upd_ne D.dl.symm]; exact hl2, hll2⟩, ⟨ce2, by rw [upd_ne D.dc.symm]; exact hc2, hcl2⟩, hlc⟩ fun b o e h1 h2 => ?_).2⟩
        rw [upd_ne h1]
        exact k2 _ _ (s1 _ _ e) h1
      | cons y ys =>
        refine ⟨true, rfl, ?_⟩
        rw [if_pos rfl]
        refine ⟨_, rfl, _, _, rfl, dg_large hd1, .inl ⟨rfl, _, SqL.of hl1⟩, l, _, 0, 0, _, rfl, rfl, hl1, by decide, by decide, ?_, rfl, ?_⟩
        · rw [List.length_map, List.length_cons]
          unfold seqIndex?
          simp
        have hd2 : upd (upd H q (.lst [])) l (.lst (((y :: ys).map V.int).eraseIdx 0)) d = some (.dK (drawKvs l c r t)) := by rw [upd_ne D.dl]; exact hd1
        have hc1 : (upd H q (.lst [])) c = some (.lst (ce.map V.int)) := s1 _ _ hc
        refine ⟨_, dp_rest hd2, (key _ ⟨⟨_, _, upd_same⟩, ⟨ys, ?_, ?_⟩, ⟨ce, ?_, hcl⟩, hlc⟩ fun b o e h1 h2 => ?_).2⟩
        · rw [upd_ne D.dl.symm]; exact upd_same
        · rw [List.length_cons] at hll; omega
        · rw [upd_ne D.dc.symm, upd_ne hlc.symm]; exact hc1
        · rw [upd_ne h1, upd_ne h2]; exact s1 _ _ e
    · rintro σ' H' ⟨rfl, D', k'⟩
      obtain ⟨⟨r, t, hd⟩, ⟨la, hl, hll⟩, ⟨ce, hc, hcl⟩, hlc⟩ := id D'
      walk_at "rd"
      have fm : 0 ≤ r.fmod m ∧ r.fmod m < m := by
        rw [Int.fmod_eq_emod_of_nonneg _ (by omega)]
        exact ⟨Int.emod_nonneg _ (by omega), Int.emod_lt_of_pos _ m0⟩
      refine ⟨_, dg_rest hd, .inl ⟨_, rfl, by omega, _, dg_rest hd, .inl ⟨_, rfl, wide_div (b := 200) m0 (by omega) (by decide) (by decide), _, dp_rest hd, ?_⟩⟩⟩
      exact k _ _ fm.1 fm.2 ⟨⟨_, _, upd_same⟩, ⟨la, by rw [upd_ne D'.dl.symm]; exact hl, hll⟩, ⟨ce, by rw [upd_ne D'.dc.symm]; exact hc, hcl⟩, hlc⟩ (k'.trans fun b o e h1 h2 => by rw [upd_ne h1]; exact e)
def spPick (K : PySem.W.Frag) : Sp := fun vs H Q _ => ∃ (d l c p : Addr) (xs : List V), vs = [.ref d, .ref p] ∧ DrawAt H d l c ∧ H p = some (.lst xs) ∧ p ≠ l ∧ 0 < xs.length ∧ xs.length ≤ 2 ^ 100 ∧
  ∀ (i : Nat) (x : V) (H' : Hp), xs[i]? = some x → DrawAt H' d l c → KeepD H H' d l → Q x H'
theorem scPick : FnScope ["draw", "some"] ["draw", "some"] (defScope sPick) := ⟨rfl, rfl, rfl, by decide +kernel, rfl, by decide +kernel, by decide +kernel⟩
theorem ok_pick {f fM : Addr} {fd fdM : FuncData} (F : Fun K "_law_pick" "_law_pick" sPick f fd) (T : PreG mg) (GM : FnOk P w K mg base CX0 2 fM fdM ["draw", "amount"] (spTake K)) (kM : PySem.W.keepIn K (.ref fM) = true) (bM : Binds K fdM ["draw", "amount"] []) (mM : mg "_law_take" = some (.ref fM)) : FnOk P w K mg base CX0 3 f fd ["draw", "some"] (spPick K) := by
  refine F.ok scPick (fun vs H Q E h => ?_) (fun cdv A outer s H vs Q E hr h => ?_)
  · obtain ⟨d, l, c, p, xs, rfl, _⟩ := h
    rfl
  · obtain ⟨d, l, c, p, xs, rfl, D, hp, hpl, h0, hz, k⟩ := h
    have hu := hu_of hr
    refine ⟨_, pss_one (ps_ret (pe_ix ix_list (pv 1) (pe_call GM hr rfl mM kM bM .nil pass0 (pa_cons (pv 0) (pa_cons (pe_callB call_len_seq (by rfl) T.len PySem.boot_len (pa_cons (pv 1) pa_nil)) pa_nil))) (fun _ _ => rfl))), ?_⟩
    obtain ⟨⟨r, t, hd⟩, ⟨la, hl, hll⟩, ⟨ce, hc, hcl⟩, hlc⟩ := id D
    have hpd : p ≠ d := ne_of hp hd (by intro z; cases z)
    refine ⟨_, rfl, _, rfl, _, rfl, p, xs, rfl, .inl (SqL.of hp), ?_⟩
    refine ⟨d, l, c, _, rfl, D, by omega, by omega, fun r2 H2 r0 r1 D2 k2 => ?_⟩
    obtain ⟨j, rfl⟩ : ∃ j : Nat, r2 = (j : Int) := ⟨r2.toNat, by omega⟩
    have hj : xs[j]? = some (xs[j]'(by omega)) := List.getElem?_eq_getElem _
    exact ⟨p, xs, _, _, rfl, rfl, SqL.of (k2 _ _ hp hpd hpl), atI_nat hj, k j _ H2 hj D2 k2⟩
end
end WW
end

section
set_option Elab.async false
set_option linter.all false
set_option maxRecDepth 100000
set_option maxHeartbeats 4000000
/-! == and != by an own __eq__, both answers; attributes as targets of a tuple's assignment -/
namespace WO
open PySem PySem.Spec PyProof.Rows L2
/-- a.f as a target -/
def gAttr (K : PySem.W.Frag) (ta : TE) (f : Str) : TG := fun v σ H Q => ta σ H fun x H1 => ∃ a C dx fs, x = .ref a ∧ H1 a = some (.ins C dx fs) ∧ Cls K C ∧ NoAttr K C f ∧ fs.length < 1000 ∧ Q σ (upd H1 a (.ins C dx (putF f v fs)))
theorem pg_attr {X : Cx} {o : Expr} {f : Str} {pos : Pos} {ta : TE} (ho : PE X o ta) : PG X (.Attribute o f pos) (gAttr X.K ta f) := by
  refine ⟨fun pins s σ H v u Q I r h => ?_⟩
  rw [assign_Attribute]
  refine wpAny_bind (wpAny_holding (thn (ho.run pins s σ H _ I h) fun ov s1 ⟨x, H1, I1, r1, q⟩ => ?_))
  obtain ⟨a, C, dx, fs, rfl, hi, c, n, hz, q⟩ := q
  cases (show ov = Value.ref a from r1)
  refine wpAny_bind (wpAny_standAt (wpAny_bind (wpAny_holding (setattr_ok I1 hi c n hz r fun s' I' => wpAny_release ⟨_, _, I', q⟩))))
section
variable {X : Cx} {CX : CXT} {C f : Addr} {fd : FuncData} {ps : List Str} {sp : Sp} {E : XK} {n : Nat}
def rOw (K : PySem.W.Frag) (C : Addr) (sp : Sp) (E : XK) : R2 := fun x y H Q => ∃ a dx fs t, x = .ref a ∧ H a = some (.ins C dx fs) ∧ TyX K H y t ∧ PySem.W.notFirst K C t = true ∧
  sp [x, y] H (fun v H' => (∃ b, v = .bl b) ∧ Q v H') E
theorem op_ownEq (F : FnOk X.prog X.w X.K X.mg X.base CX n f fd ps sp) (hf : PySem.W.findIn X.K (.ref C) "__eq__" = some (some (.ref f))) (hfn : PySem.W.isFn X.K (.ref f) = true)
    (hb : Binds X.K fd ps []) (hr : Room n X.A) (hx : Passes CX X E) : OpR X (compareOp .Eq) (rOw X.K C sp E) := by
  intro pins s σ H x y v u Q I rx ry ⟨a, dx, fs, t, hxa, hi, ty, nf, q⟩
  subst hxa
  cases (show v = Value.ref a from rx)
  obtain ⟨mA, om, -, -, -, -⟩ := ins_get I.hok hi
  obtain ⟨od, ia, -⟩ := om.look
  obtain ⟨m, fr⟩ := I.fr
  obtain ⟨P, kx, hp, -⟩ := kit_of I ry ty
  have hl := F.len _ _ _ _ q
  show wpAny _ _ (richCompare .Eq (.ref a) u) _ _ _
  refine PySem.W.cmp_K hr.units0 fr I.ok.mod.kin ia (kx.ty _ _ I.kIn hp) nf hf hfn ?_
  have hu : ([Value.ref a, u] ++ []).length = ps.length := hl
  refine wpAny_call (codeAny_mono (F.run X.A X.stack s H ⟨[.ref a, u], []⟩ ([.ref a, u] ++ []) [.ref a, y] _ E hr I.env0
    (hb s [.ref a, u] I.kIn hu) (.cons rfl (.cons ry .nil)) q) fun r s' hq => ?_)
  cases r with
  | error er => exact hx pins σ H s er s' I hq
  | ok fl =>
    cases fl with
    | ret u' =>
      obtain ⟨z, H', I', rz, ⟨b, hb'⟩, q'⟩ := I.after hq
      exact SlX.cmpback (P := EP X pins σ Q) rz ⟨z, H', I', rz, q'⟩
    | next => exact False.elim hq
    | brk => exact False.elim hq
    | cont => exact False.elim hq
end
end WO
namespace WO
open PySem PySem.Spec PyProof.Rows L2
/-- a class of one's own over object, with __eq__, without __ne__ -/
def neB (K : PySem.W.Frag) (C f : Addr) : Bool := match K.lookup C with
  | some ⟨.type "type", _, .cls cd, sl⟩ => (match cd.mro, sl.toList with
    | [.ref C', .type "object"], [_, _, _, _, some (.builtin _), _] => C' == C && !cd.hasDel && PySem.W.nsOkIn K cd.ns && decide (PySem.W.nsIn K cd.ns "__eq__" = some (some (.ref f))) && decide (PySem.W.nsIn K cd.ns "__ne__" = some none)
    | _, _ => false)
  | _ => false
theorem ns_fun {K : PySem.W.Frag} {h : Heap} {N : Addr} (X : K.In h) (ok : PySem.W.nsOkIn K N = true) : ∃ m, h.Ns N m ∧ ∀ x v, PySem.W.nsIn K N x = some v → m x = v := by
  unfold PySem.W.nsOkIn at ok
  split at ok
  · rename_i cls dd es ep sl hl
    refine ⟨nsFind es, ⟨_, es, ep, X _ _ hl, rfl, fun e he => ?_, fun _ => rfl⟩, fun x v hv => ?_⟩
    · obtain ⟨i, hi, e1⟩ := Array.mem_iff_getElem.mp he
      have z := (Array.all_eq_true.mp ok) i hi
      rw [e1] at z
      split at z
      · rename_i s t hk
        exact ⟨s, t, hk⟩
      · cases z
    · unfold PySem.W.nsIn at hv
      rw [hl] at hv
      dsimp only at hv
      unfold nsFind findBy
      rw [← Array.find?_toList]
      split at hv
      · rename_i e he
        rw [he]
        cases hv
        rfl
      · rename_i he
        rw [he]
        split at hv
        · cases hv
        · cases hv
          rfl
  · cases ok
theorem neB_ok {K : PySem.W.Frag} {C f x : Addr} {h : Heap} {o : Obj} (X : K.In h) (hB : neB K C f = true) (hfn : PySem.W.isFn K (.ref f) = true) (hx : h.get? x = some o) (hc : o.cls = .ref C) :
    h.OwnEqNoNe x C f "object" [.type "object"] := by
  have hfn : ((K.lookup f).map (fun o => o.cls) == some (Value.type "function")) = true := hfn
  have hfn' : ∃ of, K.lookup f = some of ∧ of.cls = .type "function" := by
    cases e : K.lookup f with
    | none => rw [e] at hfn; cases hfn
    | some of =>
      rw [e] at hfn
      have z : (some of.cls : Option Value) = some (.type "function") := eq_of_beq hfn
      exact ⟨of, rfl, Option.some.inj z⟩
  obtain ⟨of, hf, hf2⟩ := hfn'
  unfold neB at hB
  split at hB
  · rename_i dd cd sl hl
    split at hB
    · rename_i C' k0 k1 k2 k3 n k5 hm hs
      simp only [Bool.and_eq_true, beq_iff_eq, Bool.not_eq_true', decide_eq_true_eq] at hB
      obtain ⟨⟨⟨⟨rfl, hd⟩, hok⟩, he⟩, hn⟩ := hB
      obtain ⟨m, hN, hm2⟩ := ns_fun X hok
      obtain ⟨nm, bs, mro, N, q, hdct, sn, sub, ab, col, hasDel⟩ := cd
      obtain ⟨sl⟩ := sl
      dsimp only at hm hs hd hN he hn hm2
      subst hm hd hs
      exact ⟨o, of, nm, q, N, bs, hdct, sn, sub, ab, col, dd, k0, k1, k2, k3, k5, n, m, some (.builtin "object.__eq__"), hx, hc, X _ _ hl, hN, hm2 _ _ he, X _ _ hf, hf2, rfl, rfl, hm2 _ _ hn⟩
    · cases hB
  · cases hB
section
variable {X : Cx} {CX : CXT} {C f : Addr} {fd : FuncData} {ps : List Str} {sp : Sp} {E : XK} {n : Nat}
/-- both are of the class -/
def rOwN (C : Addr) (sp : Sp) (E : XK) : R2 := fun x y H Q => ∃ a dx fs b dy gs, x = .ref a ∧ H a = some (.ins C dx fs) ∧ y = .ref b ∧ H b = some (.ins C dy gs) ∧
  sp [x, y] H (fun v H' => ∃ k, v = .bl k ∧ Q (.bl !k) H') E
theorem op_ownNe (F : FnOk X.prog X.w X.K X.mg X.base CX n f fd ps sp) (hB : neB X.K C f = true) (hfn : PySem.W.isFn X.K (.ref f) = true)
    (hb : Binds X.K fd ps []) (hr : Room (n + 1) X.A) (hx : Passes CX X E) : OpR X (compareOp .NotEq) (rOwN C sp E) := by
  intro pins s σ H x y v u Q I rx ry ⟨a, dx, fs, b, dy, gs, hxa, hi, hyb, hj, q⟩
  subst hxa hyb
  cases (show v = Value.ref a from rx)
  cases (show u = Value.ref b from ry)
  obtain ⟨mA, om, -, -, -, -⟩ := ins_get I.hok hi
  obtain ⟨mB, on, -, -, -, -⟩ := ins_get I.hok hj
  have hl := F.len _ _ _ _ q
  have hu : ([Value.ref a, Value.ref b] ++ []).length = ps.length := hl
  have e0 := I.env0
  show wpAny _ _ (richCompare .NotEq (.ref a) (.ref b)) _ _ _
  refine richCompare_ne_ownEq PySem.F.cmp_object (neB_ok I.kIn hB hfn om.obj rfl) on.obj rfl hr.in1.units0 ?_
  refine wpAny_call (codeAny_mono (F.run X.A.in1 X.stack s H ⟨[.ref a, .ref b], []⟩ ([Value.ref a, Value.ref b] ++ []) [.ref a, .ref b] _ E hr.in1
    ⟨e0.frames, e0.mod, e0.bs, e0.bsz, e0.funs, e0.frf, e0.hok, e0.bare⟩
    (hb s [.ref a, .ref b] I.kIn hu) (.cons rx (.cons ry .nil)) q) fun r s' hq => ?_)
  cases r with
  | error er => exact hx pins σ H s er s' I hq
  | ok fl =>
    cases fl with
    | ret u' =>
      obtain ⟨z, H', I', rz, k, rfl, q'⟩ := I.after hq
      cases (show u' = Value.bool k from rz)
      exact ⟨k, rfl, .bl !k, H', I', rfl, q'⟩
    | next => exact False.elim hq
    | brk => exact False.elim hq
    | cont => exact False.elim hq
end
end WO
end

section
set_option Elab.async false
set_option linter.all false
set_option maxRecDepth 100000
set_option maxHeartbeats 4000000
/-! Defs that are called where no text of a thing is being made (guards = some []): so repr(thing) may be asked in them. -/
namespace WG
open PySem PySem.Spec PyProof.Rows L2
/-- as FnOk, for calls under no guard -/
structure FnG (P : Program) (w : World) (K : PySem.W.Frag) (mg : Str → Option Value) (base : Heap)
    (CX : CXT) (k : Nat) (f : Addr) (fd : FuncData) (ps : List Str) (sp : Sp) : Prop where
  len : ∀ vs H Q E, sp vs H Q E → vs.length = ps.length
  run : ∀ (A : Around) (outer : List Env) (s : Shared) (H : Hp) (args : Args) (us : List Value) (vs : List V)
    (Q : VK) (E : XK), Room k A → A.guards = some [] → Env0 P w K mg base A outer s H →
    BindsTo s fd args (ps.zip us) → Vals vs us → sp vs H Q E →
    codeAny (model P w) A (.call (.ref f) args) (CR CX outer P w H s Q E) s
section
variable {P : Program} {w : World} {K : PySem.W.Frag} {mg : Str → Option Value} {base : Heap} {CX : CXT}
variable {k : Nat} {f : Addr} {fd : FuncData} {ps : List Str} {sp : Sp}
theorem FnG.of (F : FnOk P w K mg base CX k f fd ps sp) : FnG P w K mg base CX k f fd ps sp :=
  ⟨F.len, fun A outer s H args us vs Q E hr _ e0 hb hv hs => F.run A outer s H args us vs Q E hr e0 hb hv hs⟩
theorem FnG.mono {j : Nat} (F : FnG P w K mg base CX j f fd ps sp) (h : j ≤ k) : FnG P w K mg base CX k f fd ps sp :=
  ⟨F.len, fun A outer s H args us vs Q E hr => F.run A outer s H args us vs Q E (hr.mono h)⟩
/-- a def by its body, which may ask for texts -/
theorem okG {x qual : Str} {st : Stmt} {N : List Str} (F : Fun K x qual st f fd) (S : FnScope N ps (defScope st))
    (len : ∀ vs H Q E, sp vs H Q E → vs.length = ps.length)
    (body : ∀ (cdv : Value) (A : Around) (outer : List Env) (s : Shared) (H : Hp) (vs : List V) (Q : VK) (E : XK),
      Room k (A.deeper (envOfC qual (defScope st) s.heap.objs.size f cdv)) →
      (A.deeper (envOfC qual (defScope st) s.heap.objs.size f cdv)).guards = some [] → sp vs H Q E →
      ∃ t, PSs (cxOf CX P w K mg base N qual (defScope st) f cdv A outer s H E).nox (defBody st) t ∧
        t { nx := fun _ H' => Q .non H', rt := Q } (start N vs) H) :
    FnG P w K mg base CX (k + 1) f fd ps sp := by
  obtain ⟨oc, od, kV, doc, pm, an, cdv, ct, osl, rfl, lk, hcd⟩ := F.ex
  refine ⟨len, fun A outer s H args us vs Q E hr hga e0 hb r hsp => ?_⟩
  have hl := len _ _ _ _ hsp
  have KX : K.In s.heap := e0.mod.kin.keeps
    fun b o e => (e0.bs b o e).1
  have lim : s.heap.NoLimit := e0.mod.nolimit.keeps
    fun b o e => (e0.bs b o e).1
  have hkind : ∀ y ∈ ps.zip us, (defScope st).names.lookup y.1 = some .local ∨
      ((defScope st).names.lookup y.1 = some .cell ∧
        ((cellsFrom (s.heap.objs.size + 1) (defScope st).names []).lookup y.1).isSome = true) := by
    rintro ⟨n, v⟩ hy
    rcases S.par n (List.of_mem_zip hy).1 with q | q
    · exact .inl q
    · exact .inr ⟨q, PySem.W.cellsFrom_some _ _ _ (.inl q)⟩
  refine codeAny_call_function hr.depth (KX _ _ lk) rfl S.co S.gen rfl
    (PySem.W.codeRec_of KX hcd) (hb _ _ _ _ ?_)
  refine wpAny_newFunctionEnv_cells S.kind hkind
    fun env he s1 x => ?_
  subst he
  refine ⟨lim.keeps x.toInCall.keep,
    codeAny_func ?_⟩
  obtain ⟨t, ht, hq⟩ := body cdv A outer s H vs Q E (hr.deeper _) hga hsp
  have I := inv_start (CX := CX) (E := E) S hr.hd e0 hl r x
  refine wpAny_mono (ht.nox.run [] s1 (start N vs) H _ I hq)
    (fun fl s' hs => ?_) fun e s' hs => hs
  have fin : ∀ {σ' : L2.St} {H' : Hp} {v : V} {u : Value},
      Inv (cxOf CX P w K mg base N qual (defScope st) f cdv A outer s H E) [] σ' H' s' →
      RelV v u → Q v H' → CE outer P w H s Q u s' :=
    fun J rv q => ⟨_, _, J.os, J.bare, J.base, J.hok, rv, q⟩
  cases fl with
  | ret u =>
    obtain ⟨v, σ', H', J, rv, q⟩ := hs
    exact fin J rv q
  | next =>
    obtain ⟨σ', H', J, q⟩ := hs
    exact fin (v := V.non) (u := Value.none) J rfl q
  | brk =>
    obtain ⟨_, _, _, q⟩ := hs
    exact False.elim q
  | cont =>
    obtain ⟨_, _, _, q⟩ := hs
    exact False.elim q
end
section
variable {X : Cx} {CX : CXT} {k : Nat} {f : Addr} {fd : FuncData} {ps : List Str} {sp : Sp} {E : XK} {x : Str}
variable {ds : List Value} {dvs : List V} {p pos : Pos} {e : Expr} {es : List Expr} {t : TA}
/-- f(e, ..), under no guard -/
theorem pe_callG (F : FnG X.prog X.w X.K X.mg X.base CX k f fd ps sp) (hgu : X.A.guards = some []) (hr : Room k X.A) (hg : Gl X x)
    (hm : X.mg x = some (.ref f)) (hk : PySem.W.keepIn X.K (.ref f) = true) (hb : Binds X.K fd ps ds) (hd : Vals dvs ds)
    (hx : Passes CX X E) (ha : PA X (e :: es) t) (hdb : (x == ("__debug__" : Str)) = false := by decide)
    (he : starEach (e :: es) X.env = (false, eval e X.env) :: starEach es X.env := by rfl)
    (hpl : (backTo pos (starEach es X.env)).any (·.1) = false := by rfl) :
    PE X (.Call (.Name x p) (e :: es) [] pos) (tCall sp dvs E t) := by
  refine ⟨fun pins s σ H Q I h => ?_⟩
  refine wpAny_Call_Name_kw (ld_glob I hg hm ?_ hdb)
  refine PySem.W.callWith_K (h₀ := X.base) I.ok.mod.kin hk
    (thn (ha.run pos pins s σ H _ I h) fun us s1 ⟨vs, H1, I1, r, q⟩ => ⟨I1.kIn, ?_⟩) he hpl
  have r2 : Vals (vs ++ dvs) (us ++ ds) := r.append hd
  have hl : (us ++ ds).length = ps.length := by
    rw [← r2.length]
    exact F.len _ _ _ _ q
  refine wpAny_call (codeAny_mono (F.run X.A X.stack s1 H1 ⟨us, []⟩ (us ++ ds) (vs ++ dvs) Q E hr hgu I1.env0
    (hb s1 us I1.kIn hl) r2 q) fun r s' hq => ?_)
  cases r with
  | error er => exact hx pins σ H1 s1 er s' I1 hq
  | ok fl =>
    cases fl with
    | ret u => exact I1.after hq
    | next => exact False.elim hq
    | brk => exact False.elim hq
    | cont => exact False.elim hq
/-! ### texts of things -/
/-- what stands at v reads as d -/
def Rdb (X : Cx) (H : Hp) (v : V) (d : PyData) : Prop :=
  ∀ (pins : List (Addr × Obj)) (σ : L2.St) (s : Shared), Inv X pins σ H s → ∀ u, RelV v u →
    ∃ as, Reads s.heap u d as ∧ (d.hasDict = true → sysModules ∉ as)
theorem rdb_dp {H : Hp} {v : V} {d : PyData} (h : Dp X.K H v d) (hn : d.hasDict = false) : Rdb X H v d :=
  fun pins σ s I u r => by
    obtain ⟨as, q⟩ := Dp.reads I d v u h r
    exact ⟨as, q, fun z => by rw [hn] at z; cases z⟩
/-- repr of a list or a tuple -/
def rRepr (X : Cx) : List V → Hp → VK → Prop := fun xs H Q => ∃ (a : Addr) (d : PyData), xs = [.ref a] ∧ Rdb X H (.ref a) d ∧
  d.showable = true ∧ d.depth ≤ 60 ∧ d.shown.length ≤ sizeLine ∧ Q (.str d.shown) H
theorem call_repr (hgu : X.A.guards = some []) (hu : X.A.units + 64 < cLine) : CallR X (.builtin "repr") (rRepr X) := by
  intro pins s σ H xs us Q I r h
  obtain ⟨a, d, rfl, hd, hs, hdp, hz, q⟩ := h
  obtain ⟨u, rfl, ru⟩ := vals1 r
  obtain ⟨as, rd, hm⟩ := hd pins σ s I u ru
  cases (show u = Value.ref a from ru)
  exact repr_of_reads' rd hs hm hgu (by omega) (fun _ _ z => z)
    (fun h' u' tk hk => ⟨.str d.shown, H, I.kept (t' := tk) hk, ⟨u', rfl⟩, q⟩) hz
end
end WG
end

section
set_option Elab.async false
set_option linter.all false
set_option maxRecDepth 100000
set_option maxHeartbeats 4000000
/-! Lists and tuples alike: slices, walks. -/
namespace WQ
open PySem PySem.Spec PyProof.Rows L2 RZ
def SeqA (K : PySem.W.Frag) (H : Hp) (a : Addr) (xs : List V) : Prop := SqL K H a xs ∨ SqT K H a xs
theorem SeqA.same {K : PySem.W.Frag} {H H' : Hp} {a : Addr} {xs : List V} (h : SeqA K H a xs) (s : Same H H') : SeqA K H' a xs := by
  rcases h with h | h
  · exact .inl (s.seq h)
  · exact .inr (SqT.ext h s)
theorem new_same {H : Hp} {p : Addr} {o : HO} (h : H p = none) : Same H (upd H p o) := fun b u e => by rw [upd_ne (ne_of_none e h)]; exact e
def rSlS (K : PySem.W.Frag) : V → Option Int → Option Int → Hp → VK → Prop := fun x lo hi H Q => ∃ a xs, x = .ref a ∧ SeqA K H a xs ∧
  ∀ (H' : Hp) (p : Addr), Same H H' → SeqA K H' p (cutV xs lo hi) → (∀ ys, SqT K H a ys → SqT K H' p (cutV xs lo hi)) → Q (.ref p) H'
theorem cut_whole {xs : List V} {lo hi : Option Int} (h : HT.sIx xs.length 0 lo = 0 ∧ HT.sIx xs.length xs.length hi = xs.length) : cutV xs lo hi = xs := by
  unfold cutV
  rw [h.1, h.2]
  simp
section
variable {X : Cx}
theorem sl_seqB : SlR X (rSlS X.K) := by
  intro pins s σ H x v vl vu lo hi sl Q I rx hs pl pu h
  obtain ⟨a, xs, rfl, hx, q⟩ := h
  rcases hx with hx | hx
  · refine sl_list pins s σ H _ v vl vu lo hi sl Q I rx hs pl pu ⟨a, xs, rfl, hx, fun p hp => q _ p (new_same hp) (.inl (SqL.of upd_same)) fun ys hy => ?_⟩
    obtain ⟨its, rv, pl1, _⟩ := I.list hx
    obtain ⟨its2, rv2, pt, _⟩ := I.tuple hy
    obtain ⟨o, e1, e2, _⟩ := pt
    obtain ⟨o', e1', e2', _⟩ := pl1.isList
    rw [e1] at e1'
    cases e1'
    rw [e2] at e2'
    exact absurd (Value.type.inj e2') (by decide)
  · refine sl_tupA pins s σ H _ v vl vu lo hi sl Q I rx hs pl pu ⟨a, xs, rfl, hx, fun w => ?_, fun _ p hp => q _ p (new_same hp) (.inr (SqT.of upd_same)) fun _ _ => SqT.of upd_same⟩
    have e := cut_whole w
    exact q H a (fun _ _ z => z) (by rw [e]; exact .inr hx) fun _ _ => by rw [e]; exact hx
end
end WQ
end

section
set_option Elab.async false
set_option linter.all false
set_option maxRecDepth 100000
set_option maxHeartbeats 4000000
/-! Errors that are caught, kept under a name and looked at behind the except suite. -/
namespace WT
open PySem PySem.Spec PyProof.Rows L2
/-- an error that was caught: its class, its own dict -/
def Caught (cls : Value) (d : Option Addr) (a : Addr) : HO := .ext fun h => ∃ (oe : Obj) (vs : Array Value), h.get? a = some oe ∧ Zc cls d oe ∧ oe.data = .fields vs
theorem caught_ok {P : Program} {w : World} {H : Hp} {h : Heap} {a : Addr} {cls : Value} {d : Option Addr} {oe : Obj} {vs : Array Value} (e : h.get? a = some oe) (z : Zc cls d oe) (k : oe.data = .fields vs) :
    ObjOk P w H h a (Caught cls d a) :=
  ⟨⟨oe, vs, e, z, k⟩, ⟨oe, e⟩, fun h1 h2 ⟨o, us, e1, z1, k1⟩ st => ⟨o, us, st _ e1, z1, k1⟩⟩
theorem upd_keep {H : Hp} {a b : Addr} {o u : HO} (na : H a = none) (e : H b = some u) : upd H a o b = some u := by
  rw [upd_ne (ne_of_none e na)]
  exact e
section
variable {X : Cx} {pins : List (Addr × Obj)} {σ : L2.St} {H : Hp} {s : Shared}
/-- an error's object, new since the entry, is tracked from now on -/
theorem track {a : Addr} {cls : Value} {d : Option Addr} {oe : Obj} {vs : Array Value} (I : Inv X pins σ H s) (n0 : X.s_0.heap.get? a = none)
    (e : s.heap.get? a = some oe) (z : Zc cls d oe) (k : oe.data = .fields vs) (na : H a = none) (nL : a ≠ X.env.locals) (np : ∀ p ∈ X.pn ++ pins, p.1 ≠ a) :
    Inv X pins σ (upd H a (Caught cls d a)) s where
  ok := I.ok
  os := I.os
  bare := I.bare
  base := {
    keep := I.base.keep
    slot := I.base.slot
    free := fun b o q n m => by
      have hb : b ≠ a := fun h => by rw [h, n0] at q; cases q
      rw [upd_ne hb]
      exact I.base.free b o q n m
    there := I.base.there
    tups := fun b xs q => upd_keep na (I.base.tups b xs q)
    frzs := fun b o u q => upd_keep na (I.base.frzs b o u q)
    tbls := fun b ps q => by
      obtain ⟨more, m⟩ := I.base.tbls b ps q
      exact ⟨more, upd_keep na m⟩ }
  loc := I.loc
  cell := I.cell
  free := by
    rw [upd_ne (Ne.symm nL)]
    exact I.free
  freeC := fun x c q => by
    have hc : c ≠ a := fun h => by
      obtain ⟨v, o, ho, hd⟩ := I.cell x c q
      rw [h, e] at ho
      cases ho
      rw [k] at hd
      cases hd
    rw [upd_ne hc]
    exact I.freeC x c q
  pin := fun p hp => by
    obtain ⟨p1, p2, p3, p4, p5⟩ := I.pin p hp
    exact ⟨p1, by rw [upd_ne (np p hp)]; exact p2, p3, p4, p5⟩
  hok := fun b o q => by
    by_cases hb : b = a
    · subst hb
      rw [upd_same] at q
      cases q
      exact caught_ok e z k
    · rw [upd_ne hb] at q
      exact (I.hok b o q).stay (fun c v _ r => r) (fun c r => upd_keep na r) fun c xs r => upd_keep na r
  len := I.len
/-- into an except suite, nothing pinned -/
theorem toSuite (I : Inv X pins σ H s) (a : Addr) : Inv (X.suite a (X.pn ++ pins)) [] σ H s :=
  ⟨I.ok.suite a _, I.os, I.bare, I.base, I.loc, I.cell, I.free, I.freeC, fun p hp => I.pin p (by rwa [List.append_nil] at hp), I.hok, I.len⟩
theorem ofSuite {a : Addr} {pn' : List (Addr × Obj)} (I : Inv (X.suite a (X.pn ++ pins)) pn' σ H s) (ok : X.Ok) : Inv X pins σ H s :=
  ⟨ok, I.os, I.bare, I.base, I.loc, I.cell, I.free, I.freeC, fun p hp => I.pin p (List.mem_append_left _ hp), I.hok, I.len⟩
end
/-- what is wished of an error of the body: the clause takes it, and its suite runs with the error tracked -/
def goneE (i : Nat) (D : Ends) : Ends :=
  { nx := fun σ H => D.nx (σ.set i none) H, rt := D.rt, bk := fun σ H => D.bk (σ.set i none) H, ct := fun σ H => D.ct (σ.set i none) H }
def wErr (K : PySem.W.Frag) (c : Value) (n i : Nat) (ts : TS) (D : Ends) : WX := fun cls d σ H =>
  PySem.W.exmOne K cls c = some true ∧ (σ.length = n → ∀ a, H a = none → ts (goneE i D) (σ.set i (some (.ref a))) (upd H a (Caught cls d a)))
section
variable {X : Cx} {x n : Str} {c : Value} {i : Nat} {body suite : List Stmt} {b0 : Stmt} {np q1 q2 : Pos} {tb : WX → TS} {ts : TS}
/-- try: body, except x as n: suite; every error of the body is of x -/
theorem ps_try_err (hs : X.stack = X.env :: X.outer) (hf : X.env.frame = some X.env.locals) (hx : X.ex = []) (hN : X.N.Nodup) (hi : X.N[i]? = some n)
    (hln : X.env.kindOf n = some .local) (hc : Names X x c)
    (hb : ∀ (W : WX) (pn : List (Addr × Obj)) (xe : Value → Shared → Prop), Takes (X.tr pn xe) W → PSs (X.tr pn xe) body (tb W))
    (hsu : ∀ (a : Addr) (pn : List (Addr × Obj)), PSs (X.suite a pn) (b0 :: suite) ts) :
    PS X (.Try body [.ExceptHandler (some (.Name x np)) (some n) (b0 :: suite) q2] [] [] q1) (fun D σ H => tb (wErr X.K c X.N.length i ts D) D σ H) := by
  refine ⟨fun pins s σ H D I h => ?_⟩
  have ok := I.ok
  have hfr : X.A.frames = some (X.env :: X.outer) := ok.frames.trans (congrArg some hs)
  refine wpAny_Try_except ?_
  refine wpAny_mono ((hb (wErr X.K c X.N.length i ts D) (X.pn ++ pins)
    (fun e t1 => wpAny (model X.prog X.w) X.A (noteFrame e X.env)
      (fun _ t2 => wpAny (model X.prog X.w) X.A (setFlight e none)
        (fun _ t3 => wpAny (model X.prog X.w) X.A (handleBy e X.env [.ExceptHandler (some (.Name x np)) (some n) (b0 :: suite) q2]) (SP X pins D) X.xe t3)
        X.xe t2) X.xe t1) (fun u t xx => ?_)).run [] s σ H D (I.toTry _) h) (fun f t hsp => ?_) (fun _ _ z => z)
  · obtain ⟨a, B, sI, pins', σ', H', cls, d, rfl, J0, nb, up, sky, na, os, ag, hb1, hyes⟩ := xx
    have J : Inv X pins σ' H' sI := J0.ofTry ok
    have sky1 : Sky B (X.env :: X.outer) a (Zc cls d) X.env.locals t.heap := hs ▸ sky
    show wpAny (model X.prog X.w) X.A (noteFrame (.ref a) X.env) _ _ _
    refine Sky.land Zc.steady hfr hf sky1 fun g3 fl3 up3 => ?_
    have J3 : Inv X pins σ' H' { t with heap := g3 } := J.landed nb fl3.1 (up.trans up3) os ag
    obtain ⟨oe3, vs3, he3, hz3, hd3⟩ := fl3.there
    have far : a ∉ frs (X.env :: X.outer) := fun hm => by
      obtain ⟨_, o1, e1, nf⟩ := fl3.2.2.1.mem hm
      rw [he3] at e1
      cases e1
      exact nf _ hd3
    have nL : a ≠ X.env.locals := fun z => far (List.mem_filterMap.mpr ⟨X.env, List.mem_cons_self, by rw [hf, z]⟩)
    have nI : sI.heap.get? a = none := by
      cases q : sI.heap.get? a with
      | none => rfl
      | some o =>
        have z := nb a o q (hs ▸ far)
        rw [fl3.2.1] at z
        cases z
    have n0 : X.s_0.heap.get? a = none := by
      cases q : X.s_0.heap.get? a with
      | none => rfl
      | some o =>
        obtain ⟨o1, z⟩ := J.base.there a o q (by rw [hx]; simp)
        rw [nI] at z
        cases z
    have npin : ∀ p ∈ X.pn ++ pins, p.1 ≠ a := fun p hp z => by
      have w := (J.pin p hp).1
      rw [z, nI] at w
      cases w
    have S3 := toSuite J3 a
    refine wpAny_handleBy_cons (codeAny_handlers_test ?_) (by intro q; cases q)
    have LT : PySem.W.Looks (model X.prog X.w) g3 (typeOf (.ref a)) cls := fun A Q E s1 k q => wpAny_typeOf_ref (k _ _ he3) (by rw [hz3.1]; exact q)
    have LM := PySem.W.exm_one (M := model X.prog X.w) (J3.kIn) LT hb1
    have test : ∀ {Q : Value → Shared → Prop} {E : Value → Shared → Prop}, Q c { t with heap := g3 } →
        wpAny (model X.prog X.w) (X.A.mark (some (.ref a))) (eval (.Name x np) X.env) Q E { t with heap := g3 } := by
      intro Q E q
      obtain ⟨hg, hdbg, hm | ⟨hm, hv, hnn⟩⟩ := hc
      · exact ld_glob (X := X.suite a (X.pn ++ pins)) S3 hg hm q hdbg
      · exact ld_blt (X := X.suite a (X.pn ++ pins)) S3 hg hm hv q hnn hdbg
    refine test (LM.here ?_)
    refine codeAny_handlers_suite_as ?_
    refine HandSPX.lands_againZ fl3 fun g4 fl4 up4 => ?_
    have J4 : Inv X pins σ' H' { t with heap := g4 } := J.landed nb fl4.1 ((up.trans up3).trans up4) os ag
    obtain ⟨oe4, vs4, he4, hz4, hd4⟩ := fl4.there
    have S4 := toSuite (track J4 n0 he4 hz4 hd4 na nL npin) a
    refine store_ok (X := X.suite a (X.pn ++ pins)) (v := .ref a) S4 hN hi (.inl hln) rfl (fun s5 S5 => ?_) (.inr hln)
    refine wpAny_mono ((hsu a (X.pn ++ pins)).run [] s5 _ _ _ S5 (hyes J.len a na)) (fun f s6 hsp => ?_) (fun _ _ z => False.elim z)
    have fin : ∀ {σ6 : L2.St} {H6 : Hp} {Q : Shared → Prop}, Inv (X.suite a (X.pn ++ pins)) [] σ6 H6 s6 → (∀ s7, Inv X pins (σ6.set i none) H6 s7 → Q s7) →
        wpAny (model X.prog X.w) X.A (do bindName X.env n .none; unbindBehindTheSuite X.env n q2) (fun _ s7 => Q s7) X.xe s6 :=
      fun S6 hq => gone_ok (ofSuite S6 ok) hN hi hln hq
    cases f with
    | next =>
      obtain ⟨σ6, H6, S6, r6⟩ := hsp
      exact fin S6 fun s7 J7 => ⟨_, _, J7, r6⟩
    | brk =>
      obtain ⟨σ6, H6, S6, r6⟩ := hsp
      exact fin S6 fun s7 J7 => ⟨_, _, J7, r6⟩
    | cont =>
      obtain ⟨σ6, H6, S6, r6⟩ := hsp
      exact fin S6 fun s7 J7 => ⟨_, _, J7, r6⟩
    | ret u =>
      obtain ⟨v6, σ6, H6, S6, rv6, r6⟩ := hsp
      exact fin S6 fun s7 J7 => ⟨_, _, _, J7, rv6, r6⟩
  · cases f with
    | next =>
      obtain ⟨σ1, H1, J1, r1⟩ := hsp
      exact wpAny_execs_nil ⟨σ1, H1, J1.ofTry ok, r1⟩
    | brk =>
      obtain ⟨σ1, H1, J1, r1⟩ := hsp
      exact ⟨σ1, H1, J1.ofTry ok, r1⟩
    | cont =>
      obtain ⟨σ1, H1, J1, r1⟩ := hsp
      exact ⟨σ1, H1, J1.ofTry ok, r1⟩
    | ret u =>
      obtain ⟨v1, σ1, H1, J1, rv1, r1⟩ := hsp
      exact ⟨v1, σ1, H1, J1.ofTry ok, rv1, r1⟩
end
/-! ### what is caught, looked at -/
/-- what an own error class says, so that instances can be asked -/
structure AskE (K : PySem.W.Frag) (C : Addr) : Prop where
  cl : (PySem.W.clsIn K C).isSome = true
  ga : PySem.W.findIn K (.ref C) "__getattribute__" = some (some (.builtin "BaseException.__getattribute__"))
  gt : PySem.W.findIn K (.ref C) "__getattr__" = some none
  sb : PySem.W.subIn K (.ref C) (.type "BaseException") = some true
  ca : PySem.W.findIn K (.ref C) "__class__" = some (some (.builtin "object.__class__"))
  cg : PySem.W.specialIn K (.builtin "object.__class__") "__get__" = some (some (.builtin "getset_descriptor.__get__"))
  ct : PySem.W.takesIn K (.builtin "object.__class__") = some true
  cm : PySem.W.mroIn K C (.type "object") = some true
inductive ErrC (H : Hp) (a C : Addr) : Option (Str × V) → Prop where
  | bare (h : H a = some (Caught (.ref C) none a)) : ErrC H a C none
  | with_ {d : Addr} {f : Str} {y : V} (h : H a = some (Caught (.ref C) (some d) a)) (hd : H d = some (.xd [(f, y)])) : ErrC H a C (some (f, y))
section
variable {X : Cx} {pins : List (Addr × Obj)} {σ : L2.St} {H : Hp} {s : Shared}
theorem errC_inst {a C : Addr} {o : Option (Str × V)} (I : Inv X pins σ H s) (e : ErrC H a C o) :
    ∃ ox od, PySem.W.InstAt s.heap a ox C od ∧ (∀ f y, o = some (f, y) → ∃ ob u, od = some ob ∧ RelV y u ∧ PySem.W.lookIn f ob = some (some u)) := by
  cases e with
  | bare h =>
    obtain ⟨⟨oe, vs, g1, z, g2⟩, _, _⟩ := I.hok a _ h
    refine ⟨oe, none, ⟨g1, z.1, ?_, ?_⟩, fun f y q => nomatch q⟩
    · unfold PySem.W.notCls
      rw [g2]
    · rw [z.2]
      trivial
  | @with_ d f y h hd =>
    obtain ⟨⟨oe, vs, g1, z, g2⟩, _, _⟩ := I.hok a _ h
    obtain ⟨mA, hn, rl⟩ := I.hok d _ hd
    obtain ⟨od, ho, hl⟩ := lookIn_ns hn
    refine ⟨oe, some od, ⟨g1, z.1, ?_, ?_⟩, fun f' y' q => ?_⟩
    · unfold PySem.W.notCls
      rw [g2]
    · rw [z.2]
      exact ho
    · cases q
      have r0 := rl f
      have e0 : List.lookup f [(f, y)] = some y := by simp [List.lookup]
      rw [e0] at r0
      obtain ⟨u, hu, ru⟩ := RelO.some_of (v := y) (o := mA f) r0
      exact ⟨od, u, rfl, ru, by rw [hl, hu]⟩
def rIsC (K : PySem.W.Frag) : List V → Hp → VK → Prop := fun xs H Q => ∃ (a C : Addr) (o : Option (Str × V)) (c : V) (cv : Value) (b : Bool),
  xs = [.ref a, c] ∧ ErrC H a C o ∧ ClsV c cv ∧ AskE K C ∧ PySem.W.kitOne K (.ref C) cv = some b ∧ Q (.bl b) H
/-- isinstance of a caught error, or of anything else that is told of -/
def rIsA (K : PySem.W.Frag) : List V → Hp → VK → Prop := fun xs H Q => rIsC K xs H Q ∨ rIsi K xs H Q
theorem call_isA : CallR X (.builtin "isinstance") (rIsA X.K) := by
  intro pins s σ H xs us Q I r h
  rcases h with ⟨a, C, o, c, cv, b, rfl, e, k, T, ek, q⟩ | h
  · obtain ⟨u1, u2, rfl, r1, r2⟩ := vals2 r
    have e2 := k.eq r2
    subst e2
    cases (show u1 = Value.ref a from r1)
    obtain ⟨ox, od, J, _⟩ := errC_inst I e
    exact PySem.W.kia_one (PySem.W.kitx_exc T.cl T.ga T.gt T.sb T.ca T.cg T.ct T.cm) I.kIn J ek (fun z => nomatch z) fun tk => ⟨.bl b, H, I.kept (t' := tk) fun _ _ z => z, rfl, q⟩
  · exact call_isi pins s σ H xs us Q I r h
/-- e.f of a caught error -/
def tCtF (K : PySem.W.Frag) (f : Str) (te : TE) : TE := fun σ H Q => te σ H fun x H1 => ∃ (a C : Addr) (y : V), x = .ref a ∧ ErrC H1 a C (some (f, y)) ∧ AskE K C ∧ PySem.W.hasDictIn K C = true ∧ PySem.W.findIn K (.ref C) f = some none ∧ Q y H1
theorem pe_ctF {e : Expr} {te : TE} {pos : Pos} {f : Str} (he : PE X e te) (hb : attributeBase e f X.env (eval e X.env) = eval e X.env := by rfl) : PE X (.Attribute e f pos) (tCtF X.K f te) := by
  refine ⟨fun pins s σ H Q I h => attr_of hb (thn (he.run pins s σ H _ I h) fun u s1 hh => ?_)⟩
  obtain ⟨x, H1, I1, rx, a, C, y, ex, ea, T, hdct, hno, q⟩ := hh
  subst ex
  obtain rfl : u = Value.ref a := rx
  obtain ⟨ox, od, J, hl⟩ := errC_inst I1 ea
  obtain ⟨ob, u, rfl, ru, l⟩ := hl _ _ rfl
  exact HandSPX.exc_get I1.kIn J T.ga T.gt T.sb (PySem.W.findObj_own hdct hno rfl l) (handed_of ru) ⟨y, H1, I1.tok _, ru, q⟩
end
/-! ### _law_caught(lambda: ..) -/
/-- what the def makes of the lambda's reading: None, or the error that was caught -/
def TTc (K : PySem.W.Frag) (W : Addr) : (XK → Hp → VK → Prop) → Hp → VK → Prop := fun tl H Q =>
  tl (fun cls d H' => PySem.W.exmOne K cls (.ref W) = some true ∧ ∀ a, H' a = none → Q (.ref a) (upd H' a (Caught cls d a))) H (fun _ H' => ∃ v, (some (some V.non) : Option (Option V)) = some (some v) ∧ Q v H')
abbrev nCaught : List Str := ["work", "caught", "error"]
theorem caught_gives {X : Cx} {q : Str} {sg : Scope} {g W : Addr} {cdg : Value} {j1 : Nat} {p1 p2 p3 p4 p5 p6 p7 p8 p9 p10 p11 p12 p13 p14 : Pos}
    (hge : sg.names.lookup ("WaitError" : Str) = some .globalImplicit) (hme : X.mg "WaitError" = some (.ref W)) (hl0 : sg.names.lookup ("work" : Str) = some .local) (hl1 : sg.names.lookup ("caught" : Str) = some .local) (hl2 : sg.names.lookup ("error" : Str) = some .local) :
    LamX.GivesTo X nCaught "_law_caught" sg g cdg [.Assign [.Name "caught" p1] (.Constant .none j1 p2) p3,
      .Try [.Expr (.Call (.Name "work" p4) [] [] p5) p6] [.ExceptHandler (some (.Name "WaitError" p7)) (some "error") [.Assign [.Name "caught" p8] (.Name "error" p9) p10] p11] [] [] p12,
      .Return (some (.Name "caught" p13)) p14] "work" q (TTc X.K W) := by
  intro f c' s H Q tl act hc h
  have nd : nCaught.Nodup := by decide +kernel
  refine ⟨_, pss_cons (ps_set (i := 1) nd rfl (Or.inl hl1) pe_non)
    (pss_cons (ps_try_err (X := (cxOf C8.CX0 X.prog X.w X.K X.mg X.base nCaught "_law_caught" sg g cdg X.A X.stack s H C8.E0).nox) (c := .ref W) (i := 2)
        (tb := fun W' D σ H => ∃ Ech : XK, (∀ cls d σ' H', Ech cls d H' → W' cls d σ' H') ∧ σ[0]? = some (some (.ref f)) ∧ H c' = some (LamX.CodeO c' q) ∧ tl Ech H (fun _ H' => D.nx σ H'))
        rfl rfl rfl nd rfl hl2 ⟨hge, by decide, .inl hme⟩ (fun W' pn xe tk => ?_) (fun a pn => pss_one (ps_set (i := 1) nd rfl (Or.inl hl1) (pe_var (i := 2) rfl (Or.inl hl2)))))
    (pss_one (ps_ret (pe_var (i := 1) rfl (Or.inl hl1))))), ?_⟩
  · refine ⟨fun pins s' σ H' D I h' => ?_⟩
    obtain ⟨Ech, hW, h1, h2, h3⟩ := h'
    exact (pss_one (ps_expr (pos := p6) (act W' pn xe Ech p4 p5 tk hW))).run pins s' σ H' D I ⟨h1, h2, h3⟩
  · refine ⟨_, fun cls d σ' H' h' => ?_, rfl, hc, h⟩
    obtain ⟨e1, e2⟩ := h'
    refine ⟨e1, fun hl a ha => ?_⟩
    match σ', hl with
    | [x0, x1, x2], _ => exact ⟨.ref a, rfl, .ref a, rfl, e2 a ha⟩
end WT
end

section
set_option Elab.async false
set_option linter.all false
set_option maxRecDepth 100000
set_option maxHeartbeats 4000000
/-! ranges with a step above 0: walked, and as the list of their numbers -/
namespace L2
open PySem PySem.Spec PyProof.Rows
theorem rangeSize_up {i j c : Int} (hc : 0 < c) {n : Nat} (h1 : j - i ≤ n * c) (h2 : ∀ m : Nat, m < n → i + m * c < j) : Builtin.Range.rangeSize i j c = n := by
  unfold Builtin.Range.rangeSize
  rw [if_pos hc]
  split
  · rename_i l
    have hn : 0 < n := by
      rcases Nat.eq_zero_or_pos n with z | z
      · subst z
        simp at h1
        omega
      · exact z
    have h3 := h2 (n - 1) (by omega)
    have e1 : ((n - 1 : Nat) : Int) = (n : Int) - 1 := by omega
    rw [e1] at h3
    have e : (j - i - 1) / c = (n : Int) - 1 := by
      refine (Int.ediv_eq_iff_of_pos hc).mpr ⟨?_, ?_⟩
      · omega
      · have : ((n : Int) - 1) * c + c = n * c := by rw [Int.sub_mul]; omega
        omega
    omega
  · rename_i l
    rcases Nat.eq_zero_or_pos n with z | z
    · subst z
      rfl
    · have h3 := h2 0 z
      simp at h3
      omega
/-- the turns of range(i, j, c), c of any size below 2 ^ 60 -/
structure RgW (i j c : Int) (n : Nat) : Prop where
  c0 : c ≠ 0
  c1 : c.natAbs.log2 < 9000
  sm : Builtin.Range.small i j c = true
  sz : Builtin.Range.rangeSize i j c = n
theorem RgW.up {i j c : Int} {n : Nat} (hi : -(2 ^ 60) ≤ i) (hi' : i < 2 ^ 60) (hj : -(2 ^ 60) ≤ j) (hj' : j < 2 ^ 60) (hc : 0 < c) (hc' : c < 2 ^ 60) (hn : n < 2 ^ 60) (h1 : j - i ≤ n * c) (h2 : ∀ m : Nat, m < n → i + m * c < j) : RgW i j c n := by
  have z := rangeSize_up hc h1 h2
  refine ⟨by omega, ?_, ?_, z⟩
  · have : c.natAbs.log2 < 60 := (Nat.log2_lt (by omega)).mpr (by omega)
    omega
  · unfold Builtin.Range.small
    rw [z]
    simp only [Builtin.Range.rangeFitsLong, Bool.and_eq_true, Bool.or_eq_true, decide_eq_true_eq, beq_iff_eq, if_pos hc]
    omega
def iRngW (ta : TA) : TI := fun σ H R => ta σ H fun vs H1 => ∃ (i j c : Int) (n : Nat), vs = [.int i, .int j, .int c] ∧ RgW i j c n ∧ R (Itc i c n) H1
section
variable {X : Cx} {tg : Expr}
theorem pi_rangeW {a b c : Expr} {ta : TA} {p pos : Pos} (hg : Gl X "range") (hm : X.mg "range" = none) (ha : PA X [a, b, c] ta)
    (hs : starEach [a, b, c] X.env = (false, eval a X.env) :: starEach [b, c] X.env := by rfl) (hpl : (backTo pos (starEach [b, c] X.env)).any (·.1) = false := by rfl) :
    PI X tg (.Call (.Name "range" p) [a, b, c] [] pos) (iRngW ta) := by
  refine ⟨fun pins s σ H R I h => ?_⟩
  refine Call_ (ld_blt I hg hm boot_range (PyProof.Rows.callWith_type1 (thn (ha.run pos pins s σ H _ I h) fun us s1 ⟨vs, H1, I1, r1, q1⟩ => ?_) hs hpl))
  obtain ⟨i, j, k, n, e, ⟨c0, c1, c2, c3⟩, q⟩ := q1
  subst e
  cases r1 with
  | cons r rr =>
    cases rr with
    | cons r' rr =>
      cases rr with
      | cons r'' rr =>
        cases rr
        obtain ⟨t, rfl⟩ := r
        obtain ⟨t', rfl⟩ := r'
        obtain ⟨t'', rfl⟩ := r''
        refine call_range_3 c0 ?_ (.inl (PyProof.noPylong_of_log2 c1))
        refine wpAny_pyIter_range (IsRange.new ..) c2 ?_
        have I2 : Inv X pins σ H1 { s1 with heap := s1.heap.push { cls := .type "range", data := .fields #[.int i t, .int j t', .int k t''] } } := I1.kept (t' := s1.toks) fun b o e => Heap.get?_push_of_some _ e
        refine pi_one (tk := s1.toks) I2 _ (turn_rangeC _ i k n) ?_ q
        have e1 : i + ((0 : Nat) : Int) * k = i := by simp
        have e2 : (n : Int) - ((0 : Nat) : Int) = Builtin.Range.rangeSize i j k := by rw [c3]; simp
        show IsRangeIter _ _ (i + ((0 : Nat) : Int) * k) ((n : Int) - ((0 : Nat) : Int)) k
        rw [e1, e2]
        exact Heap.get?_push_size _ rfl
/-- list(range(i, j, c)) -/
def rgC (i c : Int) (n : Nat) : List V := (List.range n).map fun (m : Nat) => V.int (i + m * c)
theorem rgC_length (i c : Int) (n : Nat) : (rgC i c n).length = n := by unfold rgC; rw [List.length_map, List.length_range]
def tLstRgW (ta : TA) : TE := fun σ H Q => ta σ H fun vs H1 => ∃ (i j c : Int) (n : Nat), vs = [.int i, .int j, .int c] ∧ RgW i j c n ∧ n ≤ 1000000 ∧ ∀ q, H1 q = none → Q (.ref q) (upd H1 q (.lst (rgC i c n)))
theorem pe_listRgW {a b c : Expr} {ta : TA} {p pos p' pos' : Pos} (hcm : X.calm = true) (hgl : Gl X "list") (hml : X.mg "list" = none) (hg : Gl X "range") (hm : X.mg "range" = none) (ha : PA X [a, b, c] ta)
    (hs : starEach [a, b, c] X.env = (false, eval a X.env) :: starEach [b, c] X.env := by rfl) (hpl : (backTo pos' (starEach [b, c] X.env)).any (·.1) = false := by rfl)
    (na : starEach [Expr.Call (.Name "range" p') [a, b, c] [] pos'] X.env = (false, eval (.Call (.Name "range" p') [a, b, c] [] pos') X.env) :: starEach [] X.env := by rfl) :
    PE X (.Call (.Name "list" p) [.Call (.Name "range" p') [a, b, c] [] pos'] [] pos) (tLstRgW ta) := by
  refine ⟨fun pins s σ H Q I h => ?_⟩
  refine Call_ (ld_blt I hgl hml boot_list (PyProof.Rows.callWith_type1 (args_cons ?_ na) na))
  refine Call_ (ld_blt I hg hm boot_range (PyProof.Rows.callWith_type1 (thn (ha.run pos' pins s σ H _ I h) fun us s1 ⟨vs, H1, I1, r1, q1⟩ => ?_) hs hpl))
  obtain ⟨i, j, k, n, ev, ⟨c0, c1, c2, c3⟩, hn, q⟩ := q1
  subst ev
  cases r1 with
  | cons r rr =>
    cases rr with
    | cons r' rr =>
      cases rr with
      | cons r'' rr =>
        cases rr
        obtain ⟨t, rfl⟩ := r
        obtain ⟨t', rfl⟩ := r'
        obtain ⟨t'', rfl⟩ := r''
        refine call_range_3 c0 ?_ (.inl (PyProof.noPylong_of_log2 c1))
        have I2 : Inv X pins σ H1 { s1 with heap := s1.heap.push { cls := .type "range", data := .fields #[.int i t, .int j t', .int k t''] } } := I1.kept (t' := s1.toks) fun b o e => Heap.get?_push_of_some _ e
        refine args_nil ?_
        refine call_list_range (n := n) (I2.ok.hd hcm) (IsRange.new ..) c2 c3 (Nat.le_trans hn (by decide)) fun h' tk acc c' hk e' hi => ?_
        refine ⟨.ref _, upd H1 _ (.lst (rgC i k n)), I2.laid hk (Nat.le_refl _) (show ObjOk X.prog X.w _ _ _ (.lst (rgC i k n)) from ⟨?_, acc.toList, c', ?_, ?_⟩), rfl, q _ (I2.hok.fresh (Nat.le_refl _))⟩
        · rw [rgC_length, sizeLine_eq]; omega
        · have e : acc.toList.length = n := by rw [Array.length_toList]; exact hi.1
          unfold rgC
          rw [← e]
          refine vals_of_get acc.toList _ fun j u hj => ?_
          obtain ⟨t, rfl⟩ := hi.2 j u (by rw [← hj, Array.getElem?_toList])
          exact ⟨t, rfl⟩
        · rw [Array.toArray_toList]; exact e'
end
end L2
end

section
set_option linter.all false
/-! least forms of rows that go on by one period: mathematics alone -/
namespace MF
def QP (f : Nat → Int) (q : Nat) (r : Int) (b : Nat) : Prop := ∀ j, b ≤ j → f (j + q) = f j + r
def D (f : Nat → Int) (i : Nat) : Int := f (i + 1) - f i
def DP (f : Nat → Int) (q b : Nat) : Prop := ∀ j, b ≤ j → D f (j + q) = D f j
theorem QP.mul {f : Nat → Int} {q : Nat} {r : Int} {b : Nat} (h : QP f q r b) {j : Nat} (hj : b ≤ j) : ∀ k : Nat, f (j + k * q) = f j + k * r
  | 0 => by simp
  | k + 1 => by
    have e : j + (k + 1) * q = (j + k * q) + q := by rw [Nat.succ_mul]; omega
    rw [e, h _ (by omega), h.mul hj k]
    have : ((k + 1 : Nat) : Int) * r = (k : Int) * r + r := by rw [Int.natCast_add, Int.add_mul]; simp
    omega
theorem DP.mul {f : Nat → Int} {q b : Nat} (h : DP f q b) {j : Nat} (hj : b ≤ j) : ∀ k : Nat, D f (j + k * q) = D f j
  | 0 => by simp
  | k + 1 => by
    have e : j + (k + 1) * q = (j + k * q) + q := by rw [Nat.succ_mul]; omega
    rw [e, h _ (by omega), h.mul hj k]
theorem QP.dp {f : Nat → Int} {q : Nat} {r : Int} {b : Nat} (h : QP f q r b) : DP f q b := by
  intro j hj
  have h1 := h j hj
  have h2 := h (j + 1) (by omega)
  have e : j + 1 + q = j + q + 1 := by omega
  rw [e] at h2
  unfold D
  omega
theorem DP.qp {f : Nat → Int} {q b : Nat} (h : DP f q b) : QP f q (f (b + q) - f b) b := by
  have key : ∀ k : Nat, f (b + k + q) = f (b + k) + (f (b + q) - f b) := by
    intro k
    induction k with
    | zero => show f (b + 0 + q) = _; rw [Nat.add_zero]; omega
    | succ k ih =>
      have d := h (b + k) (by omega)
      unfold D at d
      have e : b + (k + 1) + q = b + k + q + 1 := by omega
      have e2 : b + (k + 1) = b + k + 1 := by omega
      rw [e, e2]
      omega
  intro j hj
  have := key (j - b)
  have e : b + (j - b) = j := by omega
  rw [e] at this
  exact this
/-- from some place on -/
def DE (f : Nat → Int) (q : Nat) : Prop := ∃ b, DP f q b
theorem DE.mod {f : Nat → Int} {m n : Nat} (hm : DE f m) (hn : DE f n) : DE f (n % m) := by
  obtain ⟨b, h1⟩ := hm
  obtain ⟨c, h2⟩ := hn
  refine ⟨b + c, fun j hj => ?_⟩
  have a1 := h1.mul (j := j + n % m) (by omega) (n / m)
  have a2 := h2 j (by omega)
  have e : j + n % m + n / m * m = j + n := by
    have := Nat.mod_add_div n m
    rw [Nat.mul_comm] at this
    omega
  rw [e] at a1
  rw [← a1, a2]
theorem DE.gcd {f : Nat → Int} : ∀ (m n : Nat), DE f m → DE f n → DE f (Nat.gcd m n) := by
  intro m n
  induction m, n using Nat.gcd.induction with
  | H0 n => intro _ h; rw [Nat.gcd_zero_left]; exact h
  | H1 m n hm ih =>
    intro h1 h2
    rw [Nat.gcd_rec]
    exact ih (h1.mod h2) h1
theorem DP.pull {f : Nat → Int} {p b e : Nat} (hp : 0 < p) (h : DP f p b) (he : DE f e) : DP f e b := by
  obtain ⟨c, hc⟩ := he
  intro j hj
  have a1 := h.mul (j := j + e) (by omega) c
  have a2 := h.mul hj c
  have g : c ≤ j + c * p := by
    have : c * 1 ≤ c * p := Nat.mul_le_mul_left c hp
    omega
  have a3 := hc (j + c * p) g
  have e1 : j + c * p + e = j + e + c * p := by omega
  rw [e1] at a3
  rw [← a1, a3, a2]
/-- the least form's parts -/
structure IsForm (f : Nat → Int) (q : Nat) (r : Int) (b : Nat) : Prop where
  pos : 0 < q
  qp : QP f q r b
  least : ∀ q', 0 < q' → DE f q' → q ≤ q'
  low : b = 0 ∨ f (b - 1 + q) ≠ f (b - 1) + r
theorem QP.rise {f : Nat → Int} {q : Nat} {r r' : Int} {b b' : Nat} (h : QP f q r b) (h' : QP f q r' b') : r = r' := by
  have a1 := h (b + b') (by omega)
  have a2 := h' (b + b') (by omega)
  omega
theorem IsForm.uniq {f : Nat → Int} {q q' : Nat} {r r' : Int} {b b' : Nat} (h : IsForm f q r b) (h' : IsForm f q' r' b') : q = q' ∧ r = r' ∧ b = b' := by
  have e : q = q' := Nat.le_antisymm (h.least _ h'.pos ⟨_, h'.qp.dp⟩) (h'.least _ h.pos ⟨_, h.qp.dp⟩)
  subst e
  have e2 := h.qp.rise h'.qp
  subst e2
  refine ⟨rfl, rfl, ?_⟩
  have lt : ∀ {b b' : Nat}, IsForm f q r b → IsForm f q r b' → ¬ b < b' := by
    intro b b' h h' l
    rcases h'.low with z | z
    · omega
    · exact z (h.qp (b' - 1) (by omega))
  have h1 := lt h h'
  have h2 := lt h' h
  omega
theorem IsForm.same {f f' : Nat → Int} {q : Nat} {r : Int} {b : Nat} (h : IsForm f q r b) (e : ∀ j, f j = f' j) : IsForm f' q r b := by
  have : f = f' := funext e
  rw [← this]
  exact h
theorem QP.ext {f f' : Nat → Int} {q : Nat} {r : Int} {b : Nat} (hq : 0 < q) (h : QP f q r b) (h' : QP f' q r b) (e : ∀ j, j < b + q → f j = f' j) : ∀ j, f j = f' j := by
  intro j
  induction j using Nat.strongRecOn with
  | ind j ih =>
    by_cases l : j < b + q
    · exact e j l
    · have i := ih (j - q) (by omega)
      have a1 := h (j - q) (by omega)
      have a2 := h' (j - q) (by omega)
      have e1 : j - q + q = j := by omega
      rw [e1] at a1 a2
      omega
/-- equal up to far: equal -/
theorem QP.far {f f' : Nat → Int} {p p' : Nat} {g g' : Int} {b b' c : Nat} (hp : 0 < p) (hp' : 0 < p') (h : QP f p g b) (h' : QP f' p' g' b') (hc : b < c) (hc' : b' < c)
    (e : ∀ j, j < c + p * p' → f j = f' j) : ∀ j, f j = f' j := by
  have P : 0 < p * p' := Nat.mul_pos hp hp'
  have q1 : QP f (p * p') (p' * g) (c - 1) := by
    intro j hj
    have := h.mul (j := j) (by omega) p'
    rw [Nat.mul_comm] at this
    exact this
  have q2 : QP f' (p * p') (p * g') (c - 1) := by
    intro j hj
    exact h'.mul (j := j) (by omega) p
  have r : (p' : Int) * g = p * g' := by
    have a1 := q1 (c - 1) (by omega)
    have a2 := q2 (c - 1) (by omega)
    have a3 := e (c - 1) (by omega)
    have a4 := e (c - 1 + p * p') (by omega)
    omega
  rw [r] at q1
  exact q1.ext P q2 (fun j hj => e j (by omega))
/-! ### the way to it: steps that divide the period -/
/-- what the program asks of a step -/
def A (f : Nat → Int) (b p s : Nat) : Prop := p % s = 0 ∧ ∀ i, i < p - s → D f (b + i + s) = D f (b + i)
theorem A.dp {f : Nat → Int} {b p s : Nat} (hs : 0 < s) (hsp : s ≤ p) (h : DP f p b) (a : A f b p s) : DP f s b := by
  obtain ⟨hd, ha⟩ := a
  have hp : 0 < p := by omega
  -- up the steps
  have up : ∀ (k j : Nat), j + k * s < p → D f (b + (j + k * s)) = D f (b + j) := by
    intro k
    induction k with
    | zero => intro j _; simp
    | succ k ih =>
      intro j hj
      have e : j + (k + 1) * s = j + k * s + s := by rw [Nat.succ_mul]; omega
      have h1 := ha (j + k * s) (by omega)
      have e2 : b + (j + (k + 1) * s) = b + (j + k * s) + s := by omega
      rw [e2, h1]
      exact ih j (by omega)
  -- within one period
  have base : ∀ i, i < p → D f (b + i + s) = D f (b + i) := by
    intro i hi
    by_cases l : i < p - s
    · exact ha i l
    · have hm : p = p / s * s := by
        have := Nat.mod_add_div p s
        rw [hd, Nat.mul_comm] at this
        omega
      have hk : 0 < p / s := Nat.div_pos hsp hs
      have e0 : p - s = (p / s - 1) * s := by rw [Nat.sub_mul, ← hm]; omega
      have j := i - (p - s)
      have u := up (p / s - 1) (i - (p - s)) (by rw [← e0]; omega)
      rw [← e0] at u
      have e1 : i - (p - s) + (p - s) = i := by omega
      rw [e1] at u
      have w := h (b + (i - (p - s))) (by omega)
      have e2 : b + (i - (p - s)) + p = b + i + s := by omega
      rw [e2] at w
      rw [w, u]
  intro j hj
  have e : j = b + (j - b) % p + (j - b) / p * p := by
    have := Nat.mod_add_div (j - b) p
    rw [Nat.mul_comm] at this
    omega
  have m := base ((j - b) % p) (Nat.mod_lt _ hp)
  have a1 := h.mul (j := b + (j - b) % p) (by omega) ((j - b) / p)
  have a2 := h.mul (j := b + (j - b) % p + s) (by omega) ((j - b) / p)
  have e2 : b + (j - b) % p + s + (j - b) / p * p = j + s := by omega
  rw [← e] at a1
  rw [e2] at a2
  rw [a1, a2, m]
theorem A.of_dp {f : Nat → Int} {b p s : Nat} (hd : p % s = 0) (h : DP f s b) : A f b p s := ⟨hd, fun i _ => h (b + i) (by omega)⟩
/-- the first step that is right is the least of all -/
theorem least_of {f : Nat → Int} {b p s : Nat} (hp : 0 < p) (h : DP f p b) (hs : 0 < s) (hsp : s ≤ p) (hmin : ∀ t, 0 < t → t < s → ¬ A f b p t) : ∀ q', 0 < q' → DE f q' → s ≤ q' := by
  intro q hq hq'
  have ge : DE f (Nat.gcd p q) := DE.gcd p q ⟨b, h⟩ hq'
  have gp : 0 < Nat.gcd p q := Nat.gcd_pos_of_pos_left _ hp
  have gq : Nat.gcd p q ≤ q := Nat.le_of_dvd hq (Nat.gcd_dvd_right p q)
  have gd : p % Nat.gcd p q = 0 := Nat.mod_eq_zero_of_dvd (Nat.gcd_dvd_left p q)
  by_cases l : Nat.gcd p q < s
  · exact absurd (A.of_dp gd (h.pull hp ge)) (hmin _ gp l)
  · omega
/-- what a right step rises by -/
theorem rise_of {f : Nat → Int} {b p s : Nat} {g : Int} (hs : 0 < s) (hsp : s ≤ p) (h : QP f p g b) (hd : p % s = 0) (ds : DP f s b) :
    g * s = (f (b + s) - f b) * p := by
  have q := ds.qp
  have m := q.mul (j := b) (by omega) (p / s)
  have hm : p / s * s = p := by
    have := Nat.mod_add_div p s
    rw [hd, Nat.mul_comm] at this
    omega
  rw [hm] at m
  have hh := h b (by omega)
  have e : g = ((p / s : Nat) : Int) * (f (b + s) - f b) := by omega
  have hm' : ((p / s : Nat) : Int) * (s : Int) = (p : Int) := by
    rw [← Int.natCast_mul, hm]
  calc g * s = ((p / s : Nat) : Int) * (f (b + s) - f b) * s := by rw [← e]
    _ = (f (b + s) - f b) * (((p / s : Nat) : Int) * s) := by rw [Int.mul_comm ((p / s : Nat) : Int), Int.mul_assoc]
    _ = _ := by rw [hm']
/-- what the law asks of a part: the values of two periods -/
def B (f : Nat → Int) (b p s : Nat) (m : Int) : Prop := ∀ k, s ≤ k → k < 2 * p → f (b + k) = f (b + (k - s)) + m
theorem B.a {f : Nat → Int} {b p s : Nat} {m : Int} (hs : 0 < s) (hd : p % s = 0) (h : B f b p s m) : A f b p s := by
  refine ⟨hd, fun i hi => ?_⟩
  have h1 := h (i + s) (by omega) (by omega)
  have h2 := h (i + s + 1) (by omega) (by omega)
  have e1 : i + s - s = i := by omega
  have e2 : i + s + 1 - s = i + 1 := by omega
  rw [e1] at h1
  rw [e2] at h2
  have e3 : b + (i + s) = b + i + s := by omega
  have e4 : b + (i + s + 1) = b + i + s + 1 := by omega
  have e5 : b + (i + 1) = b + i + 1 := by omega
  rw [e3] at h1
  rw [e4, e5] at h2
  unfold D
  omega
theorem B.of_qp {f : Nat → Int} {b p s : Nat} {m : Int} (h : QP f s m b) : B f b p s m := by
  intro k hk _
  have := h (b + (k - s)) (by omega)
  have e : b + (k - s) + s = b + k := by omega
  rw [e] at this
  exact this
/-- going down -/
def down (P : Nat → Bool) : Nat → Nat
  | 0 => 0
  | b + 1 => if P b then down P b else b + 1
theorem down_le (P : Nat → Bool) : ∀ b, down P b ≤ b
  | 0 => Nat.le_refl _
  | b + 1 => by
    unfold down
    split
    · exact Nat.le_succ_of_le (down_le P b)
    · exact Nat.le_refl _
theorem down_all (P : Nat → Bool) : ∀ b j, down P b ≤ j → j < b → P j = true
  | 0, j, _, h => absurd h (Nat.not_lt_zero j)
  | b + 1, j, h1, h2 => by
    unfold down at h1
    split at h1
    · rename_i hb
      by_cases e : j = b
      · rw [e]; exact hb
      · exact down_all P b j h1 (by omega)
    · omega
theorem down_low (P : Nat → Bool) : ∀ b, down P b = 0 ∨ P (down P b - 1) = false
  | 0 => .inl rfl
  | b + 1 => by
    unfold down
    split
    · exact down_low P b
    · rename_i hb
      exact .inr (by simpa using hb)
theorem form_of {f : Nat → Int} {b p s : Nat} {g : Int} (hp : 0 < p) (h : QP f p g b) (hs : 0 < s) (hsp : s ≤ p) (hA : A f b p s) (hmin : ∀ t, 0 < t → t < s → ¬ A f b p t) :
    IsForm f s (f (b + s) - f b) (down (fun j => decide (f (j + s) = f j + (f (b + s) - f b))) b) := by
  have ds := hA.dp hs hsp h.dp
  refine ⟨hs, fun j hj => ?_, least_of hp h.dp hs hsp hmin, ?_⟩
  · by_cases l : j < b
    · exact of_decide_eq_true (down_all _ b j hj l)
    · exact ds.qp j (by omega)
  · rcases down_low (fun j => decide (f (j + s) = f j + (f (b + s) - f b))) b with z | z
    · exact .inl z
    · exact .inr (of_decide_eq_false z)
/-- the period itself is right -/
theorem A.self {f : Nat → Int} {b p : Nat} : A f b p p := ⟨Nat.mod_self p, fun i hi => by omega⟩
/-- the row's value function -/
def at_ (s : List Int) (p : Nat) (g : Int) (b : Nat) : Int :=
  if b < s.length then s.getD b 0 else s.getD (b - ((b - s.length) / p + 1) * p) 0 + ((b - s.length) / p + 1 : Nat) * g
theorem at_qp {s : List Int} {p : Nat} {g : Int} (hp : 0 < p) (hn : p ≤ s.length) : QP (at_ s p g) p g (s.length - p) := by
  intro j hj
  unfold at_
  by_cases l : j < s.length
  · have e0 : (j + p - s.length) / p = 0 := Nat.div_eq_of_lt (by omega)
    rw [if_pos l, if_neg (by omega), e0]
    have e1 : j + p - (0 + 1) * p = j := by omega
    rw [e1]
    simp
  · have e0 : (j + p - s.length) / p = (j - s.length) / p + 1 := by
      have : j + p - s.length = (j - s.length) + p := by omega
      rw [this, Nat.add_div_right _ hp]
    rw [if_neg l, if_neg (by omega), e0]
    have e1 : j + p - ((j - s.length) / p + 1 + 1) * p = j - ((j - s.length) / p + 1) * p := by
      rw [Nat.succ_mul ((j - s.length) / p + 1)]
      omega
    rw [e1]
    have : (((j - s.length) / p + 1 + 1 : Nat) : Int) * g = (((j - s.length) / p + 1 : Nat) : Int) * g + g := by
      rw [Int.natCast_add, Int.add_mul]; simp
    omega
theorem at_low {s : List Int} {p : Nat} {g : Int} {b : Nat} (h : b < s.length) : at_ s p g b = s.getD b 0 := if_pos h
end MF
end

section
set_option linter.all false
/-! least steps: all that is asked of a step is asked of a part of the period that the growth allows -/
namespace MF
theorem A.dvd {f : Nat → Int} {b p s : Nat} {g : Int} (hp : 0 < p) (h : QP f p g b) (hs : 0 < s) (hsp : s ≤ p) (a : A f b p s) : p / Nat.gcd p g.natAbs ∣ s := by
  have ds := a.dp hs hsp h.dp
  have r := rise_of hs hsp h a.1 ds
  have d : (p : Int) ∣ g * s := ⟨f (b + s) - f b, by rw [r, Int.mul_comm]⟩
  have d2 : p ∣ g.natAbs * s := by
    have := Int.natAbs_dvd_natAbs.mpr d
    rw [Int.natAbs_mul] at this
    exact this
  have hG : 0 < Nat.gcd p g.natAbs := Nat.gcd_pos_of_pos_left _ hp
  have c := Nat.coprime_div_gcd_div_gcd hG
  refine c.dvd_of_dvd_mul_left ?_
  obtain ⟨k, hk⟩ := d2
  refine ⟨k, ?_⟩
  refine Nat.eq_of_mul_eq_mul_left hG ?_
  have e1 : Nat.gcd p g.natAbs * (p / Nat.gcd p g.natAbs) = p := Nat.mul_div_cancel' (Nat.gcd_dvd_left ..)
  have e2 : Nat.gcd p g.natAbs * (g.natAbs / Nat.gcd p g.natAbs) = g.natAbs := Nat.mul_div_cancel' (Nat.gcd_dvd_right ..)
  rw [← Nat.mul_assoc, ← Nat.mul_assoc, e1, e2, hk]
theorem step_pos {p g : Nat} (hp : 0 < p) : 0 < p / Nat.gcd p g := Nat.div_pos (Nat.le_of_dvd hp (Nat.gcd_dvd_left ..)) (Nat.gcd_pos_of_pos_left _ hp)
theorem step_le {p g : Nat} : p / Nat.gcd p g ≤ p := Nat.div_le_self ..
end MF
end

section
set_option Elab.async false
set_option linter.all false
set_option maxRecDepth 100000
set_option maxHeartbeats 4000000
namespace WW
open PySem L2 WO WG RZ WQ
abbrev sNum : Stmt := top 7
abbrev sAre : Stmt := top 8
abbrev sFrom : Stmt := top 9
abbrev sIsList : Stmt := top 10
abbrev sCurve : Stmt := top 17
abbrev sAbove : Stmt := top 18
abbrev sStart : Stmt := top 19
abbrev sFalls : Stmt := top 20
abbrev sForm : Stmt := top 21
abbrev sStep : Stmt := top 22
theorem same_new {H : Hp} {p : Addr} {o : HO} (h : H p = none) : Same H (upd H p o) := fun b u e => by rw [upd_ne (ne_of_none e h)]; exact e
theorem alloc {H H' : Hp} {p : Addr} {o : HO} (e : upd H p o = H') (h : H p = none) : Same H H' ∧ H' p = some o := by
  subst e
  exact ⟨same_new h, upd_same⟩
theorem seqT {K : PySem.W.Frag} {H H' : Hp} {a : Addr} {xs : List V} (s : Same H H') (h : SqT K H a xs) : SqT K H' a xs := SqT.ext h s
theorem tyX_seqL {K : PySem.W.Frag} {H : Hp} {a : Addr} {xs : List V} (h : SqL K H a xs) : TyX K H (.ref a) (.type "list") := by
  rcases h with (h | ⟨o, h⟩) | ⟨o, its, n, h, hc, -⟩
  · exact .base (.lst h)
  · exact .base (.frz h)
  · exact .kList h hc
theorem tyX_seqT {K : PySem.W.Frag} {H : Hp} {a : Addr} {xs : List V} (h : SqT K H a xs) : TyX K H (.ref a) (.type "tuple") := by
  rcases h with (h | ⟨o, h⟩) | ⟨o, its, n, h, hc, -⟩
  · exact .base (.tup h)
  · exact .fTuple h
  · exact .kTuple h hc
theorem bT {p : Prop} [Decidable p] (h : p) : V.bl (decide p) = V.bl true := by rw [decide_eq_true h]
theorem bF {p : Prop} [Decidable p] (h : ¬ p) : V.bl (decide p) = V.bl false := by rw [decide_eq_false h]
theorem all_rep (n : Nat) : (List.replicate n true).all id = true := by
  induction n with
  | zero => rfl
  | succ n ih => rw [List.replicate_succ, List.all_cons, ih]; rfl
theorem any_rep (n : Nat) : (List.replicate n false).any id = false := by
  induction n with
  | zero => rfl
  | succ n ih => rw [List.replicate_succ, List.any_cons, ih]; rfl
def reps (b : Bool) (n : Nat) : List V := (List.replicate n b).map V.bl
theorem reps_snoc (b : Bool) (n : Nat) : reps b n ++ [.bl b] = reps b (n + 1) := by
  unfold reps
  rw [List.replicate_succ', List.map_append]
  rfl
theorem reps_len (b : Bool) (n : Nat) : (reps b n).length = n := by unfold reps; rw [List.length_map, List.length_replicate]
theorem cut1 {xs : List V} (h : 1 ≤ xs.length) : cutV xs (some 1) none = xs.drop 1 := by
  have e : HT.sIx xs.length 0 (some 1) = 1 := by
    unfold HT.sIx
    dsimp only
    rw [if_neg (by decide)]
    show min 1 xs.length = 1
    omega
  unfold cutV
  rw [e]
  show (xs.drop 1).take (xs.length - 1) = _
  exact List.take_of_length_le (by rw [List.length_drop]; exact Nat.le_refl _)
/-! ### flat values and their kinds -/
def numV : V → Bool
  | .int _ => true
  | _ => false
/-- x's kind, as the isinstance of int and of bool sees it: b says whether it is a number -/
def NumT (K : PySem.W.Frag) (H : Hp) (x : V) (b : Bool) : Prop :=
  ∃ (t : Value) (b1 b2 : Bool), TyX K H x t ∧ PySem.W.kitOne K t (.type "int") = some b1 ∧ PySem.W.kitOne K t (.type "bool") = some b2 ∧ (b1 && !b2) = b
theorem numT_flat {K : PySem.W.Frag} {H : Hp} {x : V} (h : flatV x = true) : NumT K H x (numV x) := by
  cases x with
  | non => exact ⟨.type "NoneType", false, false, .base .non, kit_ty (by decide +kernel), kit_ty (by decide +kernel), rfl⟩
  | bl b => exact ⟨.type "bool", true, true, .base (.bl b), kit_ty (by decide +kernel), kit_ty (by decide +kernel), rfl⟩
  | int i => exact ⟨.type "int", true, false, .base (.int i), kit_ty (by decide +kernel), kit_ty (by decide +kernel), rfl⟩
  | str z => exact ⟨.type "str", false, false, .base (.str z), kit_ty (by decide +kernel), kit_ty (by decide +kernel), rfl⟩
  | byt _ => cases h
  | flt _ => cases h
  | ref _ => cases h
  | ty _ => cases h
theorem numT_list {K : PySem.W.Frag} {H : Hp} {a : Addr} {xs : List V} (h : SqL K H a xs) : NumT K H (.ref a) false :=
  ⟨.type "list", false, false, tyX_seqL h, kit_ty (by decide +kernel), kit_ty (by decide +kernel), rfl⟩
theorem numT_tup {K : PySem.W.Frag} {H : Hp} {a : Addr} {xs : List V} (h : SqT K H a xs) : NumT K H (.ref a) false :=
  ⟨.type "tuple", false, false, tyX_seqT h, kit_ty (by decide +kernel), kit_ty (by decide +kernel), rfl⟩
theorem numT_dict {K : PySem.W.Frag} {H : Hp} {a : Addr} {kvs : List (Key × V)} (h : H a = some (.dK kvs)) : NumT K H (.ref a) false :=
  ⟨.type "dict", false, false, .base (.dK h), kit_ty (by decide +kernel), kit_ty (by decide +kernel), rfl⟩
structure CurG (mg : Str → Option Value) : Prop where
  isi : mg "isinstance" = none
  int : mg "int" = none
  bool : mg "bool" = none
  list : mg "list" = none
  tuple : mg "tuple" = none
  len : mg "len" = none
  all : mg "all" = none
  sorted : mg "sorted" = none
  zip : mg "zip" = none
  min : mg "min" = none
  range : mg "range" = none
  type : mg "type" = none
  most : ∃ t, mg "MOST" = some (.int 1000000000 t)
  given : ∃ t, mg "MOST_GIVEN" = some (.int 400 t)
  gcd : mg "gcd" = some (.builtin "math.gcd")
section
variable {P : Program} {w : World} {K : PySem.W.Frag} {mg : Str → Option Value} {base : Heap}
def spNum (K : PySem.W.Frag) : Sp := fun vs H Q _ => ∃ (x : V) (b : Bool), vs = [x] ∧ NumT K H x b ∧ Q (.bl b) H
theorem scNum : FnScope ["thing"] ["thing"] (defScope sNum) := ⟨rfl, rfl, rfl, by decide +kernel, rfl, by decide +kernel, by decide +kernel⟩
theorem ok_num {f : Addr} {fd : FuncData} (F : Fun K "is_number" "is_number" sNum f fd) (T : CurG mg) : FnOk P w K mg base CX0 1 f fd ["thing"] (spNum K) := by
  refine F.ok scNum (fun vs H Q E h => ?_) (fun cdv A outer s H vs Q E hr h => ?_)
  · obtain ⟨x, b, rfl, _⟩ := h
    rfl
  · obtain ⟨x, b, rfl, ⟨t, b1, b2, ty, k1, k2, e⟩, k⟩ := h
    refine ⟨_, pss_one (ps_ret (pe_and (pe_callB call_isi (by rfl) T.isi (by decide +kernel) (pa_cons (pv 0) (pa_cons (pe_bltn (v := .ty "int") (by rfl) T.int (by decide +kernel) rfl) pa_nil)))
      (pe_one (pe_not (pe_callB call_isi (by rfl) T.isi (by decide +kernel) (pa_cons (pv 0) (pa_cons (pe_bltn (v := .ty "bool") (by rfl) T.bool (by decide +kernel) rfl) pa_nil))))))), ?_⟩
    refine ⟨_, rfl, x, .ty "int", t, .type "int", b1, rfl, .ty _, ty, k1, b1, rfl, ?_⟩
    subst e
    cases b1 with
    | false => exact iteF k
    | true => exact iteT ⟨_, rfl, x, .ty "bool", t, .type "bool", b2, rfl, .ty _, ty, k2, b2, rfl, k⟩
def spFrom (K : PySem.W.Frag) : Sp := fun vs H Q _ => ∃ x y z : V, vs = [x, y, z] ∧ ((∃ i a b : Int, x = .int i ∧ y = .int a ∧ z = .int b ∧ Q (.bl (decide (a ≤ i ∧ i ≤ b))) H) ∨ (NumT K H x false ∧ Q (.bl false) H))
theorem scFrom : FnScope ["thing", "low", "high"] ["thing", "low", "high"] (defScope sFrom) := ⟨rfl, rfl, rfl, by decide +kernel, rfl, by decide +kernel, by decide +kernel⟩
theorem ok_from {f g : Addr} {fd gd : FuncData} (F : Fun K "is_from" "is_from" sFrom f fd) (G : FnOk P w K mg base CX0 1 g gd ["thing"] (spNum K)) (kG : PySem.W.keepIn K (.ref g) = true) (bG : Binds K gd ["thing"] []) (mG : mg "is_number" = some (.ref g)) :
    FnOk P w K mg base CX0 2 f fd ["thing", "low", "high"] (spFrom K) := by
  refine F.ok scFrom (fun vs H Q E h => ?_) (fun cdv A outer s H vs Q E hr h => ?_)
  · obtain ⟨x, y, z, rfl, _⟩ := h
    rfl
  · obtain ⟨x, y, z, rfl, h⟩ := h
    refine ⟨_, pss_one (ps_ret (pe_and (pe_call G hr rfl mG kG bG .nil pass0 (pa_cons (pv 0) pa_nil))
      (pe_one (pe_chain op_le op_le (pv 1) (pv 0) (pv 2))))), ?_⟩
    rcases h with ⟨i, a, b, rfl, rfl, rfl, k⟩ | ⟨n, k⟩
    · refine ⟨_, rfl, .int i, true, rfl, numT_flat rfl, true, rfl, ?_⟩
      rw [if_pos rfl]
      refine ⟨_, rfl, _, rfl, _, _, rfl, rfl, _, rfl, ?_⟩
      by_cases h1 : a ≤ i
      · rw [decide_eq_true h1, if_pos rfl]
        refine ⟨_, rfl, _, _, rfl, rfl, ?_⟩
        have e : decide (i ≤ b) = decide (a ≤ i ∧ i ≤ b) := decide_eq_decide.mpr ⟨fun h => ⟨h1, h⟩, fun h => h.2⟩
        show Q (.bl (decide (i ≤ b))) H
        rw [e]
        exact k
      · rw [decide_eq_false h1, if_neg Bool.false_ne_true]
        have e : decide (a ≤ i ∧ i ≤ b) = false := decide_eq_false fun h => h1 h.1
        rw [e] at k
        exact k
    · refine ⟨_, rfl, x, false, rfl, n, false, rfl, ?_⟩
      rw [if_neg Bool.false_ne_true]
      exact k
def spAbove (K : PySem.W.Frag) : Sp := fun vs H Q _ => ∃ x y : V, vs = [x, y] ∧ ((x = .non ∧ Q (.bl (!decide (y = .non))) H) ∨ (∃ i, x = .int i ∧ ((y = .non ∧ Q (.bl false) H) ∨ ∃ j, y = .int j ∧ Q (.bl (decide (j < i))) H)))
theorem scAbove : FnScope ["one", "two"] ["one", "two"] (defScope sAbove) := ⟨rfl, rfl, rfl, by decide +kernel, rfl, by decide +kernel, by decide +kernel⟩
theorem ok_above {f : Addr} {fd : FuncData} (F : Fun K "is_above" "is_above" sAbove f fd) : FnOk P w K mg base CX0 1 f fd ["one", "two"] (spAbove K) := by
  refine F.ok scAbove (fun vs H Q E h => ?_) (fun cdv A outer s H vs Q E hr h => ?_)
  · obtain ⟨x, y, rfl, _⟩ := h
    rfl
  · obtain ⟨x, y, rfl, h⟩ := h
    refine ⟨_, pss_cons (ps_if (PW.pt (pw_or (pt_cmpR op_isN (pv 0) pe_non (nomark _)) (pw_or1 (pt_cmpR op_isN (pv 1) pe_non (nomark _)))))
        (pss_one (ps_ret (pe_and (pe_cmpR op_isN (pv 0) pe_non (nomark _)) (pe_one (pe_cmpR op_notN (pv 1) pe_non (nomark _)))))) pss_nil)
      (pss_one (ps_ret (pe_cmpR op_gt (pv 0) (pv 1) (nomark _)))), ?_⟩
    rcases h with ⟨rfl, k⟩ | ⟨i, rfl, ⟨rfl, k⟩ | ⟨j, rfl, k⟩⟩
    · refine ⟨_, rfl, rfl, true, rfl, iteT ⟨_, rfl, rfl, true, rfl, iteT ⟨_, rfl, rfl, k⟩⟩⟩
    · refine ⟨_, rfl, rfl, false, rfl, iteF ⟨_, rfl, rfl, true, rfl, iteT ⟨_, rfl, rfl, false, rfl, iteF k⟩⟩⟩
    · refine ⟨_, rfl, rfl, false, rfl, iteF ⟨_, rfl, rfl, false, rfl, iteF ⟨_, rfl, _, rfl, _, _, rfl, rfl, k⟩⟩⟩
theorem above_no {K : PySem.W.Frag} {x y : V} {H : Hp} {Q : VK} {E : XK} (h : (∃ i j : Int, x = .int i ∧ y = .int j ∧ i ≤ j) ∨ ((∃ i : Int, x = .int i) ∧ y = .non) ∨ (x = .non ∧ y = .non)) (k : Q (.bl false) H) : spAbove K [x, y] H Q E := by
  rcases h with ⟨i, j, rfl, rfl, l⟩ | ⟨⟨i, rfl⟩, rfl⟩ | ⟨rfl, rfl⟩
  · refine ⟨_, _, rfl, .inr ⟨i, rfl, .inr ⟨j, rfl, ?_⟩⟩⟩
    rw [decide_eq_false (by omega)]
    exact k
  · exact ⟨_, _, rfl, .inr ⟨i, rfl, .inl ⟨rfl, k⟩⟩⟩
  · exact ⟨_, _, rfl, .inl ⟨rfl, k⟩⟩
/-- x is a list, a tuple, or something else -/
def ListT (K : PySem.W.Frag) (H : Hp) (x : V) (b : Bool) : Prop :=
  ∃ t : Value, TyX K H x t ∧ ((t = .type "list" ∧ b = true) ∨ (t = .type "tuple" ∧ b = true) ∨ (PySem.W.kitOne K t (.type "list") = some false ∧ PySem.W.kitOne K t (.type "tuple") = some false ∧ b = false))
theorem listT_flat {H : Hp} {x : V} (h : flatV x = true) : ListT K H x false := by
  cases x with
  | non => exact ⟨.type "NoneType", .base .non, .inr (.inr ⟨kit_ty (by decide +kernel), kit_ty (by decide +kernel), rfl⟩)⟩
  | bl b => exact ⟨.type "bool", .base (.bl b), .inr (.inr ⟨kit_ty (by decide +kernel), kit_ty (by decide +kernel), rfl⟩)⟩
  | int i => exact ⟨.type "int", .base (.int i), .inr (.inr ⟨kit_ty (by decide +kernel), kit_ty (by decide +kernel), rfl⟩)⟩
  | str z => exact ⟨.type "str", .base (.str z), .inr (.inr ⟨kit_ty (by decide +kernel), kit_ty (by decide +kernel), rfl⟩)⟩
  | byt _ => cases h
  | flt _ => cases h
  | ref _ => cases h
  | ty _ => cases h
theorem listT_dict {H : Hp} {a : Addr} {kvs : List (Key × V)} (h : H a = some (.dK kvs)) : ListT K H (.ref a) false :=
  ⟨.type "dict", .base (.dK h), .inr (.inr ⟨kit_ty (by decide +kernel), kit_ty (by decide +kernel), rfl⟩)⟩
theorem listT_seq {H : Hp} {a : Addr} {xs : List V} (h : SeqA K H a xs) : ListT K H (.ref a) true := by
  rcases h with h | h
  · exact ⟨_, tyX_seqL h, .inl ⟨rfl, rfl⟩⟩
  · exact ⟨_, tyX_seqT h, .inr (.inl ⟨rfl, rfl⟩)⟩
end
theorem TyX.same' {K : PySem.W.Frag} {H H' : Hp} {x : V} {t : Value} (s : Same H H') (h : TyX K H x t) : TyX K H' x t := by
  cases h with
  | base h =>
    cases h with
    | non => exact .base .non
    | bl b => exact .base (.bl b)
    | int i => exact .base (.int i)
    | str z => exact .base (.str z)
    | flt z => exact .base (.flt z)
    | lst e => exact .base (.lst (s _ _ e))
    | frz e => exact .base (.frz (s _ _ e))
    | tup e => exact .base (.tup (s _ _ e))
    | dK e => exact .base (.dK (s _ _ e))
    | dT e => exact .base (.dT (s _ _ e))
    | ins e cl ha hn htk hm => exact .base (.ins (s _ _ e) cl ha hn htk hm)
  | byt b => exact .byt b
  | set e => exact .set (s _ _ e)
  | kList e c => exact .kList e c
  | kTuple e c => exact .kTuple e c
  | kDict e c => exact .kDict e c
  | fTuple e => exact .fTuple (s _ _ e)
  | fDict e => exact .fDict (s _ _ e)
theorem ListT.same {K : PySem.W.Frag} {H H' : Hp} {x : V} {b : Bool} (h : ListT K H x b) (s : Same H H') : ListT K H' x b := by
  obtain ⟨t, h1, h2⟩ := h
  exact ⟨t, TyX.same' s h1, h2⟩
theorem NumT.same {K : PySem.W.Frag} {H H' : Hp} {x : V} {b : Bool} (h : NumT K H x b) (s : Same H H') : NumT K H' x b := by
  obtain ⟨t, b1, b2, h1, h2⟩ := h
  exact ⟨t, b1, b2, TyX.same' s h1, h2⟩
section
variable {P : Program} {w : World} {K : PySem.W.Frag} {mg : Str → Option Value} {base : Heap}
def spIsList (K : PySem.W.Frag) : Sp := fun vs H Q _ => ∃ (x : V) (b : Bool), vs = [x] ∧ ListT K H x b ∧ ∀ H', Same H H' → Q (.bl b) H'
theorem scIsList : FnScope ["thing"] ["thing"] (defScope sIsList) := ⟨rfl, rfl, rfl, by decide +kernel, rfl, by decide +kernel, by decide +kernel⟩
theorem ok_isList {f : Addr} {fd : FuncData} (F : Fun K "is_list" "is_list" sIsList f fd) (T : CurG mg) : FnOk P w K mg base CX0 1 f fd ["thing"] (spIsList K) := by
  refine F.ok scIsList (fun vs H Q E h => ?_) (fun cdv A outer s H vs Q E hr h => ?_)
  · obtain ⟨x, b, rfl, _⟩ := h
    rfl
  · obtain ⟨x, b, rfl, h, k⟩ := h
    refine ⟨_, pss_one (ps_ret (pe_callB call_isiT (by rfl) T.isi (by decide +kernel) (pa_cons (pv 0) (pa_cons (pe_tup (pa_cons (pe_bltn (v := .ty "list") (by rfl) T.list (by decide +kernel) rfl)
      (pa_cons (pe_bltn (v := .ty "tuple") (by rfl) T.tuple (by decide +kernel) rfl) pa_nil))) pa_nil)))), ?_⟩
    refine ⟨_, rfl, (by show 2 ≤ sizeLine; decide), fun t ht => ?_⟩
    have s1 := same_new (o := .tup [.ty "list", .ty "tuple"]) ht
    obtain ⟨t', ty, c⟩ := h.same s1
    rcases c with ⟨rfl, rfl⟩ | ⟨rfl, rfl⟩ | ⟨c1, c2, rfl⟩
    · exact ⟨_, t, _, _, [.type "list", .type "tuple"], true, rfl, upd_same, .cons (.ty _) (.cons (.ty _) .nil), ty,
        kitAny_cons (kit_ty (r := true) (by decide +kernel)) (fun z => by cases z) (fun _ => rfl), k _ s1⟩
    · exact ⟨_, t, _, _, [.type "list", .type "tuple"], true, rfl, upd_same, .cons (.ty _) (.cons (.ty _) .nil), ty,
        kitAny_cons (kit_ty (r := false) (by decide +kernel)) (fun _ => kitAny_cons (r := true) (kit_ty (r := true) (by decide +kernel)) (fun z => by cases z) (fun _ => rfl)) (fun z => by cases z), k _ s1⟩
    · exact ⟨_, t, _, _, [.type "list", .type "tuple"], false, rfl, upd_same, .cons (.ty _) (.cons (.ty _) .nil), ty,
        kitAny_cons c1 (fun _ => kitAny_cons (r := false) c2 (fun _ => rfl) (fun z => by cases z)) (fun z => by cases z), k _ s1⟩
end
end WW
end

section
set_option Elab.async false
set_option linter.all false
set_option maxRecDepth 100000
set_option maxHeartbeats 4000000
namespace WW
open PySem L2 WO WG RZ WQ
def okE (x : V) : Prop := x = .non ∨ ∃ i : Int, x = .int i ∧ 0 ≤ i ∧ i ≤ 1000000000
def notAb (x y : V) : Prop := (∃ i j : Int, x = .int i ∧ y = .int j ∧ i ≤ j) ∨ ((∃ i : Int, x = .int i) ∧ y = .non) ∨ (x = .non ∧ y = .non)
structure StartOk (xs : List V) : Prop where
  l1 : 1 ≤ xs.length
  l2 : xs.length ≤ 400
  el : ∀ (i : Nat) (x : V), xs[i]? = some x → okE x
  asc : ∀ (i : Nat) (x y : V), xs[i]? = some x → xs[i + 1]? = some y → notAb x y
/-! ### rows of numbers, then Nones -/
def isNon : V → Bool
  | .non => true
  | _ => false
def nums (xs : List V) : List V := xs.filter fun v => !isNon v
theorem nums_snoc (xs : List V) (x : V) : nums (xs ++ [x]) = nums xs ++ (if isNon x then [] else [x]) := by
  unfold nums
  rw [List.filter_append]
  cases h : isNon x <;> simp [List.filter, h]
theorem nums_le (xs : List V) : (nums xs).length ≤ xs.length := List.length_filter_le ..
theorem take_snoc {xs : List V} {i : Nat} {x : V} (h : xs[i]? = some x) : xs.take (i + 1) = xs.take i ++ [x] := by
  rw [List.take_add_one, h]
  rfl
theorem all_ints : ∀ {xs : List V}, xs.all numV = true → ∃ ns : List Int, xs = ns.map V.int
  | [], _ => ⟨[], rfl⟩
  | x :: r, h => by
    rw [List.all_cons, Bool.and_eq_true] at h
    obtain ⟨ns, e⟩ := all_ints h.2
    cases x with
    | int i => exact ⟨i :: ns, by rw [e]; rfl⟩
    | _ => cases h.1
theorem ints_all : ∀ (ns : List Int), (ns.map V.int).all numV = true
  | [] => rfl
  | i :: r => by rw [List.map_cons, List.all_cons, ints_all r]; rfl
theorem inV_non : ∀ {xs : List V}, xs.all flatV = true → inV .non xs = xs.any isNon
  | [], _ => rfl
  | x :: r, h => by
    rw [List.all_cons, Bool.and_eq_true] at h
    have e : inV .non (x :: r) = (eqV x .non || inV .non r) := rfl
    rw [e, inV_non h.2, List.any_cons]
    congr 1
    cases x <;> first | rfl | exact absurd h.1 Bool.false_ne_true
theorem nums_none : ∀ {xs : List V}, xs.any isNon = false → nums xs = xs
  | [], _ => rfl
  | x :: r, h => by
    rw [List.any_cons, Bool.or_eq_false_iff] at h
    unfold nums
    rw [List.filter_cons, h.1]
    show x :: nums r = x :: r
    rw [nums_none h.2]
theorem nums_all : ∀ {xs : List V}, nums xs = [] → xs = List.replicate xs.length V.non
  | [], _ => rfl
  | x :: r, h => by
    unfold nums at h
    rw [List.filter_cons] at h
    cases hx : isNon x with
    | false => rw [hx] at h; cases h
    | true =>
      rw [hx] at h
      have e := nums_all (xs := r) h
      cases x with
      | non => rw [List.length_cons, List.replicate_succ]; congr 1
      | _ => cases hx
theorem nums_app (xs ys : List V) : nums (xs ++ ys) = nums xs ++ nums ys := List.filter_append ..
/-- no None among the first so many: numbers first, Nones behind -/
theorem split_nums {xs : List V} (h : (xs.take (nums xs).length).any isNon = false) : xs = nums xs ++ List.replicate (xs.length - (nums xs).length) V.non := by
  have e : nums xs = nums (xs.take (nums xs).length) ++ nums (xs.drop (nums xs).length) := by
    rw [← nums_app, List.take_append_drop]
  have e1 := nums_none h
  have l := congrArg List.length e
  have lt : (xs.take (nums xs).length).length = (nums xs).length := by
    rw [List.length_take]
    exact Nat.min_eq_left (nums_le xs)
  rw [List.length_append, e1, lt] at l
  have z : nums (xs.drop (nums xs).length) = [] := List.eq_nil_of_length_eq_zero (by omega)
  have e2 := nums_all z
  rw [List.length_drop] at e2
  have e3 : xs.take (nums xs).length = nums xs := by
    rw [e1, z, List.append_nil] at e
    exact e.symm
  calc xs = xs.take (nums xs).length ++ xs.drop (nums xs).length := (List.take_append_drop ..).symm
    _ = _ := by rw [e3, e2]
theorem nums_row (ns : List Int) (k : Nat) : nums (ns.map V.int ++ List.replicate k V.non) = ns.map V.int := by
  rw [nums_app]
  have a : nums (ns.map V.int) = ns.map V.int := by
    refine nums_none ?_
    induction ns with
    | nil => rfl
    | cons i r ih => rw [List.map_cons, List.any_cons, ih]; rfl
  have b : nums (List.replicate k V.non) = [] := by
    induction k with
    | zero => rfl
    | succ k ih =>
      unfold nums at *
      rw [List.replicate_succ, List.filter_cons]
      exact ih
  rw [a, b, List.append_nil]
/-- a right start is of this form -/
theorem startOk_row : ∀ {xs : List V}, (∀ (i : Nat) (x : V), xs[i]? = some x → okE x) → (∀ (i : Nat) (x y : V), xs[i]? = some x → xs[i + 1]? = some y → notAb x y) →
    ∃ (ns : List Int) (k : Nat), xs = ns.map V.int ++ List.replicate k V.non ∧ ns.Pairwise (· ≤ ·) ∧ ∀ z ∈ ns, 0 ≤ z ∧ z ≤ 1000000000
  | [], _, _ => ⟨[], 0, rfl, .nil, fun z h => by cases h⟩
  | x :: r, h1, h2 => by
    obtain ⟨ns, k, e, p, b⟩ := startOk_row (xs := r) (fun i y hy => h1 (i + 1) y hy) (fun i y z hy hz => h2 (i + 1) y z hy hz)
    rcases h1 0 x rfl with rfl | ⟨i, rfl, i0, i1⟩
    · -- behind a None Nones alone
      have hr : ns = [] := by
        cases ns with
        | nil => rfl
        | cons z q =>
          subst e
          rcases h2 0 .non (.int z) rfl rfl with ⟨_, _, w, _⟩ | ⟨⟨_, w⟩, _⟩ | ⟨_, w⟩ <;> cases w
      subst hr
      exact ⟨[], k + 1, by rw [e]; rfl, .nil, fun z h => by cases h⟩
    · refine ⟨i :: ns, k, by rw [e]; rfl, ?_, ?_⟩
      · refine List.Pairwise.cons (fun z hz => ?_) p
        cases ns with
        | nil => cases hz
        | cons y q =>
          have hy : i ≤ y := by
            subst e
            rcases h2 0 (.int i) (.int y) rfl rfl with ⟨_, _, w1, w2, l⟩ | ⟨_, w⟩ | ⟨w, _⟩
            · cases w1; cases w2; exact l
            · cases w
            · cases w
          rcases List.mem_cons.mp hz with rfl | hz
          · exact hy
          · exact Int.le_trans hy ((List.pairwise_cons.mp p).1 z hz)
      · intro z hz
        rcases List.mem_cons.mp hz with rfl | hz
        · exact ⟨i0, i1⟩
        · exact b z hz
theorem row_startOk {ns : List Int} {k : Nat} (l1 : 1 ≤ ns.length + k) (l2 : ns.length + k ≤ 400) (p : ns.Pairwise (· ≤ ·)) (b : ∀ z ∈ ns, 0 ≤ z ∧ z ≤ 1000000000) :
    StartOk (ns.map V.int ++ List.replicate k V.non) := by
  have len : (ns.map V.int ++ List.replicate k V.non).length = ns.length + k := by rw [List.length_append, List.length_map, List.length_replicate]
  have lo : ∀ j, j < ns.length → (ns.map V.int ++ List.replicate k V.non)[j]? = some (.int (ns.getD j 0)) := fun j h => by
    rw [List.getElem?_append_left (by rw [List.length_map]; exact h), List.getElem?_map, List.getD_eq_getElem?_getD, List.getElem?_eq_getElem h]
    rfl
  have hi : ∀ j, ns.length ≤ j → j < ns.length + k → (ns.map V.int ++ List.replicate k V.non)[j]? = some .non := fun j h h' => by
    rw [List.getElem?_append_right (by rw [List.length_map]; exact h), List.length_map, List.getElem?_replicate, if_pos (by omega)]
  have out : ∀ {j x}, (ns.map V.int ++ List.replicate k V.non)[j]? = some x → j < ns.length + k := fun {j x} h => by
    have := (List.getElem?_eq_some_iff.mp h).1
    rwa [len] at this
  have inr : ∀ j, j < ns.length → 0 ≤ ns.getD j 0 ∧ ns.getD j 0 ≤ 1000000000 := fun j h => by
    rw [List.getD_eq_getElem?_getD, List.getElem?_eq_getElem h]
    exact b _ (List.getElem_mem h)
  refine ⟨by rw [len]; exact l1, by rw [len]; exact l2, fun j x h => ?_, fun j x y h h' => ?_⟩
  · by_cases c : j < ns.length
    · rw [lo j c] at h
      cases h
      exact .inr ⟨_, rfl, inr j c⟩
    · rw [hi j (by omega) (out h)] at h
      cases h
      exact .inl rfl
  · have o := out h'
    by_cases c : j + 1 < ns.length
    · rw [lo j (by omega)] at h
      rw [lo (j + 1) c] at h'
      cases h
      cases h'
      refine .inl ⟨_, _, rfl, rfl, ?_⟩
      rw [List.getD_eq_getElem?_getD, List.getD_eq_getElem?_getD, List.getElem?_eq_getElem (show j < ns.length by omega), List.getElem?_eq_getElem c]
      exact List.pairwise_iff_getElem.mp p j (j + 1) (by omega) c (by omega)
    · rw [hi (j + 1) (by omega) o] at h'
      cases h'
      by_cases c2 : j < ns.length
      · rw [lo j c2] at h
        cases h
        exact .inr (.inl ⟨⟨_, rfl⟩, rfl⟩)
      · rw [hi j (by omega) (by omega)] at h
        cases h
        exact .inr (.inr ⟨rfl, rfl⟩)
theorem row_inj : ∀ {ns ms : List Int} {j k : Nat}, ns.map V.int ++ List.replicate j V.non = ms.map V.int ++ List.replicate k V.non → ns = ms := fun {ns ms j k} e => by
  have z := congrArg nums e
  rw [nums_row, nums_row] at z
  exact (List.map_inj_right fun a b h => V.int.inj h).mp z
theorem sorted_same {ns ms : List Int} (h : ms.Perm ns) (s : ms.Pairwise (· ≤ ·)) : ms = ns ↔ ns.Pairwise (· ≤ ·) := by
  constructor
  · intro e
    rw [← e]
    exact s
  · intro p
    exact List.Perm.eq_of_pairwise (fun a b _ _ h1 h2 => Int.le_antisymm h1 h2) s p h
end WW
end

section
set_option Elab.async false
set_option linter.all false
set_option maxRecDepth 100000
set_option maxHeartbeats 4000000
namespace WW
open PySem L2 WO WG RZ WQ
section
variable {P : Program} {w : World} {K : PySem.W.Frag} {mg : Str → Option Value} {base : Heap}
theorem small1000' {n : Nat} (h : n < 1000) : n < sizeLine := small1000 (Nat.le_of_lt h)
theorem tyB_flat {H : Hp} {x : V} (h : flatV x = true) : ∃ T : String, TyB K H x T ∧ decide (T = "int") = numV x := by
  cases x with
  | non => exact ⟨_, .non, rfl⟩
  | bl b => exact ⟨_, .bl b, rfl⟩
  | int i => exact ⟨_, .int i, rfl⟩
  | str z => exact ⟨_, .str z, rfl⟩
  | _ => cases h
def spAre (K : PySem.W.Frag) : Sp := fun vs H Q _ => ∃ (a : Addr) (xs : List V), vs = [.ref a] ∧ SqL K H a xs ∧ xs.all flatV = true ∧ xs.length < sizeLine ∧ ∀ H', Same H H' → Q (.bl (xs.all numV)) H'
abbrev nAre : List Str := ["row", "one"]
theorem scAre : FnScope nAre ["row"] (defScope sAre) := ⟨rfl, rfl, rfl, by decide +kernel, rfl, by decide +kernel, by decide +kernel⟩
theorem ok_are {f g : Addr} {fd gd : FuncData} (F : Fun K "are_numbers" "are_numbers" sAre f fd) (T : CurG mg) (G : FnOk P w K mg base CX0 1 g gd ["thing"] (spNum K)) (kG : PySem.W.keepIn K (.ref g) = true) (bG : Binds K gd ["thing"] []) (mG : mg "is_number" = some (.ref g)) :
    FnOk P w K mg base CX0 2 f fd ["row"] (spAre K) := by
  refine F.ok scAre (fun vs H Q E h => ?_) (fun cdv A outer s H vs Q E hr h => ?_)
  · obtain ⟨a, xs, rfl, _⟩ := h
    rfl
  · obtain ⟨a, xs, rfl, h, fl, hl, k⟩ := h
    refine ⟨_, pss_one (ps_ret (pe_callB (cr_all rfl) (by rfl) T.all (by decide +kernel) (pa_cons
        (pe_lc (own := [("one", 1)]) (g := gName 1) rfl scAre.nd (pi_list (pv 0)) (blkOk_by (N := nAre) (sc := defScope sAre) (by decide +kernel)) (fun _ _ _ _ _ => pg_name (i := 1) scAre.nd rfl (Or.inl rfl))
          (fun _ _ _ _ _ => pts_one (pt_cmpR op_isNotTy (pe_callTy (T := "type") (r := rTyp K) call_type1 (by rfl) T.type (by decide +kernel) (pa_cons (pv 1) pa_nil)) (pe_bltn (v := .ty "int") (by rfl) T.int (by decide +kernel) rfl) (nomark _)))
          (fun _ _ _ _ _ => pe_call G hr rfl mG kG bG .nil pass0 (pa_cons (pv 1) pa_nil))) pa_nil))), ?_⟩
    refine ⟨_, rfl, a, rfl, ⟨_, h⟩, fun D hD => lc_list (K := K) (a := a) (xs := xs) (fun i H2 => ∃ n, H2 D = some (.lst (reps false n)) ∧ n ≤ i ∧ decide (n = 0) = (xs.take i).all numV ∧ Same H H2) ⟨0, upd_same, Nat.le_refl _, rfl, same_new hD⟩ (fun i H2 _ ⟨_, _, _, _, s2⟩ => Same.seq s2 h) ?_ ?_⟩
    · rintro i x H2 hx ⟨n, hd, ni, e, s2⟩
      have hi : i < xs.length := (List.getElem?_eq_some_iff.mp hx).1
      have fx : flatV x = true := (List.all_eq_true.mp fl) x (List.mem_of_getElem? hx)
      obtain ⟨T0, ty, e0⟩ := tyB_flat (K := K) (H := H2) fx
      have et : (xs.take (i + 1)).all numV = ((xs.take i).all numV && numV x) := by
        rw [take_snoc hx, List.all_append]
        simp
      refine ⟨rfl, _, rfl, x, T0, rfl, ty, T0, "int", rfl, rfl, !decide (T0 = "int"), rfl, ?_⟩
      rw [e0]
      cases hn : numV x with
      | true => exact iteF ⟨n, hd, by omega, by rw [et, hn, ← e, Bool.and_true], s2⟩
      | false =>
        have nt := numT_flat (K := K) (H := H2) fx
        rw [hn] at nt
        refine iteT ⟨_, rfl, x, false, rfl, nt, reps false n, hd, by rw [reps_len]; omega, n + 1, ?_, by omega, by rw [et, hn, Bool.and_false]; rfl, fun b o e => by rw [upd_ne (ne_of_none e hD)]; exact s2 b o e⟩
        rw [reps_snoc]
        exact upd_same
    · rintro H2 ⟨n, hd, ni, e, s2⟩
      rw [List.take_length] at e
      refine ⟨D, List.replicate n false, rfl, SqL.of hd, ?_⟩
      have e1 : (List.replicate n false).all id = xs.all numV := by
        rw [← e]
        cases n with
        | zero => rfl
        | succ n => rw [List.replicate_succ, List.all_cons]; rfl
      rw [e1]
      exact k _ s2
/-- what is no list, and rows of flat things -/
def spStart (K : PySem.W.Frag) : Sp := fun vs H Q _ => ∃ x : V, vs = [x] ∧ ((ListT K H x false ∧ ∀ H', Same H H' → Q (.bl false) H') ∨
  ∃ (a : Addr) (xs : List V), x = .ref a ∧ SeqA K H a xs ∧ xs.all flatV = true ∧ xs.length < sizeLine ∧ ∀ (b : Bool) H', Same H H' → (b = true ↔ StartOk xs) → Q (.bl b) H')
abbrev nStart : List Str := ["thing", "numbers", "one"]
theorem scStart : FnScope nStart ["thing"] (defScope sStart) := ⟨rfl, rfl, rfl, by decide +kernel, rfl, by decide +kernel, by decide +kernel⟩
theorem six0 (n d : Nat) : HT.sIx n d none = d := rfl
theorem cutR {xs : List V} {t : Nat} (h : t ≤ xs.length) : cutV xs none (some (t : Int)) = xs.take t := by
  have e : HT.sIx xs.length xs.length (some (t : Int)) = t := by
    unfold HT.sIx
    dsimp only
    rw [if_neg (by omega), Int.toNat_natCast]
    omega
  unfold cutV
  rw [e]
  rfl
theorem eqvAll_ints' : ∀ ns ms : List Int, PyData.eqvAll (ns.map PyData.int) (ms.map PyData.int) = decide (ns = ms) := eqvAll_ints
/-- behind the row of the numbers -/
theorem start_tail {xs : List V} {ns : List Int} (fl : xs.all flatV = true) (l1 : 1 ≤ xs.length) (l2 : xs.length ≤ 400) (hn : nums xs = ns.map V.int) (hq : (xs.take (nums xs).length).any isNon = false) :
    xs = ns.map V.int ++ List.replicate (xs.length - ns.length) V.non ∧ ns.length ≤ xs.length := by
  have e := split_nums hq
  have l := nums_le xs
  rw [hn, List.length_map] at e l
  exact ⟨e, l⟩
theorem any_ints (ns : List Int) : (ns.map V.int).any isNon = false := by
  induction ns with
  | nil => rfl
  | cons i r ih => rw [List.map_cons, List.any_cons, ih]; rfl
theorem startOk_no {xs : List V} (h : (nums xs).all numV = false ∨ (xs.take (nums xs).length).any isNon = true) : ¬ StartOk xs := fun S => by
  obtain ⟨ns, k, e, _, _⟩ := startOk_row S.el S.asc
  rw [e, nums_row] at h
  rcases h with h | h
  · rw [ints_all] at h
    cases h
  · rw [List.take_append_of_le_length (by rw [List.length_map]; exact Nat.le_refl _), List.take_of_length_le (Nat.le_refl _)] at h
    rw [any_ints] at h
    cases h
theorem startOk_iff {ns : List Int} {k : Nat} (l1 : 1 ≤ ns.length + k) (l2 : ns.length + k ≤ 400) : StartOk (ns.map V.int ++ List.replicate k V.non) ↔ ns.Pairwise (· ≤ ·) ∧ ∀ z ∈ ns, 0 ≤ z ∧ z ≤ 1000000000 := by
  constructor
  · intro S
    obtain ⟨ms, j, e, p, b⟩ := startOk_row S.el S.asc
    have := row_inj e
    subst this
    exact ⟨p, b⟩
  · rintro ⟨p, b⟩
    exact row_startOk l1 l2 p b
theorem bounds_iff {n0 : Int} {r : List Int} (p : (n0 :: r).Pairwise (· ≤ ·)) {z : Int} (hz : (n0 :: r)[(n0 :: r).length - 1]? = some z) : (∀ y ∈ n0 :: r, 0 ≤ y ∧ y ≤ 1000000000) ↔ 0 ≤ n0 ∧ z ≤ 1000000000 := by
  constructor
  · intro h
    exact ⟨(h n0 (List.mem_cons_self ..)).1, (h z (List.mem_of_getElem? hz)).2⟩
  · rintro ⟨h0, h1⟩ y hy
    obtain ⟨i, hi, e⟩ := List.mem_iff_getElem.mp hy
    have q := List.pairwise_iff_getElem.mp p
    have lz := (List.getElem?_eq_some_iff.mp hz).1
    have ez := (List.getElem?_eq_some_iff.mp hz).2
    constructor
    · by_cases c : i = 0
      · subst c
        rw [← e]
        exact h0
      · have := q 0 i (by omega) hi (by omega)
        rw [e] at this
        exact Int.le_trans h0 this
    · by_cases c : i = (n0 :: r).length - 1
      · subst c
        rw [e] at ez
        rw [ez]
        exact h1
      · have := q i ((n0 :: r).length - 1) hi lz (by omega)
        rw [e, ez] at this
        exact Int.le_trans this h1
end
end WW
end

section
set_option Elab.async false
set_option linter.all false
set_option maxRecDepth 100000
set_option maxHeartbeats 4000000
namespace WW
open PySem L2 WO WG RZ WQ
section
variable {P : Program} {w : World} {K : PySem.W.Frag} {mg : Str → Option Value} {base : Heap}
/-- what is found behind the row of the numbers -/
def Found (xs : List V) (H : Hp) (a : Addr) (σ : L2.St) (H' : Hp) : Prop :=
  ∃ (q : Addr) (v : Option V), σ = [some (.ref a), some (.ref q), v] ∧ H' q = some (.lst (nums xs)) ∧ Same H H'
theorem nums_step {xs : List V} {i : Nat} {x : V} (h : xs[i]? = some x) : nums (xs.take (i + 1)) = nums (xs.take i) ++ (if isNon x then [] else [x]) := by
  rw [take_snoc h, nums_snoc]
theorem isNon_dec (x : V) : decide (x = V.non) = isNon x := by cases x <;> first | rfl | exact decide_eq_false (fun z => by cases z)
theorem flat_sub {xs ys : List V} (h : xs.all flatV = true) (s : ∀ x ∈ ys, x ∈ xs) : ys.all flatV = true :=
  List.all_eq_true.mpr fun x hx => (List.all_eq_true.mp h) x (s x hx)
theorem last_get {xs : List V} {v : V} (h : xs[xs.length - 1]? = some v) : atI xs (-1) = some v := by
  have l : xs.length - 1 < xs.length := by
    rcases Nat.lt_or_ge (xs.length - 1) xs.length with q | q
    · exact q
    · rw [List.getElem?_eq_none q] at h; cases h
  unfold atI ixN
  rw [if_neg (by omega), if_pos (by omega)]
  rw [show ((-1 : Int) + (xs.length : Int)).toNat = xs.length - 1 by omega]
  exact h
theorem ok_start {f fL fN : Addr} {fd dL dN : FuncData} (F : Fun K "is_start" "is_start" sStart f fd) (T : CurG mg)
    (GL : FnOk P w K mg base CX0 1 fL dL ["thing"] (spIsList K)) (kL : PySem.W.keepIn K (.ref fL) = true) (bL : Binds K dL ["thing"] []) (mL : mg "is_list" = some (.ref fL))
    (GN : FnOk P w K mg base CX0 2 fN dN ["row"] (spAre K)) (kN : PySem.W.keepIn K (.ref fN) = true) (bN : Binds K dN ["row"] []) (mN : mg "are_numbers" = some (.ref fN)) :
    FnOk P w K mg base CX0 3 f fd ["thing"] (spStart K) := by
  refine F.ok scStart (fun vs H Q E h => ?_) (fun cdv A outer s H vs Q E hr h => ?_)
  · obtain ⟨x, rfl, _⟩ := h
    rfl
  · obtain ⟨x, rfl, h⟩ := h
    have hr1 := hr.mono (show 1 ≤ 2 by decide)
    have hu := hr.units
    obtain ⟨tm, mM⟩ := T.most
    obtain ⟨tg, mG⟩ := T.given
    rcases h with ⟨hx, k⟩ | ⟨a, xs, rfl, hsA, fl, hsz, k⟩
    · refine ⟨_, pss_cons (ps_if (PW.pt (pw_or (pt_not (pt_val (pe_call GL hr1 rfl mL kL bL .nil pass0 (pa_cons (pv 0) pa_nil))))
            (pw_or1 (pt_not (pt_chain op_le op_le pe_int (pe_callB call_len_seq (by rfl) T.len PySem.boot_len (pa_cons (pv 0) pa_nil)) (pe_glob (v := .int 400) rfl mG ⟨_, rfl⟩))))))
          (pss_one (ps_ret pe_bl)) pss_nil) pss_never, ?_⟩
      exact ⟨_, rfl, x, false, rfl, hx, fun H1 s1 => ⟨false, rfl, iteT (k H1 s1)⟩⟩
    rcases id hsA with hs | hs
    · refine ⟨_, pss_cons (ps_if (PW.pt (pw_or (pt_not (pt_val (pe_call GL hr1 rfl mL kL bL .nil pass0 (pa_cons (pv 0) pa_nil))))
            (pw_or1 (pt_not (pt_chain op_le op_le pe_int (pe_callB call_len_seq (by rfl) T.len PySem.boot_len (pa_cons (pv 0) pa_nil)) (pe_glob (v := .int 400) rfl mG ⟨_, rfl⟩))))))
          (pss_one (ps_ret pe_bl)) pss_nil)
        (C8.pss_cut (ps_setLc (i := 1) (own := [("one", 2)]) (g := gName 2) rfl scStart.nd rfl rfl (sw_true rfl rfl rfl (by decide +kernel)) (pi_list (pv 0)) (blkOk_by (N := nStart) (sc := defScope sStart) (by decide +kernel))
          (fun _ _ _ _ _ => pg_name (i := 2) scStart.nd rfl (Or.inl rfl)) (fun _ _ _ _ _ => pts_one (pt_cmpR op_notN (pv 2) pe_non (nomark _))) (fun _ _ _ _ _ => pv 2))
        (C8.pss_cut (ps_if (PW.pt (pw_or (pt_not (pt_val (pe_call GN hr rfl mN kN bN .nil pass0 (pa_cons (pv 1) pa_nil))))
            (pw_or (pt_cmpR op_in_seq pe_non (pe_slice sl_seqB (pv 0) po_none (po_some (pe_callB call_len_seq (by rfl) T.len PySem.boot_len (pa_cons (pv 1) pa_nil)))) (by rfl))
            (pw_or1 (pt_cmpR (op_neD hu) (pe_callB cr_sortedI (by rfl) T.sorted (by decide +kernel) (pa_cons (pv 1) pa_nil)) (pv 1) (nomark _))))))
          (pss_one (ps_ret pe_bl)) pss_nil)
        (pss_one (ps_ret (pe_or (pe_notT (pv 1)) (pe_one (pe_and (pe_cmpR op_ge (pe_ix ix_list (pv 1) pe_int (fun _ _ => rfl)) pe_int (nomark _))
          (pe_one (pe_cmpR op_le (pe_ix ix_list (pv 1) (pe_un un_neg pe_int) (fun _ _ => rfl)) (pe_glob (v := .int 1000000000) rfl mM ⟨_, rfl⟩) (nomark _)))))))))), ?_⟩
      refine ⟨_, rfl, .ref a, true, rfl, listT_seq hsA, fun H1 s1 => ⟨true, rfl, iteF ?_⟩⟩
      have h1 := Same.seq s1 hs
      refine ⟨_, rfl, a, xs, rfl, .inl h1, _, _, rfl, rfl, ?_⟩
      by_cases c1 : 1 ≤ xs.length
      · refine ⟨true, bT (by omega), iteT ⟨_, _, rfl, rfl, ?_⟩⟩
        by_cases c2 : xs.length ≤ 400
        · refine ⟨true, bT (by omega), iteF ?_⟩
          refine ⟨Found xs H a, ?_, ?_⟩
          · refine ⟨_, rfl, a, rfl, ⟨_, h1⟩, fun D hD => lc_list (K := K) (a := a) (xs := xs) (fun i H2 => H2 D = some (.lst (nums (xs.take i))) ∧ Same H1 H2) ⟨upd_same, same_new hD⟩ (fun i H2 _ ⟨_, s2⟩ => Same.seq s2 h1) ?_ ?_⟩
            · rintro i x H2 hx ⟨hd, s2⟩
              have hi : i < xs.length := (List.getElem?_eq_some_iff.mp hx).1
              refine ⟨rfl, _, rfl, rfl, !isNon x, by rw [isNon_dec], ?_⟩
              cases e : isNon x with
              | true => exact iteF ⟨by rw [nums_step hx, e]; simpa using hd, s2⟩
              | false =>
                refine iteT ⟨_, rfl, _, hd, ?_, ?_, fun b o z => by rw [upd_ne (ne_of_none z hD)]; exact s2 b o z⟩
                · have := nums_le (xs.take i)
                  rw [List.length_take] at this
                  omega
                · rw [nums_step hx, e]
                  exact upd_same
            · rintro H2 ⟨hd, s2⟩
              rw [List.take_length] at hd
              exact ⟨D, _, rfl, hd, Same.trans s1 s2⟩
          · rintro σ2 H2 ⟨q, v, rfl, hq, s2⟩
            have fln : (nums xs).all flatV = true := flat_sub fl fun y hy => (List.mem_filter.mp hy).1
            have ln := nums_le xs
            refine ⟨fun σ' H' => ∃ v, σ' = [some (.ref a), some (.ref q), v] ∧ H' q = some (.lst (nums xs)) ∧ Same H H' ∧ ∃ ns : List Int, nums xs = ns.map V.int ∧ (xs.take (nums xs).length).any isNon = false ∧ ns.Pairwise (· ≤ ·), ?_, ?_⟩
            · refine ⟨_, rfl, q, _, rfl, SqL.of hq, fln, by omega, fun H3 s3 => ⟨_, rfl, ?_⟩⟩
              have hq3 := s3 _ _ hq
              have sA := Same.trans s2 s3
              cases cN : (nums xs).all numV with
              | false => exact iteT (k false H3 sA ⟨fun z => (by cases z), fun S => absurd S (startOk_no (.inl cN))⟩)
              | true =>
                refine iteF ?_
                obtain ⟨ns, en⟩ := all_ints cN
                refine ⟨_, rfl, _, rfl, q, _, rfl, .inl (SqL.of hq3), _, rfl, a, xs, rfl, hsA.same sA, fun H4 z s4 hz _ => ?_⟩
                rw [cutR ln] at hz
                have flz : (xs.take (nums xs).length).all flatV = true := flat_sub fl fun y hy => List.mem_of_mem_take hy
                refine ⟨z, _, rfl, hz, rfl, flz, ?_⟩
                have sB := Same.trans sA s4
                cases cq : (xs.take (nums xs).length).any isNon with
                | true => exact ⟨true, by show V.bl (inV .non _) = _; rw [inV_non flz, cq], iteT (k false H4 sB ⟨fun z => (by cases z), fun S => absurd S (startOk_no (.inr cq))⟩)⟩
                | false =>
                  refine ⟨false, by show V.bl (inV .non _) = _; rw [inV_non flz, cq], iteF ?_⟩
                  have hq4 := s4 _ _ hq3
                  rw [en] at hq4
                  refine ⟨_, rfl, q, ns, rfl, SqL.of hq4, fun ms p pm srt hp => ?_⟩
                  generalize g5 : upd H4 p _ = H5
                  obtain ⟨s5, f5⟩ := alloc g5 hp
                  have hq5 := s5 _ _ hq4
                  refine ⟨_, rfl, .list (ms.map .int), .list (ns.map .int), .lst (SqL.of f5) (dpAll_int _), .lst (SqL.of hq5) (dpAll_int _), shaped_ints _, shaped_ints _, _, rfl, ?_⟩
                  rw [eqv_ints]
                  have sC := Same.trans sB s5
                  obtain ⟨ex, lx⟩ := start_tail fl c1 c2 en cq
                  have l3 : ns.length + (xs.length - ns.length) = xs.length := by omega
                  by_cases cs : ms = ns
                  · rw [decide_eq_true cs]
                    exact iteF ⟨_, rfl, by rw [en]; exact hq5, sC, ns, en, (by first | exact cq | rfl), (sorted_same pm srt).mp cs⟩
                  · rw [decide_eq_false cs]
                    refine iteT (k false H5 sC ⟨fun z => (by cases z), fun S => ?_⟩)
                    rw [ex, startOk_iff (by omega) (by omega)] at S
                    exact absurd ((sorted_same pm srt).mpr S.1) cs
            · rintro σ3 H3 ⟨v3, rfl, hq3, s3, ns, en, cq, srt⟩
              obtain ⟨ex, lx⟩ := start_tail fl c1 c2 en cq
              have iff := startOk_iff (ns := ns) (k := xs.length - ns.length) (by omega) (by omega)
              rw [← ex] at iff
              rw [en] at hq3
              refine ⟨_, rfl, !(ns.map V.int).isEmpty, .inl ⟨_, SqL.of hq3, rfl⟩, _, rfl, ?_⟩
              cases ns with
              | nil => exact iteT (k true H3 s3 ⟨fun _ => iff.mpr ⟨.nil, fun z h => by cases h⟩, fun _ => rfl⟩)
              | cons n0 r =>
                refine iteF ⟨_, rfl, q, _, _, .int n0, rfl, rfl, SqL.of hq3, atI_nat (j := 0) rfl, _, _, rfl, rfl, _, rfl, ?_⟩
                obtain ⟨z, hz⟩ : ∃ z, (n0 :: r)[(n0 :: r).length - 1]? = some z := ⟨_, List.getElem?_eq_getElem (by simp)⟩
                have bi := bounds_iff srt hz
                have lz : atI ((n0 :: r).map V.int) (-1) = some (.int z) := last_get (by rw [List.length_map, List.getElem?_map, hz]; rfl)
                by_cases b0 : 0 ≤ n0
                · rw [decide_eq_true b0]
                  refine iteT ⟨_, rfl, 1, rfl, q, _, _, .int z, rfl, rfl, SqL.of hq3, lz, _, _, rfl, rfl, k _ H3 s3 ?_⟩
                  rw [decide_eq_true_iff, iff]
                  exact ⟨fun h => ⟨srt, bi.mpr ⟨b0, h⟩⟩, fun h => (bi.mp h.2).2⟩
                · rw [decide_eq_false b0]
                  exact iteF (k false H3 s3 ⟨fun z => (by cases z), fun S => absurd (bi.mp (iff.mp S).2).1 b0⟩)
        · exact ⟨false, bF (by omega), iteT (k false H1 s1 ⟨fun z => (by cases z), fun S => absurd S.l2 c2⟩)⟩
      · exact ⟨false, bF (by omega), iteF ⟨false, rfl, iteT (k false H1 s1 ⟨fun z => (by cases z), fun S => absurd S.l1 c1⟩)⟩⟩
    · refine ⟨_, pss_cons (ps_if (PW.pt (pw_or (pt_not (pt_val (pe_call GL hr1 rfl mL kL bL .nil pass0 (pa_cons (pv 0) pa_nil))))
            (pw_or1 (pt_not (pt_chain op_le op_le pe_int (pe_callB call_len_seq (by rfl) T.len PySem.boot_len (pa_cons (pv 0) pa_nil)) (pe_glob (v := .int 400) rfl mG ⟨_, rfl⟩))))))
          (pss_one (ps_ret pe_bl)) pss_nil)
        (C8.pss_cut (ps_setLc (i := 1) (own := [("one", 2)]) (g := gName 2) rfl scStart.nd rfl rfl (sw_true rfl rfl rfl (by decide +kernel)) (pi_tup (pv 0)) (blkOk_by (N := nStart) (sc := defScope sStart) (by decide +kernel))
          (fun _ _ _ _ _ => pg_name (i := 2) scStart.nd rfl (Or.inl rfl)) (fun _ _ _ _ _ => pts_one (pt_cmpR op_notN (pv 2) pe_non (nomark _))) (fun _ _ _ _ _ => pv 2))
        (C8.pss_cut (ps_if (PW.pt (pw_or (pt_not (pt_val (pe_call GN hr rfl mN kN bN .nil pass0 (pa_cons (pv 1) pa_nil))))
            (pw_or (pt_cmpR op_in_seq pe_non (pe_slice sl_seqB (pv 0) po_none (po_some (pe_callB call_len_seq (by rfl) T.len PySem.boot_len (pa_cons (pv 1) pa_nil)))) (by rfl))
            (pw_or1 (pt_cmpR (op_neD hu) (pe_callB cr_sortedI (by rfl) T.sorted (by decide +kernel) (pa_cons (pv 1) pa_nil)) (pv 1) (nomark _))))))
          (pss_one (ps_ret pe_bl)) pss_nil)
        (pss_one (ps_ret (pe_or (pe_notT (pv 1)) (pe_one (pe_and (pe_cmpR op_ge (pe_ix ix_list (pv 1) pe_int (fun _ _ => rfl)) pe_int (nomark _))
          (pe_one (pe_cmpR op_le (pe_ix ix_list (pv 1) (pe_un un_neg pe_int) (fun _ _ => rfl)) (pe_glob (v := .int 1000000000) rfl mM ⟨_, rfl⟩) (nomark _)))))))))), ?_⟩
      refine ⟨_, rfl, .ref a, true, rfl, listT_seq hsA, fun H1 s1 => ⟨true, rfl, iteF ?_⟩⟩
      have h1 := seqT s1 hs
      refine ⟨_, rfl, a, xs, rfl, .inr h1, _, _, rfl, rfl, ?_⟩
      by_cases c1 : 1 ≤ xs.length
      · refine ⟨true, bT (by omega), iteT ⟨_, _, rfl, rfl, ?_⟩⟩
        by_cases c2 : xs.length ≤ 400
        · refine ⟨true, bT (by omega), iteF ?_⟩
          refine ⟨Found xs H a, ?_, ?_⟩
          · refine ⟨_, rfl, a, rfl, ⟨_, h1⟩, fun D hD => lc_tup (K := K) (a := a) (xs := xs) (fun i H2 => H2 D = some (.lst (nums (xs.take i))) ∧ Same H1 H2) ⟨upd_same, same_new hD⟩ (fun i H2 _ ⟨_, s2⟩ => seqT s2 h1) ?_ ?_⟩
            · rintro i x H2 hx ⟨hd, s2⟩
              have hi : i < xs.length := (List.getElem?_eq_some_iff.mp hx).1
              refine ⟨rfl, _, rfl, rfl, !isNon x, by rw [isNon_dec], ?_⟩
              cases e : isNon x with
              | true => exact iteF ⟨by rw [nums_step hx, e]; simpa using hd, s2⟩
              | false =>
                refine iteT ⟨_, rfl, _, hd, ?_, ?_, fun b o z => by rw [upd_ne (ne_of_none z hD)]; exact s2 b o z⟩
                · have := nums_le (xs.take i)
                  rw [List.length_take] at this
                  omega
                · rw [nums_step hx, e]
                  exact upd_same
            · rintro H2 ⟨hd, s2⟩
              rw [List.take_length] at hd
              exact ⟨D, _, rfl, hd, Same.trans s1 s2⟩
          · rintro σ2 H2 ⟨q, v, rfl, hq, s2⟩
            have fln : (nums xs).all flatV = true := flat_sub fl fun y hy => (List.mem_filter.mp hy).1
            have ln := nums_le xs
            refine ⟨fun σ' H' => ∃ v, σ' = [some (.ref a), some (.ref q), v] ∧ H' q = some (.lst (nums xs)) ∧ Same H H' ∧ ∃ ns : List Int, nums xs = ns.map V.int ∧ (xs.take (nums xs).length).any isNon = false ∧ ns.Pairwise (· ≤ ·), ?_, ?_⟩
            · refine ⟨_, rfl, q, _, rfl, SqL.of hq, fln, by omega, fun H3 s3 => ⟨_, rfl, ?_⟩⟩
              have hq3 := s3 _ _ hq
              have sA := Same.trans s2 s3
              cases cN : (nums xs).all numV with
              | false => exact iteT (k false H3 sA ⟨fun z => (by cases z), fun S => absurd S (startOk_no (.inl cN))⟩)
              | true =>
                refine iteF ?_
                obtain ⟨ns, en⟩ := all_ints cN
                refine ⟨_, rfl, _, rfl, q, _, rfl, .inl (SqL.of hq3), _, rfl, a, xs, rfl, hsA.same sA, fun H4 z s4 hz _ => ?_⟩
                rw [cutR ln] at hz
                have flz : (xs.take (nums xs).length).all flatV = true := flat_sub fl fun y hy => List.mem_of_mem_take hy
                refine ⟨z, _, rfl, hz, rfl, flz, ?_⟩
                have sB := Same.trans sA s4
                cases cq : (xs.take (nums xs).length).any isNon with
                | true => exact ⟨true, by show V.bl (inV .non _) = _; rw [inV_non flz, cq], iteT (k false H4 sB ⟨fun z => (by cases z), fun S => absurd S (startOk_no (.inr cq))⟩)⟩
                | false =>
                  refine ⟨false, by show V.bl (inV .non _) = _; rw [inV_non flz, cq], iteF ?_⟩
                  have hq4 := s4 _ _ hq3
                  rw [en] at hq4
                  refine ⟨_, rfl, q, ns, rfl, SqL.of hq4, fun ms p pm srt hp => ?_⟩
                  generalize g5 : upd H4 p _ = H5
                  obtain ⟨s5, f5⟩ := alloc g5 hp
                  have hq5 := s5 _ _ hq4
                  refine ⟨_, rfl, .list (ms.map .int), .list (ns.map .int), .lst (SqL.of f5) (dpAll_int _), .lst (SqL.of hq5) (dpAll_int _), shaped_ints _, shaped_ints _, _, rfl, ?_⟩
                  rw [eqv_ints]
                  have sC := Same.trans sB s5
                  obtain ⟨ex, lx⟩ := start_tail fl c1 c2 en cq
                  have l3 : ns.length + (xs.length - ns.length) = xs.length := by omega
                  by_cases cs : ms = ns
                  · rw [decide_eq_true cs]
                    exact iteF ⟨_, rfl, by rw [en]; exact hq5, sC, ns, en, (by first | exact cq | rfl), (sorted_same pm srt).mp cs⟩
                  · rw [decide_eq_false cs]
                    refine iteT (k false H5 sC ⟨fun z => (by cases z), fun S => ?_⟩)
                    rw [ex, startOk_iff (by omega) (by omega)] at S
                    exact absurd ((sorted_same pm srt).mpr S.1) cs
            · rintro σ3 H3 ⟨v3, rfl, hq3, s3, ns, en, cq, srt⟩
              obtain ⟨ex, lx⟩ := start_tail fl c1 c2 en cq
              have iff := startOk_iff (ns := ns) (k := xs.length - ns.length) (by omega) (by omega)
              rw [← ex] at iff
              rw [en] at hq3
              refine ⟨_, rfl, !(ns.map V.int).isEmpty, .inl ⟨_, SqL.of hq3, rfl⟩, _, rfl, ?_⟩
              cases ns with
              | nil => exact iteT (k true H3 s3 ⟨fun _ => iff.mpr ⟨.nil, fun z h => by cases h⟩, fun _ => rfl⟩)
              | cons n0 r =>
                refine iteF ⟨_, rfl, q, _, _, .int n0, rfl, rfl, SqL.of hq3, atI_nat (j := 0) rfl, _, _, rfl, rfl, _, rfl, ?_⟩
                obtain ⟨z, hz⟩ : ∃ z, (n0 :: r)[(n0 :: r).length - 1]? = some z := ⟨_, List.getElem?_eq_getElem (by simp)⟩
                have bi := bounds_iff srt hz
                have lz : atI ((n0 :: r).map V.int) (-1) = some (.int z) := last_get (by rw [List.length_map, List.getElem?_map, hz]; rfl)
                by_cases b0 : 0 ≤ n0
                · rw [decide_eq_true b0]
                  refine iteT ⟨_, rfl, 1, rfl, q, _, _, .int z, rfl, rfl, SqL.of hq3, lz, _, _, rfl, rfl, k _ H3 s3 ?_⟩
                  rw [decide_eq_true_iff, iff]
                  exact ⟨fun h => ⟨srt, bi.mpr ⟨b0, h⟩⟩, fun h => (bi.mp h.2).2⟩
                · rw [decide_eq_false b0]
                  exact iteF (k false H3 s3 ⟨fun z => (by cases z), fun S => absurd (bi.mp (iff.mp S).2).1 b0⟩)
        · exact ⟨false, bF (by omega), iteT (k false H1 s1 ⟨fun z => (by cases z), fun S => absurd S.l2 c2⟩)⟩
      · exact ⟨false, bF (by omega), iteF ⟨false, rfl, iteT (k false H1 s1 ⟨fun z => (by cases z), fun S => absurd S.l1 c1⟩)⟩⟩
end
end WW
end

section
set_option Elab.async false
set_option linter.all false
set_option maxRecDepth 100000
set_option maxHeartbeats 4000000
namespace WW
open PySem L2 WO WG RZ WQ
section
variable {P : Program} {w : World} {K : PySem.W.Frag} {mg : Str → Option Value} {base : Heap}
theorem ixs {H : Hp} {a : Addr} {xs : List V} {i : Int} {v : V} {Q : VK} (h : SeqA K H a xs) (e : atI xs i = some v) (k : Q v H) : rIx K (.ref a) (.int i) H Q := by
  rcases h with h | h
  · exact .inl ⟨a, xs, i, v, rfl, rfl, h, e, k⟩
  · exact .inr (.inl ⟨a, xs, i, v, rfl, rfl, h, e, k⟩)
/-- whether the first value behind falls below the last one -/
def fallsV (x y : V) (g : Int) (b : Bool) : Prop :=
  (∃ i, x = .int i ∧ ((∃ j, y = .int j ∧ b = decide (i + g < j)) ∨ (y = .non ∧ b = true))) ∨ (x = .non ∧ y = .non ∧ b = false)
def spFalls (K : PySem.W.Frag) : Sp := fun vs H Q _ => ∃ (a : Addr) (xs : List V) (p g : Int) (x y : V) (b : Bool), vs = [.ref a, .int p, .int g] ∧ SeqA K H a xs ∧ atI xs (xs.length - p) = some x ∧ atI xs (-1) = some y ∧ fallsV x y g b ∧ Q (.bl b) H
theorem scFalls : FnScope ["start", "period", "growth", "behind"] ["start", "period", "growth"] (defScope sFalls) := ⟨rfl, rfl, rfl, by decide +kernel, rfl, by decide +kernel, by decide +kernel⟩
theorem ok_falls {f fA : Addr} {fd dA : FuncData} (F : Fun K "falls_behind" "falls_behind" sFalls f fd) (T : CurG mg)
    (GA : FnOk P w K mg base CX0 1 fA dA ["one", "two"] (spAbove K)) (kA : PySem.W.keepIn K (.ref fA) = true) (bA : Binds K dA ["one", "two"] []) (mA : mg "is_above" = some (.ref fA)) :
    FnOk P w K mg base CX0 2 f fd ["start", "period", "growth"] (spFalls K) := by
  refine F.ok scFalls (fun vs H Q E h => ?_) (fun cdv A outer s H vs Q E hr h => ?_)
  · obtain ⟨a, xs, p, g, x, y, b, rfl, _⟩ := h
    rfl
  · obtain ⟨a, xs, p, g, x, y, b, rfl, h, ex, ey, c, k⟩ := h
    refine ⟨_, pss_cons (ps_set (i := 3) scFalls.nd rfl (Or.inl rfl) (pe_ix ix_seq (pv 0) (pe_op op_sub (pe_callB call_len_seq (by rfl) T.len PySem.boot_len (pa_cons (pv 0) pa_nil)) (pv 1)) (fun _ _ => rfl)))
      (pss_cons (ps_if (pt_cmpR op_notN (pv 3) pe_non (nomark _)) (pss_one (ps_set (i := 3) scFalls.nd rfl (Or.inl rfl) (pe_op op_add (pv 3) (pv 2)))) pss_nil)
      (pss_one (ps_ret (pe_call GA hr rfl mA kA bA .nil pass0 (pa_cons (pe_ix ix_seq (pv 0) (pe_un un_neg pe_int) (fun _ _ => rfl)) (pa_cons (pv 3) pa_nil)))))), ?_⟩
    refine ⟨_, rfl, _, rfl, a, xs, rfl, h, _, rfl, _, _, rfl, rfl, ixs h ex ?_⟩
    rcases c with ⟨i, rfl, c⟩ | ⟨rfl, rfl, rfl⟩
    · refine ⟨_, rfl, rfl, true, rfl, iteT ⟨_, rfl, _, rfl, _, _, rfl, rfl, ?_⟩⟩
      refine ⟨_, rfl, 1, rfl, ixs h ey ?_⟩
      refine ⟨_, rfl, ?_⟩
      rcases c with ⟨j, rfl, rfl⟩ | ⟨rfl, rfl⟩
      · exact ⟨.int j, .int (i + g), rfl, .inr ⟨j, rfl, .inr ⟨_, rfl, k⟩⟩⟩
      · exact ⟨.non, .int (i + g), rfl, .inl ⟨rfl, k⟩⟩
    · refine ⟨_, rfl, rfl, false, rfl, iteF ?_⟩
      refine ⟨_, rfl, 1, rfl, ixs h ey ?_⟩
      refine ⟨_, rfl, ?_⟩
      exact above_no (K := K) (E := E0) (.inr (.inr ⟨rfl, rfl⟩)) k
/-! ### slices of lists -/
theorem six_nat {n t : Nat} {d : Nat} (h : t ≤ n) : HT.sIx n d (some (t : Int)) = t := by
  unfold HT.sIx
  dsimp only
  rw [if_neg (by omega), Int.toNat_natCast]
  omega
theorem cutL {xs : List V} {t : Nat} (h : t ≤ xs.length) : cutV xs (some (t : Int)) none = xs.drop t := by
  unfold cutV
  rw [six_nat h]
  exact List.take_of_length_le (by rw [List.length_drop]; exact Nat.le_refl _)
/-! ### least_step -/
section
variable {s : List Int} {p : Nat} {g : Int}
theorem at_get {j : Nat} (h : j < s.length) : s[j]? = some (MF.at_ s p g j) := by
  rw [MF.at_low h, List.getD_eq_getElem?_getD, List.getElem?_eq_getElem h]
  rfl
theorem tail_get {i : Nat} (hp : p ≤ s.length) (hi : i < p) : (((s.map V.int).drop (s.length - p)))[i]? = some (.int (MF.at_ s p g (s.length - p + i))) := by
  rw [List.getElem?_drop, List.getElem?_map, at_get (p := p) (g := g) (by omega)]
  rfl
theorem tail_len (hp : p ≤ s.length) : ((s.map V.int).drop (s.length - p)).length = p := by rw [List.length_drop, List.length_map]; omega
theorem next_get {i : Nat} (h0 : 0 < p) (hp : p ≤ s.length) (hi : i < p) :
    (((s.map V.int).drop (s.length - p)).drop 1 ++ [V.int (MF.at_ s p g (s.length - p) + g)])[i]? = some (.int (MF.at_ s p g (s.length - p + i + 1))) := by
  have l : (((s.map V.int).drop (s.length - p)).drop 1).length = p - 1 := by rw [List.length_drop, tail_len hp]
  by_cases e : i + 1 < p
  · rw [List.getElem?_append_left (by omega), List.getElem?_drop, Nat.add_comm 1 i, tail_get (g := g) hp e]
    rfl
  · rw [List.getElem?_append_right (by omega), l]
    have e2 : i - (p - 1) = 0 := by omega
    rw [e2]
    have q := MF.at_qp (s := s) (g := g) h0 hp (s.length - p) (Nat.le_refl _)
    have e3 : s.length - p + i + 1 = s.length - p + p := by omega
    rw [e3, q]
    rfl
def jumps (s : List Int) (p : Nat) (g : Int) (n : Nat) : List Int := (List.range n).map fun i => MF.D (MF.at_ s p g) (s.length - p + i)
theorem jumps_len (n : Nat) : (jumps s p g n).length = n := by unfold jumps; rw [List.length_map, List.length_range]
theorem jumps_snoc (n : Nat) : (jumps s p g n).map V.int ++ [.int (MF.D (MF.at_ s p g) (s.length - p + n))] = (jumps s p g (n + 1)).map V.int := by
  unfold jumps
  rw [List.range_succ, List.map_append, List.map_append]
  rfl
theorem jumps_get {n i : Nat} (h : i < n) : (jumps s p g n)[i]? = some (MF.D (MF.at_ s p g) (s.length - p + i)) := by
  unfold jumps
  rw [List.getElem?_map, List.getElem?_range h]
  rfl
theorem jumps_A {t : Nat} (ht : t ≤ p) (hd : p % t = 0) : ((jumps s p g p).drop t = (jumps s p g p).take (p - t)) ↔ MF.A (MF.at_ s p g) (s.length - p) p t := by
  constructor
  · intro e
    refine ⟨hd, fun i hi => ?_⟩
    have z : ((jumps s p g p).drop t)[i]? = ((jumps s p g p).take (p - t))[i]? := by rw [e]
    rw [List.getElem?_drop, List.getElem?_take, if_pos hi, jumps_get (by omega), jumps_get (by omega)] at z
    have z' := Option.some.inj z
    have e2 : s.length - p + (t + i) = s.length - p + i + t := by omega
    rw [e2] at z'
    exact z'
  · rintro ⟨_, h⟩
    refine List.ext_getElem? fun i => ?_
    rw [List.getElem?_drop, List.getElem?_take]
    by_cases hi : i < p - t
    · rw [if_pos hi, jumps_get (by omega), jumps_get (by omega)]
      have e2 : s.length - p + (t + i) = s.length - p + i + t := by omega
      rw [e2, h i hi]
    · rw [if_neg hi]
      exact List.getElem?_eq_none (by rw [jumps_len]; omega)
end
def spStep (K : PySem.W.Frag) : Sp := fun vs H Q _ => ∃ (a : Addr) (s : List Int) (p : Nat) (g : Int), vs = [.ref a, .int p, .int g] ∧ SqL K H a (s.map V.int) ∧ 0 < p ∧ p ≤ s.length ∧ s.length ≤ 100000 ∧
  ∀ (q : Nat) (H' : Hp), 0 < q → q ≤ p → MF.A (MF.at_ s p g) (s.length - p) p q → (∀ t, 0 < t → t < q → ¬ MF.A (MF.at_ s p g) (s.length - p) p t) → Same H H' → Q (.int q) H'
abbrev nStep : List Str := ["row", "period", "growth", "least", "tail", "jumps", "step", "one", "two"]
theorem scStep : FnScope nStep ["row", "period", "growth"] (defScope sStep) := ⟨rfl, rfl, rfl, by decide +kernel, rfl, by decide +kernel, by decide +kernel⟩
theorem fmod_nat (p t : Nat) (h : 0 < t) : Int.fmod (p : Int) (t : Int) = ((p % t : Nat) : Int) := by
  rw [Int.fmod_eq_emod_of_nonneg _ (by omega)]
  rfl
theorem fdiv_nat (p t : Nat) : Int.fdiv (p : Int) (t : Int) = ((p / t : Nat) : Int) := by
  rw [Int.fdiv_eq_ediv_of_nonneg _ (by omega)]
  rfl
theorem line_le {n : Nat} (h : n ≤ 200000) : n ≤ sizeLine := Nat.le_trans h (by decide)
theorem line_lt {n : Nat} (h : n < 200000) : n < sizeLine := Nat.lt_of_lt_of_le h (by decide)
theorem ok_step {f : Addr} {fd : FuncData} (F : Fun K "least_step" "least_step" sStep f fd) (T : CurG mg) : FnOk P w K mg base CX0 1 f fd ["row", "period", "growth"] (spStep K) := by
  refine F.ok scStep (fun vs H Q E h => ?_) (fun cdv A outer s H vs Q E hr h => ?_)
  · obtain ⟨a, s, p, g, rfl, _⟩ := h
    rfl
  · obtain ⟨a, sl, p, g, rfl, h, p0, pn, n4, k⟩ := h
    have hu := hr.units
    refine ⟨_, C8.pss_cut (ps_set (i := 3) scStep.nd rfl (Or.inl rfl) (pe_op op_fdivN (pv 1) (pe_callBfun cr_gcd (by rfl) T.gcd (pa_cons (pv 1) (pa_cons (pv 2) pa_nil)))))
      (pss_cons (ps_if (pt_cmpR op_eq (pv 3) (pv 1) (nomark _)) (pss_one (ps_ret (pv 1))) pss_nil)
      (C8.pss_cut (ps_set (i := 4) scStep.nd rfl (Or.inl rfl) (pe_slice sl_list (pv 0) (po_some (pe_op op_sub (pe_callB call_len_seq (by rfl) T.len PySem.boot_len (pa_cons (pv 0) pa_nil)) (pv 1))) po_none))
      (C8.pss_cut (ps_setLc (i := 5) (own := [("one", 7), ("two", 8)]) (g := gTup K 2 (gCons (gName 7) (gCons (gName 8) gNil))) (tt := tYes) rfl scStep.nd rfl rfl (sw_true rfl rfl rfl (by decide +kernel))
          (pi_zip (by rfl) T.zip (pa_cons (pv 4) (pa_cons (pe_op op_cat (pe_slice sl_list (pv 4) (po_some pe_int) po_none) (pe_lst (pa_cons (pe_op op_add (pe_ix ix_list (pv 4) pe_int (fun _ _ => rfl)) (pv 2)) pa_nil))) pa_nil)))
          (blkOk_by (N := nStep) (sc := defScope sStep) (by decide +kernel))
          (fun _ _ _ _ _ => pg_tup rfl (pgs_cons (pg_name (i := 7) scStep.nd rfl (Or.inl rfl)) (pgs_cons (pg_name (i := 8) scStep.nd rfl (Or.inl rfl)) pgs_nil))) (fun _ _ _ _ _ => pts_nil)
          (fun _ _ _ _ _ => pe_op op_sub (pv 8) (pv 7)))
      (pss_cons (ps_for PassesOwn.never rfl (pi_rangeW (by rfl) T.range (pa_cons (pv 3) (pa_cons (pv 1) (pa_cons (pv 3) pa_nil)))) (pg_name (i := 6) scStep.nd rfl (Or.inl rfl))
          (pss_one (ps_if (PW.pt (pw_and (pt_cmpR op_eq (pe_op op_modN (pv 1) (pv 6)) pe_int (nomark _)) (pw_and1 (pt_cmpR (op_eqD hu) (pe_slice sl_list (pv 5) (po_some (pv 6)) po_none) (pe_slice sl_list (pv 5) po_none (po_some (pe_op op_sub (pv 1) (pv 6)))) (nomark _)))))
            (pss_one (ps_ret (pv 6))) pss_nil)))
      (pss_one (ps_ret (pv 1))))))), ?_⟩
    obtain ⟨L, hL⟩ : ∃ L, L = p / Nat.gcd p g.natAbs := ⟨_, rfl⟩
    have QPf := MF.at_qp (s := sl) (g := g) p0 pn
    have L0 : 0 < L := hL ▸ MF.step_pos p0
    have Lp : L ≤ p := hL ▸ MF.step_le
    have hdv : ∀ t, 0 < t → t < p → MF.A (MF.at_ sl p g) (sl.length - p) p t → L ∣ t := fun t t0 tp a => hL ▸ a.dvd p0 QPf t0 (by omega)
    have gp : 0 < Nat.gcd p g.natAbs := Nat.gcd_pos_of_pos_left _ p0
    have gl : Nat.gcd p g.natAbs ≤ p := Nat.le_of_dvd p0 (Nat.gcd_dvd_left ..)
    refine ⟨fun σ' H' => σ' = [some (.ref a), some (.int p), some (.int g), some (.int L), none, none, none, none, none] ∧ H' = H, ?_, ?_⟩
    · refine ⟨_, rfl, _, rfl, _, rfl, p, g, rfl, (p : Int), ((Nat.gcd p g.natAbs : Nat) : Int), rfl, rfl, ⟨by omega, by omega⟩, ?_, rfl⟩
      show [_, _, _, some (V.int (Int.fdiv (p : Int) ((Nat.gcd p g.natAbs : Nat) : Int))), _, _, _, _, _] = _
      rw [fdiv_nat, ← hL]
    rintro σ0 H0 ⟨rfl, rfl⟩
    refine ⟨_, rfl, _, rfl, rfl, decide (L = p), (by show V.bl (decide (V.int (L : Int) = V.int (p : Int))) = _; congr 1; exact decide_eq_decide.mpr ⟨fun z => by have := V.int.inj z; omega, fun z => by rw [z]⟩), ?_⟩
    refine ite2 (fun c => ?_) (fun c => ?_)
    · have c' := of_decide_eq_true c
      refine ⟨_, rfl, k p H0 p0 (Nat.le_refl _) MF.A.self (fun t h1 h2 a => ?_) (Same.refl _)⟩
      have := Nat.le_of_dvd h1 (hdv t h1 h2 a)
      omega
    have hLp : L < p := by
      have : L ≠ p := fun z => c (decide_eq_true z)
      omega
    refine ⟨fun σ' H' => ∃ t, σ' = [some (.ref a), some (.int p), some (.int g), some (.int L), some (.ref t), none, none, none, none] ∧ H' t = some (.lst ((sl.map V.int).drop (sl.length - p))) ∧ Same H0 H', ?_, ?_⟩
    · refine ⟨_, rfl, _, rfl, a, _, rfl, .inl h, _, rfl, _, _, rfl, rfl, _, rfl, a, _, rfl, h, fun t ht => ?_⟩
      rw [List.length_map, show ((sl.length : Nat) : Int) - (p : Int) = ((sl.length - p : Nat) : Int) by omega, cutL (by rw [List.length_map]; omega)]
      exact ⟨t, rfl, upd_same, same_new ht⟩
    · rintro σ1 H1 ⟨t, rfl, h1, s1⟩
      have lX := tail_len (s := sl) pn
      refine ⟨fun σ' H' => ∃ j, σ' = [some (.ref a), some (.int p), some (.int g), some (.int L), some (.ref t), some (.ref j), none, none, none] ∧ H' j = some (.lst ((jumps sl p g p).map V.int)) ∧ Same H0 H', ?_, ?_⟩
      · refine ⟨_, rfl, _, rfl, 1, rfl, t, _, rfl, SqL.of h1, fun t2 ht2 => ?_⟩
        rw [cut1 (by rw [lX]; exact p0)]
        generalize g2 : upd H1 t2 (.lst (((sl.map V.int).drop (sl.length - p)).drop 1)) = H2
        obtain ⟨s2, f2⟩ := alloc g2 ht2
        have e0 : atI ((sl.map V.int).drop (sl.length - p)) 0 = some (.int (MF.at_ sl p g (sl.length - p + 0))) := atI_nat (j := 0) (tail_get pn p0)
        refine ⟨_, rfl, t, _, _, _, rfl, rfl, SqL.of (s2 _ _ h1), e0, _, rfl, _, _, rfl, rfl, (by show 1 ≤ sizeLine; decide), fun t3 ht3 => ?_⟩
        generalize g3 : upd H2 t3 _ = H3
        obtain ⟨s3, f3⟩ := alloc g3 ht3
        refine ⟨t2, t3, _, _, rfl, rfl, s3 _ _ f2, f3, ?_, fun z hz => ?_⟩
        · rw [List.length_drop, lX]
          exact line_le (show p - 1 + 1 ≤ 200000 by omega)
        generalize g4 : upd H3 z _ = H4
        obtain ⟨s4, f4⟩ := alloc g4 hz
        have hz4 : SqL K H4 z ((((sl.map V.int).drop (sl.length - p)).drop 1 ++ [V.int (MF.at_ sl p g (sl.length - p) + g)])) := SqL.of f4
        have ht4 : SqL K H4 t ((sl.map V.int).drop (sl.length - p)) := SqL.of (s4 _ _ (s3 _ _ (s2 _ _ h1)))
        refine ⟨t, z, _, _, rfl, ht4, hz4, fun D hD => lc_it (n := p) (walk_zip (by rw [lX, List.length_append, List.length_drop, lX]; show p = min p (p - 1 + 1); omega))
          (fun i H5 => H5 D = some (.lst ((jumps sl p g i).map V.int)) ∧ Same H4 H5) ⟨upd_same, same_new hD⟩ (fun i H5 _ ⟨_, s5⟩ => ⟨s5.seq ht4, s5.seq hz4⟩) ?_ ?_⟩
        · rintro i v H5 H6 hi ⟨hd5, s5⟩ ⟨tt, x, y, rfl, htt, rfl, hx, hy⟩
          dsimp only at hx hy
          rw [tail_get (g := g) pn hi] at hx
          rw [next_get p0 pn hi] at hy
          cases hx
          cases hy
          refine ⟨tt, _, rfl, SqT.of upd_same, rfl, _, _, rfl, _, _, rfl, rfl, rfl, _, rfl, _, rfl, _, _, rfl, rfl, (jumps sl p g i).map V.int, ?_, ?_, ?_⟩
          · rw [upd_ne (ne_of_none hd5 htt)]; exact hd5
          · rw [List.length_map, jumps_len]; exact line_lt (by omega)
          · have e := jumps_snoc (s := sl) (p := p) (g := g) i
            unfold MF.D at e
            rw [e]
            exact ⟨upd_same, fun b o e => by rw [upd_ne (ne_of_none e hD), upd_ne (ne_of_none (s5 _ _ e) htt)]; exact s5 _ _ e⟩
        · rintro H5 ⟨hd5, s5⟩
          exact ⟨D, rfl, hd5, Same.trans s1 (Same.trans s2 (Same.trans s3 (Same.trans s4 s5)))⟩
      · rintro σ2 H2 ⟨j, rfl, hj, s2⟩
        obtain ⟨N, hN1, hN2⟩ : ∃ N : Nat, p ≤ L * (N + 1) ∧ ∀ m, m < N → L * (m + 1) < p := by
          refine ⟨(p - 1) / L, ?_, fun m hm => ?_⟩
          · have := Nat.lt_mul_div_succ (p - 1) L0
            omega
          · have h2 := Nat.mul_div_le (p - 1) L
            have h3 : L * (m + 1) ≤ L * ((p - 1) / L) := Nat.mul_le_mul_left _ hm
            omega
        have mulc : ∀ m : Nat, (L : Int) + (m : Int) * (L : Int) = ((L * (m + 1) : Nat) : Int) := fun m => by
          rw [Int.natCast_mul, Int.natCast_add, Int.mul_add, Int.mul_comm (m : Int)]
          simp
          omega
        have hNs : N < 2 ^ 60 := by
          have : N ≤ (p - 1) / L ∨ True := .inr trivial
          rcases Nat.eq_zero_or_pos N with z | z
          · omega
          · have := hN2 (N - 1) (by omega)
            have h4 : 1 * N ≤ L * (N - 1 + 1) := by
              rw [show N - 1 + 1 = N by omega]
              exact Nat.mul_le_mul_right _ L0
            omega
        refine ⟨_, rfl, _, rfl, _, rfl, L, p, L, N, rfl, RgW.up (by omega) (by omega) (by omega) (by omega) (by omega) (by omega) hNs ?_ (fun m hm => ?_), for_rangeC (lo := L) (c := L) (n := N) (fun i σ H3 => ∃ v6, σ = [some (.ref a), some (.int p), some (.int g), some (.int L), some (.ref t), some (.ref j), v6, none, none] ∧ Same H2 H3 ∧ ∀ t, 0 < t → t < p → t < L * (i + 1) → ¬ MF.A (MF.at_ sl p g) (sl.length - p) p t) ⟨_, rfl, Same.refl _, fun t h1 h2 h3 z => by have := Nat.le_of_dvd h1 (hdv t h1 h2 z); omega⟩ ?_ ?_⟩
        · have := mulc N
          omega
        · rw [mulc]
          exact Int.ofNat_lt.mpr (hN2 m hm)
        · rintro i σ H3 hi ⟨v6, rfl, s3, no⟩
          have hj3 : H3 j = some (.lst ((jumps sl p g p).map V.int)) := s3 _ _ hj
          rw [mulc i]
          have lJ : ((jumps sl p g p).map V.int).length = p := by rw [List.length_map, jumps_len]
          have q0 : 0 < L * (i + 1) := Nat.mul_pos L0 (by omega)
          have qp : L * (i + 1) < p := hN2 i hi
          have nx : ∀ t, 0 < t → t < p → t < L * (i + 1 + 1) → t ≠ L * (i + 1) → ¬ MF.A (MF.at_ sl p g) (sl.length - p) p t := fun t h1 h2 h3 h4 z => by
            by_cases c5 : t < L * (i + 1)
            · exact no t h1 h2 c5 z
            · obtain ⟨m, hm⟩ := hdv t h1 h2 z
              have e1 : i + 1 ≤ m := by
                refine Nat.le_of_mul_le_mul_left ?_ L0
                omega
              have e2 : m < i + 1 + 1 := by
                refine Nat.lt_of_mul_lt_mul_left (a := L) ?_
                omega
              have e3 : m = i + 1 := by omega
              subst e3
              exact h4 hm
          generalize hq : L * (i + 1) = q at *
          by_cases hd : p % q = 0
          · refine ⟨_, rfl, _, rfl, _, _, rfl, rfl, by omega, rfl, true, bT (by show V.int (Int.fmod (p : Int) (q : Int)) = V.int 0; rw [fmod_nat p q (by omega), hd]; rfl), ?_⟩
            refine iteT ⟨_, rfl, _, rfl, _, rfl, j, _, rfl, SqL.of hj3, fun q1 hq1 => ?_⟩
            rw [cutL (by rw [lJ]; omega)]
            generalize g4 : upd H3 q1 _ = H4
            obtain ⟨s4, f4⟩ := alloc g4 hq1
            refine ⟨_, rfl, _, rfl, _, rfl, _, _, rfl, rfl, ((p - q : Nat) : Int), (by show V.int _ = V.int _; congr 1; omega), j, _, rfl, SqL.of (s4 _ _ hj3), fun q2 hq2 => ?_⟩
            rw [cutR (by rw [lJ]; omega), ← List.map_drop] at *
            rw [← List.map_take]
            generalize g5 : upd H4 q2 _ = H5
            obtain ⟨s5, f5⟩ := alloc g5 hq2
            refine ⟨.list (((jumps sl p g p).drop q).map .int), .list (((jumps sl p g p).take (p - q)).map .int), .lst (SqL.of (s5 _ _ f4)) (dpAll_int _), .lst (SqL.of f5) (dpAll_int _), shaped_ints _, shaped_ints _, _, rfl, ?_⟩
            rw [eqv_ints]
            refine ite2 (fun c => ?_) (fun c => ?_)
            · have c' := of_decide_eq_true c
              exact ⟨_, rfl, k q H5 (by omega) (by omega) ((jumps_A (by omega) hd).mp c') (fun t h1 h2 => no t h1 (by omega) (by omega)) (Same.trans s2 (Same.trans s3 (Same.trans s4 s5)))⟩
            · refine ⟨_, rfl, Same.trans s3 (Same.trans s4 s5), fun t h1 h2 h3 => ?_⟩
              by_cases e : t = q
              · rw [e]
                exact fun z => c (decide_eq_true ((jumps_A (by omega) hd).mpr z))
              · exact nx t h1 h2 h3 e
          · refine ⟨_, rfl, _, rfl, _, _, rfl, rfl, by omega, rfl, false, bF (fun z => hd (by have z' : V.int (Int.fmod (p : Int) (q : Int)) = V.int 0 := z; rw [fmod_nat p q (by omega)] at z'; have := V.int.inj z'; omega)), ?_⟩
            refine iteF ⟨_, rfl, s3, fun t h1 h2 h3 => ?_⟩
            by_cases e : t = q
            · rw [e]
              exact fun z => hd z.1
            · exact nx t h1 h2 h3 e
        · rintro σ H3 ⟨v6, rfl, s3, no⟩
          refine ⟨_, rfl, ?_⟩
          exact k p H3 p0 (Nat.le_refl _) MF.A.self (fun t h1 h2 => no t h1 h2 (by omega)) (Same.trans s2 s3)
end
end WW
end

section
set_option Elab.async false
set_option linter.all false
set_option maxRecDepth 100000
set_option maxHeartbeats 4000000
namespace WW
open PySem L2 WO WG RZ WQ
/-- what a row is told by -/
inductive FormIn : List V → Nat → Int → Prop
  | mkI (s : List Int) (p : Nat) (g : Int) (p0 : 0 < p) (pn : p ≤ s.length) (n4 : s.length ≤ 100000) (g0 : 0 ≤ g) (g1 : g ≤ 1000000000000000000) : FormIn (s.map V.int) p g
  | mkN (s : List Int) (k p : Nat) (g : Int) (n4 : s.length + (k + 1) ≤ 100000) : FormIn (s.map V.int ++ List.replicate (k + 1) .non) p g
inductive FormV : List V → Nat → Int → List V → Int → Int → Prop
  | mkI (s : List Int) (p : Nat) (g : Int) (q : Nat) (r : Int) (b : Nat) (p0 : 0 < p) (pn : p ≤ s.length) (h : MF.IsForm (MF.at_ s p g) q r b) (l : b + q ≤ s.length) :
      FormV (s.map V.int) p g ((List.range (b + q)).map fun j => V.int (MF.at_ s p g j)) q r
  | mkN (s : List Int) (k p : Nat) (g : Int) : FormV (s.map V.int ++ List.replicate (k + 1) .non) p g (s.map V.int ++ [.non]) 1 0
section
variable {P : Program} {w : World} {K : PySem.W.Frag} {mg : Str → Option Value} {base : Heap}
def spForm (K : PySem.W.Frag) : Sp := fun vs H Q _ => ∃ (a : Addr) (xs : List V) (p : Nat) (g : Int), vs = [.ref a, .int p, .int g] ∧ H a = some (.lst xs) ∧ FormIn xs p g ∧
  ∀ (vals : List V) (q r : Int) (t T : Addr) (H' : Hp), FormV xs p g vals q r → H' t = some (.tup vals) → H' T = some (.tup [.ref t, .int q, .int r]) → Same H H' → Q (.ref T) H'
abbrev nForm : List Str := ["row", "period", "growth", "step", "rise", "begin"]
theorem scForm : FnScope nForm ["row", "period", "growth"] (defScope sForm) := ⟨rfl, rfl, rfl, by decide +kernel, rfl, by decide +kernel, by decide +kernel⟩
theorem take_vals {s : List Int} {p n : Nat} {g : Int} (h : n ≤ s.length) : (s.map V.int).take n = (List.range n).map fun j => V.int (MF.at_ s p g j) := by
  refine List.ext_getElem? fun i => ?_
  rw [List.getElem?_take]
  by_cases hi : i < n
  · rw [if_pos hi, List.getElem?_map, at_get (p := p) (g := g) (by omega), List.getElem?_map, List.getElem?_range hi]
    rfl
  · rw [if_neg hi]
    exact (List.getElem?_eq_none (by rw [List.length_map, List.length_range]; omega)).symm
theorem get_map {s : List Int} {p j : Nat} {g : Int} (h : j < s.length) : (s.map V.int)[j]? = some (.int (MF.at_ s p g j)) := by
  rw [List.getElem?_map, at_get (p := p) (g := g) h]
  rfl
theorem nones_get {s : List Int} {k : Nat} (i : Nat) (h1 : s.length ≤ i) (h2 : i < s.length + (k + 1)) : (s.map V.int ++ List.replicate (k + 1) V.non)[i]? = some .non := by
  rw [List.getElem?_append_right (by rw [List.length_map]; exact h1), List.length_map, List.getElem?_replicate, if_pos (by omega)]
theorem ints_get {s : List Int} {r : List V} (i : Nat) (h1 : i < s.length) : ∃ z, (s.map V.int ++ r)[i]? = some (.int z) := by
  rw [List.getElem?_append_left (by rw [List.length_map]; exact h1), List.getElem?_map, List.getElem?_eq_getElem h1]
  exact ⟨_, rfl⟩
theorem ok_form {f fS : Addr} {fd dS : FuncData} (F : Fun K "least_form" "least_form" sForm f fd) (T : CurG mg)
    (GS : FnOk P w K mg base CX0 1 fS dS ["row", "period", "growth"] (spStep K)) (kS : PySem.W.keepIn K (.ref fS) = true) (bS : Binds K dS ["row", "period", "growth"] []) (mS : mg "least_step" = some (.ref fS)) :
    FnOk P w K mg base CX0 2 f fd ["row", "period", "growth"] (spForm K) := by
  refine F.ok scForm (fun vs H Q E h => ?_) (fun cdv A outer s H vs Q E hr h => ?_)
  · obtain ⟨a, xs, p, g, rfl, _⟩ := h
    rfl
  · obtain ⟨a, xs, p, g, rfl, ha, h, k⟩ := h
    have hu := hu_of hr
    refine ⟨_, pss_cons (ps_if (pt_cmpR op_isN (pe_ix ix_list (pv 0) (pe_un un_neg pe_int) (fun _ _ => rfl)) pe_non (nomark _))
        (pss_one (ps_ret (pe_tup (pa_cons (pe_callTy call_tuple_of (by rfl) T.tuple (by decide +kernel) (pa_cons (pe_slice sl_list (pv 0) po_none (po_some (pe_op op_add (pe_bm PySem.F.plainAttrs_list PySem.F.slot_list_index PySem.F.type_list_index mt_index (pv 0) (pa_cons pe_non pa_nil)) pe_int))) pa_nil)) (pa_cons pe_int (pa_cons pe_int pa_nil)))))) pss_nil)
      (C8.pss_cut (ps_set (i := 3) scForm.nd rfl (Or.inl rfl) (pe_call GS hr rfl mS kS bS .nil pass0 (pa_cons (pv 0) (pa_cons (pv 1) (pa_cons (pv 2) pa_nil)))))
      (pss_cons (ps_set (i := 4) scForm.nd rfl (Or.inl rfl) (pe_op op_fdivN (pe_op op_mul (pv 2) (pv 3)) (pv 1)))
      (pss_cons (ps_set (i := 5) scForm.nd rfl (Or.inl rfl) (pe_op op_sub (pe_callB call_len_seq (by rfl) T.len PySem.boot_len (pa_cons (pv 0) pa_nil)) (pv 1)))
      (C8.pss_cut (ps_while PassesOwn.never (PW.pt (pw_and (pt_cmpR op_gt (pv 5) pe_int (nomark _)) (pw_and1 (pt_cmpR op_eq (pe_ix ix_list (pv 0) (pe_op op_add (pe_op op_sub (pv 5) pe_int) (pv 3)) (fun _ _ => rfl)) (pe_op op_add (pe_ix ix_list (pv 0) (pe_op op_sub (pv 5) pe_int) (fun _ _ => rfl)) (pv 4)) (nomark _)))))
          (pss_one (ps_aug (i := 5) scForm.nd rfl (Or.inl rfl) pe_int ip_sub)))
      (pss_one (ps_ret (pe_tup (pa_cons (pe_callTy call_tuple_of (by rfl) T.tuple (by decide +kernel) (pa_cons (pe_slice sl_list (pv 0) po_none (po_some (pe_op op_add (pv 5) (pv 3)))) pa_nil)) (pa_cons (pv 3) (pa_cons (pv 4) pa_nil)))))))))), ?_⟩
    cases h with
    | mkI s p g p0 pn n4 g0 g1 =>
      have el : (s.map V.int)[(s.map V.int).length - 1]? = some (.int (MF.at_ s p g (s.length - 1))) := by
        rw [List.length_map]
        exact get_map (by omega)
      refine ⟨_, rfl, 1, rfl, a, _, _, _, rfl, rfl, SqL.of ha, last_get el, rfl, false, rfl, iteF ?_⟩
      refine ⟨fun σ' H' => ∃ q : Nat, σ' = [some (.ref a), some (.int p), some (.int g), some (.int q), none, none] ∧ 0 < q ∧ q ≤ p ∧ MF.A (MF.at_ s p g) (s.length - p) p q ∧ (∀ t, 0 < t → t < q → ¬ MF.A (MF.at_ s p g) (s.length - p) p t) ∧ Same H H', ?_, ?_⟩
      · exact ⟨_, rfl, _, rfl, _, rfl, a, s, p, g, rfl, SqL.of ha, p0, pn, n4, fun q H' h1 h2 h3 h4 h5 => ⟨q, rfl, h1, h2, h3, h4, h5⟩⟩
      · rintro σ1 H1 ⟨q, rfl, q0, qp, qA, qm, s1⟩
        have QP := MF.at_qp (s := s) (g := g) p0 pn
        have DS := qA.dp q0 qp QP.dp
        have IF := MF.form_of p0 QP q0 qp qA qm
        have ri := MF.rise_of q0 qp QP qA.1 DS
        have ha1 := s1 _ _ ha
        have gm : ∀ j, j < s.length → (s.map V.int)[j]? = some (.int (MF.at_ s p g j)) := fun j h => get_map h
        have tk : ∀ n, n ≤ s.length → (s.map V.int).take n = (List.range n).map fun j => V.int (MF.at_ s p g j) := fun n h => take_vals h
        have fin := fun b q => FormV.mkI s p g q (MF.at_ s p g (s.length - p + q) - MF.at_ s p g (s.length - p)) b p0 pn
        have fin := fin _ q IF (by have := MF.down_le (fun j => decide (MF.at_ s p g (j + q) = MF.at_ s p g j + (MF.at_ s p g (s.length - p + q) - MF.at_ s p g (s.length - p)))) (s.length - p); omega)
        have hb0 : s.length - p + p = s.length := by omega
        generalize hf : MF.at_ s p g = f at *
        generalize hR : f (s.length - p + q) - f (s.length - p) = R at *
        generalize hb : s.length - p = b0 at *
        have e4 : Int.fdiv (g * (q : Int)) (p : Int) = R := by
          rw [ri, Int.mul_fdiv_cancel _ (by omega)]
        refine ⟨_, rfl, _, rfl, _, _, rfl, rfl, .inl ⟨by omega, by omega⟩, _, rfl, _, _, rfl, rfl, ⟨by omega, by omega⟩, ?_⟩
        refine ⟨_, rfl, a, _, rfl, .inl (SqL.of ha1), _, rfl, _, _, rfl, rfl, ?_⟩
        have e5 : ((s.map V.int).length : Int) - (p : Int) = (b0 : Int) := by rw [List.length_map]; omega
        generalize hP : (fun j => decide (f (j + q) = f j + R)) = Pd at *
        have Pe : ∀ j, Pd j = decide (f (j + q) = f j + R) := fun j => by rw [← hP]
        refine ⟨fun σ' H' => σ' = [some (.ref a), some (.int p), some (.int g), some (.int q), some (.int R), some (.int (MF.down Pd b0))] ∧ H' = H1, ?_, ?_⟩
        rotate_left
        · rintro σ2 H2 ⟨rfl, rfl⟩
          have eq : ((MF.down Pd b0 : Nat) : Int) + (q : Int) = ((MF.down Pd b0 + q : Nat) : Int) := by omega
          refine ⟨_, rfl, _, rfl, _, rfl, _, _, rfl, rfl, ((MF.down Pd b0 + q : Nat) : Int), (by show V.int _ = V.int _; rw [eq]), a, _, rfl, SqL.of ha1, fun t ht => ?_⟩
          have lq : MF.down Pd b0 + q ≤ s.length := by have := MF.down_le Pd b0; omega
          rw [cutR (by rw [List.length_map]; exact lq), tk _ lq]
          generalize g3 : upd H2 t _ = H3
          obtain ⟨s3, f3⟩ := alloc g3 ht
          refine ⟨t, _, rfl, .inl ⟨SqL.of f3, fun l hl => ?_⟩⟩
          generalize g4 : upd H3 l _ = H4
          obtain ⟨s4, f4⟩ := alloc g4 hl
          refine ⟨_, rfl, _, rfl, (by show 3 ≤ sizeLine; decide), fun T hT => ?_⟩
          generalize g5 : upd H4 T _ = H5
          obtain ⟨s5, f5⟩ := alloc g5 hT
          exact k _ _ _ l T H5 fin (s5 _ _ f4) f5 (Same.trans s1 (Same.trans s3 (Same.trans s4 s5)))
        refine while_by (fun σ H => ∃ c : Nat, σ = [some (.ref a), some (.int p), some (.int g), some (.int q), some (.int R), some (.int c)] ∧ c ≤ b0 ∧ MF.down Pd c = MF.down Pd b0 ∧ H = H1)
          (fun σ _ => match σ with
            | [_, _, _, _, _, some (.int c)] => c.toNat
            | _ => 0) ⟨b0, ?_, Nat.le_refl _, rfl, rfl⟩ ?_ ?_
        · show [some (V.ref a), some (V.int p), some (V.int g), some (V.int q), some (V.int (Int.fdiv (g * (q : Int)) (p : Int))), some (V.int (((s.map V.int).length : Int) - (p : Int)))] = _
          rw [e4, e5]
        · rintro σ H2 ⟨c, rfl, cb, cd, rfl⟩
          cases c with
          | zero =>
            refine ⟨_, rfl, _, _, rfl, rfl, false, bF (by omega), iteF ?_⟩
            exact iteF ⟨by rw [← cd]; rfl, rfl⟩
          | succ c =>
            have ei : ((c + 1 : Nat) : Int) - 1 + (q : Int) = ((c + q : Nat) : Int) := by omega
            have ej : ((c + 1 : Nat) : Int) - 1 = (c : Int) := by omega
            refine ⟨_, rfl, _, _, rfl, rfl, true, bT (by omega), iteT ?_⟩
            refine ⟨_, rfl, _, rfl, _, _, rfl, rfl, _, rfl, _, _, rfl, rfl, a, _, _, V.int (f (c + q)), rfl, rfl, SqL.of ha1, ?_, ?_⟩
            · show atI _ (((c + 1 : Nat) : Int) - 1 + (q : Int)) = _
              rw [ei]
              exact atI_nat (gm _ (by omega))
            refine ⟨_, rfl, _, rfl, _, _, rfl, rfl, a, _, _, V.int (f c), rfl, rfl, SqL.of ha1, ?_, _, rfl, _, _, rfl, rfl, rfl, Pd c, ?_, ?_⟩
            · show atI _ (((c + 1 : Nat) : Int) - 1) = _
              rw [ej]
              exact atI_nat (gm _ (by omega))
            · rw [Pe]
              show V.bl (decide (V.int (f (c + q)) = V.int (f c + R))) = _
              congr 1
              exact decide_eq_decide.mpr ⟨fun z => V.int.inj z, fun z => by rw [z]⟩
            · have cd : (if Pd c then MF.down Pd c else c + 1) = MF.down Pd b0 := cd
              cases e : Pd c with
              | true =>
                rw [e, if_pos rfl] at cd
                refine iteT ⟨_, rfl, _, _, rfl, rfl, ⟨c, by show [_, _, _, _, _, some (V.int (((c + 1 : Nat) : Int) - 1))] = _; rw [ej], by omega, cd, rfl⟩, ?_⟩
                show (((c + 1 : Nat) : Int) - 1).toNat < ((c + 1 : Nat) : Int).toNat
                omega
              | false =>
                rw [e, if_neg Bool.false_ne_true] at cd
                exact iteF ⟨by rw [← cd], rfl⟩
        · intro σ H Q Q' m h
          obtain ⟨v1, e1, i, j, e2, e3, b, e4, h⟩ := h
          refine ⟨v1, e1, i, j, e2, e3, b, e4, ?_⟩
          cases b with
          | false => exact m _ _ h
          | true =>
            obtain ⟨w1, f1, w2, f2, i1, j1, g1, g2, w3, f3, i2, j2, g3, g4, pp, xs, ii, vv, k1, k2, k3, k4, w4, f4, w5, f5, i3, j3, g5, g6, pp', xs', ii', vv', l1, l2, l3, l4, w6, f6, i4, j4, g7, g8, sc, b2, eb, hQ⟩ := h
            exact ⟨w1, f1, w2, f2, i1, j1, g1, g2, w3, f3, i2, j2, g3, g4, pp, xs, ii, vv, k1, k2, k3, k4, w4, f4, w5, f5, i3, j3, g5, g6, pp', xs', ii', vv', l1, l2, l3, l4, w6, f6, i4, j4, g7, g8, sc, b2, eb, m _ _ hQ⟩
    | mkN s k' p g n4 =>
      have lx : (s.map V.int ++ List.replicate (k' + 1) V.non).length = s.length + (k' + 1) := by rw [List.length_append, List.length_map, List.length_replicate]
      have el : (s.map V.int ++ List.replicate (k' + 1) V.non)[(s.map V.int ++ List.replicate (k' + 1) V.non).length - 1]? = some .non := nones_get _ (by rw [lx]; omega) (by rw [lx]; omega)
      refine ⟨_, rfl, 1, rfl, a, _, _, _, rfl, rfl, SqL.of ha, last_get el, rfl, true, rfl, iteT ?_⟩
      have fl : (s.map V.int ++ List.replicate (k' + 1) V.non).all flatV = true := by
        rw [List.all_eq_true]
        intro x hx
        rcases List.mem_append.mp hx with hx | hx
        · obtain ⟨z, _, rfl⟩ := List.mem_map.mp hx
          rfl
        · rw [(List.mem_replicate.mp hx).2]
          rfl
      have tk : (s.map V.int ++ List.replicate (k' + 1) V.non).take (s.length + 1) = s.map V.int ++ [.non] := by
        rw [List.take_append, List.length_map, show s.length + 1 - s.length = 1 by omega, List.take_of_length_le (by rw [List.length_map]; omega)]
        rfl
      refine ⟨_, rfl, _, rfl, .inl ⟨rfl, _, SqL.of ha⟩, a, _, .non, s.length, .non, rfl, rfl, SqL.of ha, rfl, fl, nones_get _ (Nat.le_refl _) (by omega), rfl, fun m z' hm hz => ?_, _, _, rfl, rfl, ((s.length + 1 : Nat) : Int), rfl, a, _, rfl, SqL.of ha, fun t ht => ?_⟩
      · obtain ⟨z, hz2⟩ := ints_get (s := s) (r := List.replicate (k' + 1) V.non) m hm
        rw [hz2] at hz
        cases hz
        rfl
      rw [cutR (by rw [lx]; omega), tk]
      generalize g3 : upd H t _ = H3
      obtain ⟨s3, f3⟩ := alloc g3 ht
      refine ⟨t, _, rfl, .inl ⟨SqL.of f3, fun l hl => ?_⟩⟩
      generalize g4 : upd H3 l _ = H4
      obtain ⟨s4, f4⟩ := alloc g4 hl
      refine ⟨(by show 3 ≤ sizeLine; decide), fun T hT => ?_⟩
      generalize g5 : upd H4 T _ = H5
      obtain ⟨s5, f5⟩ := alloc g5 hT
      exact k _ _ _ l T H5 (FormV.mkN s k' p g) (s5 _ _ f4) f5 (Same.trans s3 (Same.trans s4 s5))
end
end WW
end

section
set_option Elab.async false
set_option linter.all false
set_option maxRecDepth 100000
set_option maxHeartbeats 4000000
/-! Own errors with one attribute: their making, raised. -/
namespace WT
open PySem PySem.Spec PyProof.Rows L2
/-- the promise of «def __init__(self, f): self.f = f» -/
def spErrI (K : PySem.W.Frag) (f : Str) : Sp := fun vs H Q _ => ∃ (a C : Addr) (y : V), vs = [.ref a, y] ∧ H a = some (exo a C none) ∧ OexC K C ∧ PySem.W.findIn K (.ref C) f = some none ∧
  ∀ d, H d = none → d ≠ a → Q .non (upd (upd H d (exd d [(f, y)])) a (exo a C (some d)))
/-- an own error class x with an attribute f, as the top has made it -/
structure ErrT (P : Program) (w : World) (K : PySem.W.Frag) (mg : Str → Option Value) (base : Heap) (x f : Str) (C fI : Addr) (fd : FuncData) : Prop where
  ox : OexC K C
  iC : PySem.W.findIn K (.ref C) "__init__" = some (some (.ref fI))
  tI : PySem.W.typeIn K (.ref fI) = some (.type "function")
  hf : PySem.W.findIn K (.ref C) f = some none
  hd : PySem.W.hasDictIn K C = true
  ask : AskE K C
  gC : mg x = some (.ref C)
  fn : FnOk P w K mg base CX0 1 fI fd [("self" : Str), f] (spErrI K f)
  bd : Binds K fd [("self" : Str), f] []
/-- how the raising leaves the heap -/
def Raised (H : Hp) (f : Str) (y : V) (d : Addr) (H' : Hp) : Prop := H d = none ∧ H' d = some (.xd [(f, y)]) ∧ Same H H'
theorem mkO_post {P : Program} {w : World} {K : PySem.W.Frag} {mg : Str → Option Value} {base : Heap} {x f : Str} {C fI : Addr} {fd : FuncData} {H : Hp} {y : V} {Q : XK} (T : ErrT P w K mg base x f C fI fd)
    (k : ∀ d H', Raised H f y d H' → Q (.ref C) (some d) H') :
    [y].length ≤ 1000 ∧ ∀ a, H a = none → spErrI K f (.ref a :: ([y] ++ [])) (upd H a (exo a C none))
      (fun v H2 => v = .non ∧ ∃ (d : Addr) (fs : List (Str × V)), H2 a = some (exo a C (some d)) ∧ H2 d = some (exd d fs) ∧ H d = none ∧ Q (.ref C) (some d) (upd (del H2 a) d (.xd fs))) (fun _ _ _ => False) := by
  refine ⟨(by show 1 ≤ 1000; decide), fun a ha => ⟨a, C, y, rfl, upd_same, T.ox, T.hf, fun d hd hne => ?_⟩⟩
  have hd0 : H d = none := by rwa [upd_ne hne] at hd
  refine ⟨rfl, d, [(f, y)], upd_same, by rw [upd_ne hne, upd_same], hd0, k d _ ⟨hd0, upd_same, fun b o e => ?_⟩⟩
  have b1 : b ≠ d := ne_of_none e hd0
  have b2 : b ≠ a := ne_of_none e ha
  rw [upd_ne b1, del_ne b2, upd_ne b2, upd_ne b1, upd_ne b2]
  exact e
/-- an own error class x without an attribute -/
structure PlainT (K : PySem.W.Frag) (mg : Str → Option Value) (x : Str) (C : Addr) : Prop where
  ex : PySem.W.excIn K C [.type "ValueError", .type "Exception", .type "BaseException", .type "object"] "ValueError.__new__" = true
  gC : mg x = some (.ref C)
  kC : PySem.W.keepIn K (.ref C) = true
  sb : PySem.W.subIn K (.ref C) (.type "BaseException") = some true
  ty : PySem.W.typeIn K (.ref C) = some (.type "type")
  ask : AskE K C
/-- the wish of nothing -/
abbrev E00 : XK := fun _ _ _ => False
theorem passF {X : Cx} : Passes (L2.CX X.prog X.w) X E00 := by
  intro pins σ H s e s' I c
  obtain ⟨a, B, H', cls, d, _, _, _, _, _, _, _, z⟩ := c
  exact z.elim
/-- from where an error leaves the def -/
theorem passX {X : Cx} {W : WX} {E : XK} (tk : Takes X W) (h : ∀ cls d σ H, E cls d H → W cls d σ H) : Passes (L2.CX X.prog X.w) X E := passes_call tk h
theorem Raised.same {H H1 H2 : Hp} {f : Str} {y : V} {d : Addr} (s : Same H H1) (r : Raised H1 f y d H2) : Raised H f y d H2 :=
  ⟨s.free r.1, r.2.1, Same.trans s r.2.2⟩
end WT
end

section
set_option Elab.async false
set_option linter.all false
set_option maxRecDepth 100000
set_option maxHeartbeats 4000000
namespace WW
open PySem L2 WO WG RZ WQ WT
def inClass (st : Stmt) (i : Nat) : Stmt := match st with
  | .ClassDef _ _ _ body _ _ _ _ _ _ _ => body.getD i (.Pass ⟨0, 0, 0, 0⟩)
  | s => s
abbrev sInit : Stmt := inClass sCurve 0
abbrev sEq : Stmt := inClass sCurve 1
structure MakeOk (xs : List V) (p : Nat) (g : Int) : Prop where
  st : StartOk xs
  fo : FormIn xs p g
  p1 : 1 ≤ p
  p2 : p ≤ 60
  p3 : p ≤ xs.length
  g0 : 0 ≤ g
  g1 : g ≤ 1000000000
  fa : ∃ x y : V, atI xs ((xs.length : Int) - (p : Int)) = some x ∧ atI xs (-1) = some y ∧ ((∃ i j : Int, x = .int i ∧ y = .int j ∧ j ≤ i + g) ∨ (x = .non ∧ y = .non))
structure CurT (K : PySem.W.Frag) (mg : Str → Option Value) (C fI fE : Addr) : Prop where
  cl : Cls K C
  nS : NoAttr K C "start"
  nP : NoAttr K C "period"
  nG : NoAttr K C "growth"
  cc : PySem.W.findIn K (.ref C) "__class__" = some (some (.builtin "object.__class__"))
  cg : PySem.W.specialIn K (.builtin "object.__class__") "__get__" = some (some (.builtin "getset_descriptor.__get__"))
  ct : PySem.W.takesIn K (.builtin "object.__class__") = some true
  co : PySem.W.mroIn K C (.type "object") = some true
  kC : PySem.W.kitOne K (.ref C) (.ref C) = some true
  kD : PySem.W.kitOne K (.type "dict") (.ref C) = some false
  kT : PySem.W.kitOne K (.type "tuple") (.ref C) = some false
  mC : mg "Curve" = some (.ref C)
  mkC : Mk K C fI
  eqF : PySem.W.findIn K (.ref C) "__eq__" = some (some (.ref fE))
  iE : PySem.W.isFn K (.ref fE) = true
  ne : neB K C fE = true
  nfC : PySem.W.notFirst K C (.ref C) = true
  nfD : PySem.W.notFirst K C (.type "dict") = true
  nfT : PySem.W.notFirst K C (.type "tuple") = true
def curF (t : Addr) (q r : Int) : List (Str × V) := [("start", V.ref t), ("period", .int q), ("growth", .int r)]
def CurveAt (H : Hp) (C x : Addr) (vals : List V) (q r : Int) : Prop := ∃ dx t, H x = some (.ins C dx (curF t q r)) ∧ H t = some (.tup vals)
theorem CurveAt.same {H H' : Hp} {C x : Addr} {vals : List V} {q r : Int} (h : CurveAt H C x vals q r) (s : Same H H') : CurveAt H' C x vals q r := by
  obtain ⟨dx, t, h1, h2⟩ := h
  exact ⟨dx, t, s _ _ h1, s _ _ h2⟩
section
variable {P : Program} {w : World} {K : PySem.W.Frag} {mg : Str → Option Value} {base : Heap}
/-- what may stand in the place of a number -/
def badFrom (K : PySem.W.Frag) (H : Hp) (x : V) (lo hi : Int) : Prop := NumT K H x false ∨ ∃ i : Int, x = .int i ∧ ¬ (lo ≤ i ∧ i ≤ hi)
theorem from_bad {K : PySem.W.Frag} {H : Hp} {x : V} {lo hi : Int} {Q : VK} {E : XK} (h : badFrom K H x lo hi) (k : Q (.bl false) H) : spFrom K [x, .int lo, .int hi] H Q E := by
  rcases h with h | ⟨i, rfl, h⟩
  · exact ⟨_, _, _, rfl, .inr ⟨h, k⟩⟩
  · refine ⟨_, _, _, rfl, .inl ⟨i, lo, hi, rfl, rfl, rfl, ?_⟩⟩
    rw [decide_eq_false h]
    exact k
theorem from_ok {K : PySem.W.Frag} {H : Hp} {i lo hi : Int} {Q : VK} {E : XK} (h : lo ≤ i ∧ i ≤ hi) (k : Q (.bl true) H) : spFrom K [.int i, .int lo, .int hi] H Q E := by
  refine ⟨_, _, _, rfl, .inl ⟨i, lo, hi, rfl, rfl, rfl, ?_⟩⟩
  rw [decide_eq_true h]
  exact k
theorem badFrom.same {K : PySem.W.Frag} {H H' : Hp} {x : V} {lo hi : Int} (h : badFrom K H x lo hi) (s : Same H H') : badFrom K H' x lo hi := by
  rcases h with h | h
  · exact .inl (h.same s)
  · exact .inr h
/-- which part of a curve is told wrong, the first one first -/
inductive InitBad (K : PySem.W.Frag) (H : Hp) (s p g : V) : Str → Prop
  | noList (h : ListT K H s false) : InitBad K H s p g "start"
  | start {a : Addr} {xs : List V} (e : s = .ref a) (h : SeqA K H a xs) (fl : xs.all flatV = true) (hz : xs.length < sizeLine) (no : ¬ StartOk xs) : InitBad K H s p g "start"
  | period {a : Addr} {xs : List V} (e : s = .ref a) (h : SeqA K H a xs) (fl : xs.all flatV = true) (S : StartOk xs) (hp : badFrom K H p 1 ((min 60 xs.length : Nat) : Int)) : InitBad K H s p g "period"
  | growth {a : Addr} {xs : List V} {n : Nat} (e : s = .ref a) (h : SeqA K H a xs) (fl : xs.all flatV = true) (S : StartOk xs) (ep : p = .int n) (p1 : 1 ≤ n) (p2 : n ≤ 60) (p3 : n ≤ xs.length) (hg : badFrom K H g 0 1000000000) : InitBad K H s p g "growth"
  | falls {a : Addr} {xs : List V} {n : Nat} {i : Int} {x y : V} (e : s = .ref a) (h : SeqA K H a xs) (fl : xs.all flatV = true) (S : StartOk xs) (ep : p = .int n) (p1 : 1 ≤ n) (p2 : n ≤ 60) (p3 : n ≤ xs.length) (eg : g = .int i) (g0 : 0 ≤ i) (g1 : i ≤ 1000000000)
      (ex : atI xs ((xs.length : Int) - (n : Int)) = some x) (ey : atI xs (-1) = some y) (fa : fallsV x y i true) : InitBad K H s p g "growth"
theorem StartOk.flat {xs : List V} (S : StartOk xs) : xs.all flatV = true := by
  rw [List.all_eq_true]
  intro x hx
  obtain ⟨i, hi, e⟩ := List.mem_iff_getElem.mp hx
  rcases S.el i x (by rw [List.getElem?_eq_getElem hi, e]) with rfl | ⟨z, rfl, _⟩ <;> rfl
theorem min60 (n : Nat) : (if (n : Int) < 60 then (n : Int) else 60) = ((min 60 n : Nat) : Int) := by
  split <;> omega
def spInit (K : PySem.W.Frag) (C CB : Addr) : Sp := fun vs H Q E => ∃ (x dx : Addr) (s p g : V), vs = [.ref x, s, p, g] ∧ H x = some (.ins C dx []) ∧
  ((∃ (a : Addr) (xs : List V) (n : Nat) (i : Int), s = .ref a ∧ p = .int n ∧ g = .int i ∧ SeqA K H a xs ∧ MakeOk xs n i ∧
    ∀ (vals : List V) (q r : Int) (H' : Hp), FormV xs n i vals q r → CurveAt H' C x vals q r → (∀ b o, H b = some o → b ≠ x → H' b = some o) → Q .non H') ∨
  ∃ part, InitBad K H s p g part ∧ ∀ d H', Raised H "part" (.str part) d H' → E (.ref CB) (some d) H')
theorem scInit : FnScope ["self", "start", "period", "growth"] ["self", "start", "period", "growth"] (defScope sInit) := ⟨rfl, rfl, rfl, by decide +kernel, rfl, by decide +kernel, by decide +kernel⟩
theorem ok_init {f fS fF fA fM C fE CB fI : Addr} {fd dS dF dA dM dI : FuncData} (F : Fun K "__init__" "Curve.__init__" sInit f fd) (T : CurG mg) (U : CurT K mg C f fE) (B : ErrT P w K mg base "BadCurve" "part" CB fI dI)
    (GS : FnOk P w K mg base CX0 3 fS dS ["thing"] (spStart K)) (kS : PySem.W.keepIn K (.ref fS) = true) (bS : Binds K dS ["thing"] []) (mS : mg "is_start" = some (.ref fS))
    (GF : FnOk P w K mg base CX0 2 fF dF ["thing", "low", "high"] (spFrom K)) (kF : PySem.W.keepIn K (.ref fF) = true) (bF : Binds K dF ["thing", "low", "high"] []) (mF : mg "is_from" = some (.ref fF))
    (GA : FnOk P w K mg base CX0 2 fA dA ["start", "period", "growth"] (spFalls K)) (kA : PySem.W.keepIn K (.ref fA) = true) (bA : Binds K dA ["start", "period", "growth"] []) (mA : mg "falls_behind" = some (.ref fA))
    (GM : FnOk P w K mg base CX0 2 fM dM ["row", "period", "growth"] (spForm K)) (kM : PySem.W.keepIn K (.ref fM) = true) (bM : Binds K dM ["row", "period", "growth"] []) (mM : mg "least_form" = some (.ref fM)) :
    FnOk P w K mg base (L2.CX P w) 4 f fd ["self", "start", "period", "growth"] (spInit K C CB) := by
  refine F.okX scInit (fun vs H Q E h => ?_) (fun cdv A outer s H vs Q E hr h => ?_)
  · obtain ⟨x, dx, s, p, g, rfl, _⟩ := h
    rfl
  · obtain ⟨x, dx, sv, pv', gv, rfl, hx, h⟩ := h
    have hr2 := hr.mono (show 2 ≤ 3 by decide)
    obtain ⟨tm, mMost⟩ := T.most
    refine ⟨_, pss_cons (ps_if (pt_not (pt_val (pe_call GS hr rfl mS kS bS .nil pass0 (pa_cons (pv 1) pa_nil))))
        (pss_one (ps_raise rfl (takes_of rfl rfl rfl rfl) (pmk_oex B.ox B.iC B.tI B.fn hr2 B.bd .nil pass0 rfl B.gC (pa_cons pe_str pa_nil)))) pss_nil)
      (pss_cons (ps_if (pt_not (pt_val (pe_call GF hr2 rfl mF kF bF .nil pass0 (pa_cons (pv 2) (pa_cons pe_int (pa_cons (pe_callB (call_min2 rfl) (by rfl) T.min (by decide +kernel) (pa_cons pe_int (pa_cons (pe_callB call_len_seq (by rfl) T.len PySem.boot_len (pa_cons (pv 1) pa_nil)) pa_nil))) pa_nil))))))
        (pss_one (ps_raise rfl (takes_of rfl rfl rfl rfl) (pmk_oex B.ox B.iC B.tI B.fn hr2 B.bd .nil pass0 rfl B.gC (pa_cons pe_str pa_nil)))) pss_nil)
      (pss_cons (ps_if (PW.pt (pw_or (pt_not (pt_val (pe_call GF hr2 rfl mF kF bF .nil pass0 (pa_cons (pv 3) (pa_cons pe_int (pa_cons (pe_glob (v := .int 1000000000) rfl mMost ⟨_, rfl⟩) pa_nil))))))
          (pw_or1 (pt_val (pe_call GA hr2 rfl mA kA bA .nil pass0 (pa_cons (pv 1) (pa_cons (pv 2) (pa_cons (pv 3) pa_nil))))))))
        (pss_one (ps_raise rfl (takes_of rfl rfl rfl rfl) (pmk_oex B.ox B.iC B.tI B.fn hr2 B.bd .nil pass0 rfl B.gC (pa_cons pe_str pa_nil)))) pss_nil)
      (pss_one (ps_asg (pe_call GM hr2 rfl mM kM bM .nil pass0 (pa_cons (pe_callTy call_list_of (by rfl) T.list (by decide +kernel) (pa_cons (pv 1) pa_nil)) (pa_cons (pv 2) (pa_cons (pv 3) pa_nil))))
        (pg_tup rfl (pgs_cons (pg_attr (pv 0)) (pgs_cons (pg_attr (pv 0)) (pgs_cons (pg_attr (pv 0)) pgs_nil)))))))), ?_⟩
    rcases h with ⟨a, xs, p, g, rfl, rfl, rfl, h, M, k⟩ | ⟨part, bad, k⟩
    · obtain ⟨ex, ey, e1, e2, e3⟩ := M.fa
      refine ⟨_, rfl, .ref a, rfl, .inr ⟨a, xs, rfl, h, M.st.flat, by have := M.st.l2; exact small1000' (by omega), fun b H1 s1 ib => ?_⟩⟩
      have hb : b = true := ib.mpr M.st
      subst hb
      refine ⟨true, rfl, iteF ?_⟩
      have h1 := h.same s1
      refine ⟨_, rfl, _, rfl, a, xs, rfl, h1, _, _, rfl, ?_⟩
      refine ⟨_, _, _, rfl, .inl ⟨p, 1, _, rfl, rfl, rfl, ?_⟩⟩
      refine ⟨_, rfl, ?_⟩
      rw [min60, decide_eq_true (show (1 : Int) ≤ p ∧ (p : Int) ≤ ((min 60 xs.length : Nat) : Int) by have := M.p1; have := M.p2; have := M.p3; omega)]
      refine iteF ?_
      refine ⟨_, rfl, _, _, _, rfl, .inl ⟨g, 0, 1000000000, rfl, rfl, rfl, ?_⟩⟩
      refine ⟨_, rfl, ?_⟩
      rw [decide_eq_true (show (0 : Int) ≤ g ∧ g ≤ 1000000000 from ⟨M.g0, M.g1⟩)]
      refine iteF ?_
      have ff : fallsV ex ey g false := by
        rcases e3 with ⟨i, j, rfl, rfl, l⟩ | ⟨rfl, rfl⟩
        · exact .inl ⟨i, rfl, .inl ⟨j, rfl, (decide_eq_false (by omega)).symm⟩⟩
        · exact .inr ⟨rfl, rfl, rfl⟩
      refine ⟨_, rfl, _, rfl, _, rfl, a, xs, p, g, ex, ey, false, rfl, h1, e1, e2, ff, false, rfl, iteF ?_⟩
      refine ⟨_, rfl, a, xs, rfl, h1, fun l hl => ?_⟩
      generalize g2 : upd H1 l _ = H2
      obtain ⟨s2, f2⟩ := alloc g2 hl
      refine ⟨_, rfl, _, rfl, l, xs, p, g, rfl, f2, M.fo, fun vals q r t T' H3 fv ht hT s3 => ?_⟩
      have hx3 : H3 x = some (.ins C dx []) := s3 _ _ (s2 _ _ (s1 _ _ hx))
      refine ⟨T', _, rfl, SqT.of hT, rfl, _, _, rfl, _, rfl, x, C, dx, [], rfl, hx3, U.cl, U.nS, by decide, ?_⟩
      refine ⟨_, _, rfl, _, rfl, x, C, dx, _, rfl, upd_same, U.cl, U.nP, (by show 1 < 1000; decide), ?_⟩
      refine ⟨_, _, rfl, _, rfl, x, C, dx, _, rfl, upd_same, U.cl, U.nG, (by show 2 < 1000; decide), rfl, ?_⟩
      have hxt : t ≠ x := ne_of ht hx3 (by intro z; cases z)
      refine k vals q r _ fv ⟨dx, t, upd_same, by rw [upd_ne hxt, upd_ne hxt, upd_ne hxt]; exact ht⟩ fun b o e hb => ?_
      rw [upd_ne hb, upd_ne hb, upd_ne hb]
      exact s3 _ _ (s2 _ _ (s1 _ _ e))
    · cases bad with
      | noList hl => exact ⟨_, rfl, sv, rfl, .inl ⟨hl, fun H1 s1 => ⟨false, rfl, iteT (mkO_post B fun d H' r => k d H' (Raised.same s1 r))⟩⟩⟩
      | start e h fl hz no =>
        subst e
        refine ⟨_, rfl, _, rfl, .inr ⟨_, _, rfl, h, fl, hz, fun b H1 s1 ib => ?_⟩⟩
        cases b with
        | true => exact absurd (ib.mp rfl) no
        | false => exact ⟨false, rfl, iteT (mkO_post B fun d H' r => k d H' (Raised.same s1 r))⟩
      | period e h fl S hp =>
        subst e
        refine ⟨_, rfl, _, rfl, .inr ⟨_, _, rfl, h, fl, by have := S.l2; exact small1000' (by omega), fun b H1 s1 ib => ?_⟩⟩
        have hb : b = true := ib.mpr S
        subst hb
        refine ⟨true, rfl, iteF ?_⟩
        refine ⟨_, rfl, _, rfl, _, _, rfl, h.same s1, _, _, rfl, ?_⟩
        rcases hp.same s1 with n | ⟨i, e, no⟩
        · exact ⟨_, _, _, rfl, .inr ⟨n, false, rfl, iteT (mkO_post B fun d H' r => k d H' (Raised.same s1 r))⟩⟩
        · subst e
          refine ⟨_, _, _, rfl, .inl ⟨i, 1, _, rfl, rfl, rfl, _, rfl, ?_⟩⟩
          rw [min60, decide_eq_false no]
          exact iteT (mkO_post B fun d H' r => k d H' (Raised.same s1 r))
      | growth e h fl S ep p1 p2 p3 hg =>
        subst e ep
        refine ⟨_, rfl, _, rfl, .inr ⟨_, _, rfl, h, fl, by have := S.l2; exact small1000' (by omega), fun b H1 s1 ib => ?_⟩⟩
        have hb : b = true := ib.mpr S
        subst hb
        refine ⟨true, rfl, iteF ?_⟩
        refine ⟨_, rfl, _, rfl, _, _, rfl, h.same s1, _, _, rfl, ?_⟩
        rename_i xs n
        refine ⟨_, _, _, rfl, .inl ⟨n, 1, _, rfl, rfl, rfl, _, rfl, ?_⟩⟩
        rw [min60, decide_eq_true (show (1 : Int) ≤ n ∧ (n : Int) ≤ ((min 60 xs.length : Nat) : Int) by omega)]
        refine iteF ?_
        rcases hg.same s1 with n' | ⟨i, e, no⟩
        · exact ⟨_, rfl, _, _, _, rfl, .inr ⟨n', false, rfl, iteT (mkO_post B fun d H' r => k d H' (Raised.same s1 r))⟩⟩
        · subst e
          refine ⟨_, rfl, _, _, _, rfl, .inl ⟨i, 0, 1000000000, rfl, rfl, rfl, _, rfl, ?_⟩⟩
          rw [decide_eq_false no]
          exact iteT (mkO_post B fun d H' r => k d H' (Raised.same s1 r))
      | falls e h fl S ep p1 p2 p3 eg g0 g1 ex ey fa =>
        subst e ep eg
        refine ⟨_, rfl, _, rfl, .inr ⟨_, _, rfl, h, fl, by have := S.l2; exact small1000' (by omega), fun b H1 s1 ib => ?_⟩⟩
        have hb : b = true := ib.mpr S
        subst hb
        refine ⟨true, rfl, iteF ?_⟩
        refine ⟨_, rfl, _, rfl, _, _, rfl, h.same s1, _, _, rfl, ?_⟩
        rename_i xs n i x' y'
        refine ⟨_, _, _, rfl, .inl ⟨n, 1, _, rfl, rfl, rfl, _, rfl, ?_⟩⟩
        rw [min60, decide_eq_true (show (1 : Int) ≤ n ∧ (n : Int) ≤ ((min 60 xs.length : Nat) : Int) by omega)]
        refine iteF ?_
        refine ⟨_, rfl, _, _, _, rfl, .inl ⟨i, 0, 1000000000, rfl, rfl, rfl, _, rfl, ?_⟩⟩
        rw [decide_eq_true (show (0 : Int) ≤ i ∧ i ≤ 1000000000 from ⟨g0, g1⟩)]
        refine iteF ?_
        exact ⟨_, rfl, _, rfl, _, rfl, _, _, _, _, _, _, true, rfl, h.same s1, ex, ey, fa, true, rfl, iteT (mkO_post B fun d H' r => k d H' (Raised.same s1 r))⟩
end
end WW
end

section
set_option Elab.async false
set_option linter.all false
set_option maxRecDepth 100000
set_option maxHeartbeats 4000000
namespace WW
open PySem L2 WO WG RZ
/-! ### rows as data -/
def vD : V → PyData
  | .int i => .int i
  | _ => .none
def FlatR (vs : List V) : Prop := ∀ v ∈ vs, v = .non ∨ ∃ i : Int, v = .int i
theorem FlatR.tl {v : V} {r : List V} (h : FlatR (v :: r)) : FlatR r := fun x hx => h x (List.mem_cons_of_mem _ hx)
theorem dpAll_row {K : PySem.W.Frag} {H : Hp} : ∀ vs : List V, FlatR vs → DpAll K H vs (vs.map vD)
  | [], _ => .nil
  | v :: r, h => by
    rcases h v (List.mem_cons_self ..) with rfl | ⟨i, rfl⟩
    · exact .cons .non (dpAll_row r h.tl)
    · exact .cons (.int i) (dpAll_row r h.tl)
theorem can_row : ∀ vs : List V, PyData.canLayAll0 (vs.map vD) = true
  | [] => by simp [PyData.canLayAll0]
  | v :: r => by
    have := can_row r
    cases v <;> simp [PyData.canLayAll0, PyData.canLay0, vD, this]
theorem depth_row : ∀ vs : List V, PyData.depthAll (vs.map vD) = 0
  | [] => by simp [PyData.depthAll]
  | v :: r => by
    have := depth_row r
    cases v <;> simp [PyData.depthAll, PyData.depth, vD, this]
theorem eqvAll_row : ∀ vs us : List V, FlatR vs → FlatR us → PyData.eqvAll (vs.map vD) (us.map vD) = decide (vs = us)
  | [], [], _, _ => by simp [PyData.eqvAll]
  | [], _ :: _, _, _ => by simp [PyData.eqvAll]
  | _ :: _, [], _, _ => by simp [PyData.eqvAll]
  | a :: r, b :: q, h1, h2 => by
    have ih := eqvAll_row r q h1.tl h2.tl
    rcases h1 a (List.mem_cons_self ..) with rfl | ⟨i, rfl⟩ <;> rcases h2 b (List.mem_cons_self ..) with rfl | ⟨j, rfl⟩
    · simp [PyData.eqvAll, PyData.eqv, vD, ih]
    · simp [PyData.eqvAll, PyData.eqv, vD]
    · simp [PyData.eqvAll, PyData.eqv, vD]
    · simp [PyData.eqvAll, PyData.eqv, vD, ih]
      rfl
def rowD (vs : List V) : PyData := .list (vs.map vD)
theorem shaped_row (vs : List V) : SeqAt.shaped (rowD vs) = true := by
  simp [SeqAt.shaped, rowD, PyData.canLay0, PyData.depth, can_row, depth_row]
theorem eqv_row {vs us : List V} (h1 : FlatR vs) (h2 : FlatR us) : PyData.eqv (rowD vs) (rowD us) = decide (vs = us) := by
  rw [← eqvAll_row vs us h1 h2]
  simp [PyData.eqv, rowD]
def curD (vs : List V) (q r : Int) : PyData := .tuple [.tuple (vs.map vD), .int q, .int r]
theorem shaped_cur (vs : List V) (q r : Int) : SeqAt.shaped (curD vs q r) = true := by
  simp [SeqAt.shaped, curD, PyData.canLay0, PyData.canLayAll0, PyData.depth, PyData.depthAll, can_row, depth_row]
theorem eqv_cur {vs us : List V} (h1 : FlatR vs) (h2 : FlatR us) (q r q' r' : Int) : PyData.eqv (curD vs q r) (curD us q' r') = decide (vs = us ∧ q = q' ∧ r = r') := by
  have e := eqvAll_row vs us h1 h2
  simp [PyData.eqv, PyData.eqvAll, curD, e, Bool.decide_and]
  rfl
theorem formV_flat {xs : List V} {p : Nat} {g : Int} {vals : List V} {q r : Int} (h : FormV xs p g vals q r) : FlatR vals := by
  cases h with
  | mkI s p g q r b p0 pn h l =>
    intro v hv
    obtain ⟨j, _, rfl⟩ := List.mem_map.mp hv
    exact .inr ⟨_, rfl⟩
  | mkN s k p g =>
    intro v hv
    rcases List.mem_append.mp hv with hv | hv
    · obtain ⟨j, _, rfl⟩ := List.mem_map.mp hv
      exact .inr ⟨_, rfl⟩
    · rw [List.mem_singleton.mp hv]
      exact .inl rfl
section
variable {P : Program} {w : World} {K : PySem.W.Frag} {mg : Str → Option Value} {base : Heap}
theorem dp_cur {H : Hp} {T t : Addr} {vals : List V} {q r : Int} (h : H T = some (.tup [.ref t, .int q, .int r])) (h2 : H t = some (.tup vals)) (hf : FlatR vals) : Dp K H (.ref T) (curD vals q r) :=
  .tup (SqT.of h) (.cons (.tup (SqT.of h2) (dpAll_row vals hf)) (.cons (.int q) (.cons (.int r) .nil)))
def spEqC (K : PySem.W.Frag) (C : Addr) : Sp := fun vs H Q _ => ∃ (x : Addr) (y : V) (vals : List V) (q r : Int), vs = [.ref x, y] ∧ CurveAt H C x vals q r ∧ FlatR vals ∧
  ((∃ (x' : Addr) (vals' : List V) (q' r' : Int), y = .ref x' ∧ CurveAt H C x' vals' q' r' ∧ FlatR vals' ∧ ∀ H', Same H H' → Q (.bl (decide (vals = vals' ∧ q = q' ∧ r = r'))) H') ∨
   (∃ (t : String), (t = "dict" ∨ t = "tuple") ∧ TyX K H y (.type t) ∧ ∀ H', Same H H' → Q (.bl false) H'))
theorem scEq : FnScope ["self", "other"] ["self", "other"] (defScope sEq) := ⟨rfl, rfl, rfl, by decide +kernel, rfl, by decide +kernel, by decide +kernel⟩
theorem ok_eq {f fI C : Addr} {fd : FuncData} (F : Fun K "__eq__" "Curve.__eq__" sEq f fd) (T : CurG mg) (U : CurT K mg C fI f) :
    FnOk P w K mg base CX0 1 f fd ["self", "other"] (spEqC K C) := by
  refine F.ok scEq (fun vs H Q E h => ?_) (fun cdv A outer s H vs Q E hr h => ?_)
  · obtain ⟨x, y, vals, q, r, rfl, _⟩ := h
    rfl
  · obtain ⟨x, y, vals, q, r, rfl, hx, fl, h⟩ := h
    have hu := hr.units
    refine ⟨_, pss_cons (ps_if (pt_not (pt_val (pe_callB call_isi (by rfl) T.isi (by decide +kernel) (pa_cons (pv 1) (pa_cons (pe_glob (v := .ref C) rfl U.mC rfl) pa_nil))))) (pss_one (ps_ret pe_bl)) pss_nil)
      (pss_one (ps_ret (pe_cmpR (op_eqD hu) (pe_tup (pa_cons (pe_fld (pv 0) rfl) (pa_cons (pe_fld (pv 0) rfl) (pa_cons (pe_fld (pv 0) rfl) pa_nil))))
        (pe_tup (pa_cons (pe_fld (pv 1) rfl) (pa_cons (pe_fld (pv 1) rfl) (pa_cons (pe_fld (pv 1) rfl) pa_nil)))) (nomark _)))), ?_⟩
    rcases h with ⟨x', vals', q', r', rfl, hy, fl', k⟩ | ⟨t, ht, ty, k⟩
    · obtain ⟨dx, t, h1, h2⟩ := id hx
      obtain ⟨dy, t', h3, h4⟩ := id hy
      refine ⟨_, rfl, .ref x', .ref C, .ref C, .ref C, true, rfl, .own C, .base (.ins h3 U.cl U.cc U.cg U.ct U.co), U.kC, true, rfl, iteF ?_⟩
      refine ⟨_, rfl, x, C, dx, _, .ref t, rfl, h1, U.cl, U.nS, rfl, _, rfl, x, C, dx, _, .int q, rfl, h1, U.cl, U.nP, rfl, _, rfl, x, C, dx, _, .int r, rfl, h1, U.cl, U.nG, rfl, (by show 3 ≤ sizeLine; decide), fun T1 hT1 => ?_⟩
      generalize g5 : upd H T1 _ = H1
      obtain ⟨s1, f1⟩ := alloc g5 hT1
      refine ⟨_, rfl, x', C, dy, _, .ref t', rfl, s1 _ _ h3, U.cl, U.nS, rfl, _, rfl, x', C, dy, _, .int q', rfl, s1 _ _ h3, U.cl, U.nP, rfl, _, rfl, x', C, dy, _, .int r', rfl, s1 _ _ h3, U.cl, U.nG, rfl, (by show 3 ≤ sizeLine; decide), fun T2 hT2 => ?_⟩
      generalize g6 : upd H1 T2 _ = H2
      obtain ⟨s2, f2⟩ := alloc g6 hT2
      refine ⟨curD vals q r, curD vals' q' r', dp_cur (s2 _ _ f1) (s2 _ _ (s1 _ _ h2)) fl, dp_cur f2 (s2 _ _ (s1 _ _ h4)) fl', shaped_cur _ _ _, shaped_cur _ _ _, ?_⟩
      rw [eqv_cur fl fl']
      exact k H2 (Same.trans s1 s2)
    · rcases ht with rfl | rfl
      · exact ⟨_, rfl, y, .ref C, .type "dict", .ref C, false, rfl, .own C, ty, U.kD, false, rfl, iteT (k H (Same.refl _))⟩
      · exact ⟨_, rfl, y, .ref C, .type "tuple", .ref C, false, rfl, .own C, ty, U.kT, false, rfl, iteT (k H (Same.refl _))⟩
/-! ### sketches -/
def skKvs (a : Addr) (p g : Int) : List (Key × V) := [(Sum.inr "start", .ref a), (Sum.inr "period", .int p), (Sum.inr "growth", .int g)]
theorem sk_start {H : Hp} {d a : Addr} {p g : Int} (h : H d = some (.dK (skKvs a p g))) : DGet H d (.str "start") (some (.ref a)) := by
  have e : valV (skKvs a p g) (Sum.inr "start" : Key) = some (.ref a) := by rfl
  rw [← e]
  exact DGet.k (k := Sum.inr "start") h
theorem sk_period {H : Hp} {d a : Addr} {p g : Int} (h : H d = some (.dK (skKvs a p g))) : DGet H d (.str "period") (some (.int p)) := by
  have e : valV (skKvs a p g) (Sum.inr "period" : Key) = some (.int p) := by rfl
  rw [← e]
  exact DGet.k (k := Sum.inr "period") h
theorem sk_growth {H : Hp} {d a : Addr} {p g : Int} (h : H d = some (.dK (skKvs a p g))) : DGet H d (.str "growth") (some (.int g)) := by
  have e : valV (skKvs a p g) (Sum.inr "growth" : Key) = some (.int g) := by rfl
  rw [← e]
  exact DGet.k (k := Sum.inr "growth") h
end
end WW
end

section
set_option Elab.async false
set_option linter.all false
set_option maxRecDepth 100000
set_option maxHeartbeats 4000000
namespace WW
open PySem L2 WO WG RZ
abbrev sSteps : Stmt := top 64
abbrev sSketch : Stmt := top 65
/-- a sketch, apart from the draw -/
structure SkAt (H : Hp) (d l e a : Addr) (xs : List V) (p : Nat) (g : Int) : Prop where
  ob : H e = some (.dK (skKvs a p g))
  li : H a = some (.lst xs)
  ed : e ≠ d
  el : e ≠ l
  ad : a ≠ d
  al : a ≠ l
theorem SkAt.keep {H H' : Hp} {d l e a : Addr} {xs : List V} {p : Nat} {g : Int} (h : SkAt H d l e a xs p g) (k : KeepD H H' d l) : SkAt H' d l e a xs p g :=
  ⟨k _ _ h.ob h.ed h.el, k _ _ h.li h.ad h.al, h.ed, h.el, h.ad, h.al⟩
theorem DrawAt.some_d {H : Hp} {d l c : Addr} (D : DrawAt H d l c) : ∃ o, H d = some o := by obtain ⟨⟨r, t, h⟩, _⟩ := D; exact ⟨_, h⟩
theorem DrawAt.some_l {H : Hp} {d l c : Addr} (D : DrawAt H d l c) : ∃ o, H l = some o := by obtain ⟨_, ⟨la, h, _⟩, _⟩ := D; exact ⟨_, h⟩
theorem DrawAt.nd {H : Hp} {d l c p : Addr} (D : DrawAt H d l c) (h : H p = none) : p ≠ d := fun e => by
  obtain ⟨o, q⟩ := D.some_d
  rw [← e, h] at q
  cases q
theorem DrawAt.nl {H : Hp} {d l c p : Addr} (D : DrawAt H d l c) (h : H p = none) : p ≠ l := fun e => by
  obtain ⟨o, q⟩ := D.some_l
  rw [← e, h] at q
  cases q
theorem DrawAt.nc {H : Hp} {d l c p : Addr} (D : DrawAt H d l c) (h : H p = none) : p ≠ c := fun e => by
  obtain ⟨_, _, ⟨ce, q, _⟩, _⟩ := D
  rw [← e, h] at q
  cases q
theorem DrawAt.put {H : Hp} {d l c p : Addr} {o : HO} (D : DrawAt H d l c) (pd : p ≠ d) (pl : p ≠ l) (pc : p ≠ c) : DrawAt (upd H p o) d l c := by
  obtain ⟨⟨r, t, h⟩, ⟨la, h2, h3⟩, ⟨ce, h4, h5⟩, h6⟩ := D
  exact ⟨⟨r, t, by rw [upd_ne pd.symm]; exact h⟩, ⟨la, by rw [upd_ne pl.symm]; exact h2, h3⟩, ⟨ce, by rw [upd_ne pc.symm]; exact h4, h5⟩, h6⟩
theorem KeepD.trans' {H H1 : Hp} {d l p : Addr} {o : HO} (k : KeepD H H1 d l) (h : H p = none) : KeepD H (upd H1 p o) d l := fun b u e h1 h2 => by
  rw [upd_ne (ne_of_none e h)]
  exact k b u e h1 h2
/-- nondecreasing -/
def Asc (s : List Int) : Prop := ∀ (i : Nat) (x y : Int), s[i]? = some x → s[i + 1]? = some y → x ≤ y
def Within (s : List Int) (B : Int) : Prop := ∀ (i : Nat) (x : Int), s[i]? = some x → 0 ≤ x ∧ x ≤ B
section
variable {P : Program} {w : World} {K : PySem.W.Frag} {mg : Str → Option Value} {base : Heap}
theorem pick4 {a b c r : Int} {i : Nat} {x : V} (h : [V.int a, .int b, .int c, .int r][i]? = some x) {M : Int} (ha : 0 ≤ a ∧ a ≤ M) (hb : 0 ≤ b ∧ b ≤ M) (hc : 0 ≤ c ∧ c ≤ M) (hr : 0 ≤ r ∧ r ≤ M) : ∃ z : Int, x = .int z ∧ 0 ≤ z ∧ z ≤ M := by
  match i, h with
  | 0, h => exact ⟨a, (Option.some.inj h).symm, ha⟩
  | 1, h => exact ⟨b, (Option.some.inj h).symm, hb⟩
  | 2, h => exact ⟨c, (Option.some.inj h).symm, hc⟩
  | 3, h => exact ⟨r, (Option.some.inj h).symm, hr⟩
theorem asc_snoc {s : List Int} {y z : Int} (h : Asc s) (hl : s[s.length - 1]? = some y) (hz : y ≤ z) : Asc (s ++ [z]) := by
  intro i x1 x2 h1 h2
  by_cases e : i + 1 < s.length
  · rw [List.getElem?_append_left (by omega)] at h1
    rw [List.getElem?_append_left e] at h2
    exact h i x1 x2 h1 h2
  · by_cases e2 : i + 1 = s.length
    · rw [List.getElem?_append_left (by omega)] at h1
      rw [List.getElem?_append_right (by omega), e2, Nat.sub_self] at h2
      cases h2
      have e3 : i = s.length - 1 := by omega
      rw [e3, hl] at h1
      cases h1
      exact hz
    · rw [List.getElem?_eq_none (by rw [List.length_append]; simp only [List.length_cons, List.length_nil]; omega)] at h2
      cases h2
theorem within_snoc {s : List Int} {z B B' : Int} (h : Within s B) (hB : B ≤ B') (h0 : 0 ≤ z) (h1 : z ≤ B') : Within (s ++ [z]) B' := by
  intro i x hx
  by_cases e : i < s.length
  · rw [List.getElem?_append_left e] at hx
    have := h i x hx
    omega
  · rw [List.getElem?_append_right (by omega)] at hx
    have e2 : i - s.length = 0 := by
      rcases Nat.eq_zero_or_pos (i - s.length) with q | q
      · exact q
      · rw [List.getElem?_eq_none (by simp only [List.length_cons, List.length_nil]; omega)] at hx
        cases hx
    rw [e2] at hx
    cases hx
    exact ⟨h0, h1⟩
theorem lastInt {s : List Int} (h : 0 < s.length) : ∃ y, s[s.length - 1]? = some y ∧ atI (s.map V.int) (-1) = some (.int y) := by
  refine ⟨s[s.length - 1]'(by omega), List.getElem?_eq_getElem _, last_get ?_⟩
  rw [List.length_map, List.getElem?_map, List.getElem?_eq_getElem (by omega)]
  rfl
def spSteps (K : PySem.W.Frag) : Sp := fun vs H Q _ => ∃ (d l c : Addr) (n : Nat) (m : Int), vs = [.ref d, .int n, .int m] ∧ DrawAt H d l c ∧ 0 < n ∧ n ≤ 100 ∧ 1 ≤ m ∧ m ≤ 1000000 ∧
  ∀ (a : Addr) (s : List Int) (H' : Hp), H a = none → H' a = some (.lst (s.map V.int)) → s.length = n → Asc s → Within s (m * n) → DrawAt H' d l c → KeepD H H' d l → Q (.ref a) H'
theorem scSteps : FnScope ["draw", "size", "most", "found", "lap"] ["draw", "size", "most"] (defScope sSteps) := ⟨rfl, rfl, rfl, by decide +kernel, rfl, by decide +kernel, by decide +kernel⟩
theorem ok_steps {f fP fT : Addr} {fd dP dT : FuncData} (F : Fun K "_law_steps" "_law_steps" sSteps f fd) (G : CurG mg)
    (GP : FnOk P w K mg base CX0 3 fP dP ["draw", "some"] (spPick K)) (kP : PySem.W.keepIn K (.ref fP) = true) (bP : Binds K dP ["draw", "some"] []) (mP : mg "_law_pick" = some (.ref fP))
    (GT : FnOk P w K mg base CX0 2 fT dT ["draw", "amount"] (spTake K)) (kT : PySem.W.keepIn K (.ref fT) = true) (bT : Binds K dT ["draw", "amount"] []) (mT : mg "_law_take" = some (.ref fT)) :
    FnOk P w K mg base CX0 4 f fd ["draw", "size", "most"] (spSteps K) := by
  refine F.ok scSteps (fun vs H Q E h => ?_) (fun cdv A outer s H vs Q E hr h => ?_)
  · obtain ⟨d, l, c, n, m, rfl, _⟩ := h
    rfl
  · obtain ⟨d, l, c, n, m, rfl, D, n0, n1, m0, m1, k⟩ := h
    have hr2 := hr.mono (show 2 ≤ 3 by decide)
    refine ⟨_, pss_cons (ps_set (i := 3) scSteps.nd rfl (Or.inl rfl) (pe_lst (pa_cons (pe_call GP hr rfl mP kP bP .nil pass0 (pa_cons (pv 0) (pa_cons (pe_lst (pa_cons pe_int (pa_cons pe_int (pa_cons pe_int (pa_cons
          (pe_call GT hr2 rfl mT kT bT .nil pass0 (pa_cons (pv 0) (pa_cons (pe_op op_add (pv 2) pe_int) pa_nil))) pa_nil))))) pa_nil))) pa_nil)))
      (pss_cons (ps_for PassesOwn.never rfl (pi_range1 rfl G.range (pa_cons (pe_op op_sub (pv 1) pe_int) pa_nil)) (pg_name (i := 4) scSteps.nd rfl (Or.inl rfl))
        (pss_one (ps_expr (pe_bm PySem.F.plainAttrs_list PySem.F.slot_list_append PySem.F.type_list_append mt_append (pv 3) (pa_cons (pe_op op_add (pe_ix ix_list (pv 3) (pe_un un_neg pe_int) (fun _ _ => rfl))
          (pe_call GP hr rfl mP kP bP .nil pass0 (pa_cons (pv 0) (pa_cons (pe_lst (pa_cons pe_int (pa_cons pe_int (pa_cons pe_int (pa_cons
            (pe_call GT hr2 rfl mT kT bT .nil pass0 (pa_cons (pv 0) (pa_cons (pe_op op_add (pv 2) pe_int) pa_nil))) pa_nil))))) pa_nil)))) pa_nil)))))
      (pss_one (ps_ret (pv 3)))), ?_⟩
    refine ⟨_, rfl, _, rfl, _, rfl, _, _, rfl, rfl, d, l, c, _, rfl, D, by omega, by omega, fun r H1 r0 r1 D1 k1 => ⟨(by show 4 ≤ sizeLine; decide), fun p1 hp1 => ?_⟩⟩
    generalize g1 : upd H1 p1 _ = H2
    obtain ⟨s2, f2⟩ := alloc g1 hp1
    refine ⟨d, l, c, p1, _, rfl, D1.same s2, f2, D1.nl hp1, (by show 0 < 4; decide), (by show 4 ≤ 2 ^ 100; decide), fun i x H3 hx D3 k3 => ?_⟩
    obtain ⟨z, rfl, z0, z1⟩ := pick4 (M := m) hx (by omega) (by omega) (by omega) ⟨r0, by omega⟩
    have kk3 : KeepD H H3 d l := k1.trans ((Same.keepD d l s2).trans k3)
    refine ⟨(by show 1 ≤ sizeLine; decide), fun a ha => ?_⟩
    have haH : H a = none := D.keepF kk3 D3 ha
    generalize g4 : upd H3 a _ = H4
    obtain ⟨s4, f4⟩ := alloc g4 ha
    have kk4 : KeepD H H4 d l := kk3.trans (Same.keepD d l s4)
    refine ⟨_, rfl, _, _, rfl, rfl, (n : Int) - 1, rfl, by omega, by omega, for_range (lo := 0) (n := ((n : Int) - 1).toNat) (fun i σ H5 => ∃ (v4 : Option V) (s : List Int), σ = [some (.ref d), some (.int n), some (.int m), some (.ref a), v4] ∧ H5 a = some (.lst (s.map V.int)) ∧ s.length = i + 1 ∧ Asc s ∧ Within s (m * (i + 1)) ∧ DrawAt H5 d l c ∧ KeepD H H5 d l)
      ⟨_, [z], rfl, f4, rfl, fun i x y h1 h2 => ?_, fun i x h1 => ?_, D3.same s4, kk4⟩ ?_ ?_⟩
    · cases h2
    · match i, h1 with
      | 0, h1 =>
        cases h1
        refine ⟨z0, ?_⟩
        show _ ≤ m * (0 + 1)
        omega
    · rintro i σ H5 hi ⟨v4, s, rfl, h5, l5, a5, w5, D5, k5⟩
      obtain ⟨y, hy, hy2⟩ := lastInt (s := s) (by omega)
      have hal : a ≠ l := D.nl haH
      have had : a ≠ d := D.nd haH
      refine ⟨_, rfl, .inl ⟨rfl, _, SqL.of h5⟩, _, rfl, 1, rfl, a, _, _, _, rfl, rfl, SqL.of h5, hy2, _, rfl, _, rfl, _, rfl, _, _, rfl, rfl, d, l, c, _, rfl, D5, by omega, by omega, fun r H6 r0 r1 D6 k6 => ⟨(by show 4 ≤ sizeLine; decide), fun p1 hp1 => ?_⟩⟩
      generalize g7 : upd H6 p1 _ = H7
      obtain ⟨s7, f7⟩ := alloc g7 hp1
      refine ⟨d, l, c, p1, _, rfl, D6.same s7, f7, D6.nl hp1, (by show 0 < 4; decide), (by show 4 ≤ 2 ^ 100; decide), fun j x H8 hx D8 k8 => ?_⟩
      obtain ⟨z, rfl, z0, z1⟩ := pick4 (M := m) hx (by omega) (by omega) (by omega) ⟨r0, by omega⟩
      have kk8 : KeepD H5 H8 d l := k6.trans ((Same.keepD d l s7).trans k8)
      have h8 : H8 a = some (.lst (s.map V.int)) := kk8 _ _ h5 had hal
      refine ⟨_, _, rfl, rfl, a, _, _, rfl, rfl, h8, by rw [List.length_map]; exact small1000 (by omega), ?_⟩
      refine ⟨_, s ++ [y + z], rfl, ?_, by rw [List.length_append, l5]; rfl, asc_snoc a5 hy (by omega), ?_, ?_, ?_⟩
      · rw [List.map_append]; exact upd_same
      · have wy := w5 _ _ hy
        have em : m * (((i + 1 : Nat) : Int) + 1) = m * ((i : Int) + 1) + m := by
          rw [Int.natCast_add, Int.mul_add m (((i : Nat) : Int) + ((1 : Nat) : Int)), Int.mul_one]
          rfl
        exact within_snoc w5 (by omega) (by omega) (by omega)
      · exact D8.put had hal (D.nc haH)
      · exact (k5.trans kk8).trans' haH
    · rintro σ H5 ⟨v4, s, rfl, h5, l5, a5, w5, D5, k5⟩
      refine ⟨_, rfl, ?_⟩
      have en : (((((n : Int) - 1).toNat : Nat) : Int) + 1) = (n : Int) := by omega
      rw [en] at w5
      exact k a s H5 haH h5 (by omega) a5 w5 D5 k5
end
end WW
end

section
set_option Elab.async false
set_option linter.all false
set_option maxRecDepth 100000
set_option maxHeartbeats 4000000
namespace WW
open PySem L2 WO WG RZ
structure SkI (L pm : Nat) (B : Int) (s : List Int) (p : Nat) (g : Int) : Prop where
  p0 : 0 < p
  pn : p ≤ s.length
  pm : p ≤ pm
  le : s.length ≤ L
  asc : Asc s
  wi : Within s B
  g0 : 0 ≤ g
  g1 : g ≤ B
  fit : ∀ x y, s[s.length - p]? = some x → s[s.length - 1]? = some y → y ≤ x + g
inductive Sk (L pm : Nat) (B : Int) : List V → Nat → Int → Prop
  | mkI (s : List Int) (p : Nat) (g : Int) (h : SkI L pm B s p g) : Sk L pm B (s.map V.int) p g
  | mkN (s : List Int) (k : Nat) (g : Int) (le : s.length + (k + 1) ≤ L) (asc : Asc s) (wi : Within s B) (g0 : 0 ≤ g) (g1 : g ≤ B) : Sk L pm B (s.map V.int ++ List.replicate (k + 1) .non) 1 g
theorem Sk.make {L pm : Nat} {B : Int} {xs : List V} {p : Nat} {g : Int} (h : Sk L pm B xs p g) (hL : L ≤ 400) (hp : pm ≤ 60) (hB : B ≤ 1000000000) : MakeOk xs p g := by
  cases h with
  | mkI s p g h =>
    have n0 : 0 < s.length := Nat.lt_of_lt_of_le h.p0 h.pn
    refine ⟨⟨by rw [List.length_map]; omega, by rw [List.length_map]; have := h.le; omega, ?_, ?_⟩, .mkI s p g h.p0 h.pn (by have := h.le; omega) h.g0 (by have := h.g1; omega), h.p0, by have := h.pm; omega, by rw [List.length_map]; exact h.pn, h.g0, by have := h.g1; omega, ?_⟩
    · intro i x hx
      rw [List.getElem?_map] at hx
      cases e : s[i]? with
      | none => rw [e] at hx; cases hx
      | some z =>
        rw [e] at hx
        have := h.wi i z e
        exact .inr ⟨z, (Option.some.inj hx).symm, by omega, by omega⟩
    · intro i x y hx hy
      rw [List.getElem?_map] at hx hy
      cases e : s[i]? with
      | none => rw [e] at hx; cases hx
      | some z =>
        cases e2 : s[i + 1]? with
        | none => rw [e2] at hy; cases hy
        | some z2 =>
          rw [e] at hx
          rw [e2] at hy
          exact .inl ⟨z, z2, (Option.some.inj hx).symm, (Option.some.inj hy).symm, h.asc i z z2 e e2⟩
    · obtain ⟨y, hy, hy2⟩ := lastInt n0
      have hx : s[s.length - p]? = some (s[s.length - p]'(by have := h.p0; omega)) := List.getElem?_eq_getElem _
      refine ⟨.int _, .int y, ?_, hy2, .inl ⟨_, _, rfl, rfl, h.fit _ _ hx hy⟩⟩
      rw [List.length_map, show (s.length : Int) - (p : Int) = ((s.length - p : Nat) : Int) by have := h.pn; omega]
      refine atI_nat ?_
      rw [List.getElem?_map, hx]
      rfl
  | mkN s k g le asc wi g0 g1 =>
    have lx : (s.map V.int ++ List.replicate (k + 1) V.non).length = s.length + (k + 1) := by rw [List.length_append, List.length_map, List.length_replicate]
    refine ⟨⟨by rw [lx]; omega, by rw [lx]; omega, ?_, ?_⟩, .mkN s k 1 g (by omega), Nat.le_refl _, by omega, by rw [lx]; omega, g0, by omega, .non, .non, ?_, ?_, .inr ⟨rfl, rfl⟩⟩
    · intro i x hx
      have hi : i < s.length + (k + 1) := by rw [← lx]; exact (List.getElem?_eq_some_iff.mp hx).1
      by_cases c : i < s.length
      · rw [List.getElem?_append_left (by rw [List.length_map]; exact c), List.getElem?_map, List.getElem?_eq_getElem c] at hx
        have := wi i _ (List.getElem?_eq_getElem c)
        exact .inr ⟨_, (Option.some.inj hx).symm, by omega, by omega⟩
      · rw [nones_get i (by omega) hi] at hx
        exact .inl (Option.some.inj hx).symm
    · intro i x y hx hy
      have hi : i + 1 < s.length + (k + 1) := by rw [← lx]; exact (List.getElem?_eq_some_iff.mp hy).1
      by_cases c : i + 1 < s.length
      · rw [List.getElem?_append_left (by rw [List.length_map]; omega), List.getElem?_map, List.getElem?_eq_getElem (show i < s.length by omega)] at hx
        rw [List.getElem?_append_left (by rw [List.length_map]; exact c), List.getElem?_map, List.getElem?_eq_getElem c] at hy
        exact .inl ⟨_, _, (Option.some.inj hx).symm, (Option.some.inj hy).symm, asc i _ _ (List.getElem?_eq_getElem _) (List.getElem?_eq_getElem _)⟩
      · rw [nones_get (i + 1) (by omega) hi] at hy
        by_cases c2 : i < s.length
        · obtain ⟨z, hz⟩ := ints_get (s := s) (r := List.replicate (k + 1) V.non) i c2
          rw [hz] at hx
          exact .inr (.inl ⟨⟨z, (Option.some.inj hx).symm⟩, (Option.some.inj hy).symm⟩)
        · rw [nones_get i (by omega) (by omega)] at hx
          exact .inr (.inr ⟨(Option.some.inj hx).symm, (Option.some.inj hy).symm⟩)
    · rw [lx, show ((s.length + (k + 1) : Nat) : Int) - ((1 : Nat) : Int) = ((s.length + k : Nat) : Int) by omega]
      exact atI_nat (nones_get _ (by omega) (by omega))
    · exact last_get (nones_get _ (by rw [lx]; omega) (by rw [lx]; omega))
theorem asc_le {s : List Int} (h : Asc s) : ∀ (k i : Nat) (x y : Int), s[i]? = some x → s[i + k]? = some y → x ≤ y := by
  intro k
  induction k with
  | zero => intro i x y h1 h2; rw [Nat.add_zero, h1] at h2; cases h2; exact Int.le_refl _
  | succ k ih =>
    intro i x y h1 h2
    have hl : i + k < s.length := by have := (List.getElem?_eq_some_iff.mp h2).1; omega
    have h3 := List.getElem?_eq_getElem hl
    have := ih i x _ h1 h3
    have := h (i + k) _ y h3 h2
    omega
theorem asc_take {s : List Int} {n : Nat} (h : Asc s) : Asc (s.take n) := by
  intro i x y h1 h2
  rw [List.getElem?_take] at h1 h2
  split at h1
  · split at h2
    · exact h i x y h1 h2
    · cases h2
  · cases h1
theorem within_take {s : List Int} {n : Nat} {B : Int} (h : Within s B) : Within (s.take n) B := by
  intro i x h1
  rw [List.getElem?_take] at h1
  split at h1
  · exact h i x h1
  · cases h1
section
variable {P : Program} {w : World} {K : PySem.W.Frag} {mg : Str → Option Value} {base : Heap}
/-- without end, nothing grows -/
def SkZ (xs : List V) (g : Int) : Prop := xs[xs.length - 1]? = some .non → g = 0
theorem skz_int {s : List Int} {g : Int} : SkZ (s.map V.int) g := fun h => by
  rw [List.getElem?_map] at h
  obtain ⟨_, _, e⟩ := Option.map_eq_some_iff.mp h
  cases e
def spSketch (K : PySem.W.Frag) : Sp := fun vs H Q _ => ∃ (d l c : Addr) (N : Nat) (m : Int), vs = [.ref d, .int N, .int m] ∧ DrawAt H d l c ∧ 1 ≤ N ∧ N ≤ 100 ∧ 1 ≤ m ∧ m ≤ 1000000 ∧
  ∀ (e a : Addr) (xs : List V) (p : Nat) (g : Int) (H' : Hp), H e = none → H a = none → SkAt H' d l e a xs p g → Sk N 6 (m * (N + 1)) xs p g → DrawAt H' d l c → KeepD H H' d l → Q (.ref e) H'
abbrev nSketch : List Str := ["draw", "long", "most", "size", "period_here", "start_here", "growth_here"]
theorem scSketch : FnScope nSketch ["draw", "long", "most"] (defScope sSketch) := ⟨rfl, rfl, rfl, by decide +kernel, rfl, by decide +kernel, by decide +kernel⟩
theorem ok_sketch {f fP fT fS : Addr} {fd dP dT dS : FuncData} (F : Fun K "_law_sketch" "_law_sketch" sSketch f fd) (G : CurG mg)
    (GP : FnOk P w K mg base CX0 3 fP dP ["draw", "some"] (spPick K)) (kP : PySem.W.keepIn K (.ref fP) = true) (bP : Binds K dP ["draw", "some"] []) (mP : mg "_law_pick" = some (.ref fP))
    (GT : FnOk P w K mg base CX0 2 fT dT ["draw", "amount"] (spTake K)) (kT : PySem.W.keepIn K (.ref fT) = true) (bT : Binds K dT ["draw", "amount"] []) (mT : mg "_law_take" = some (.ref fT))
    (GS : FnOk P w K mg base CX0 4 fS dS ["draw", "size", "most"] (spSteps K)) (kS : PySem.W.keepIn K (.ref fS) = true) (bS : Binds K dS ["draw", "size", "most"] []) (mS : mg "_law_steps" = some (.ref fS)) :
    FnOk P w K mg base CX0 5 f fd ["draw", "long", "most"] (spSketch K) := by
  refine F.ok scSketch (fun vs H Q E h => ?_) (fun cdv A outer s H vs Q E hr h => ?_)
  · obtain ⟨d, l, c, N, m, rfl, _⟩ := h
    rfl
  · obtain ⟨d, l, c, N, m, rfl, D, N0, N1, m0, m1, k⟩ := h
    have hr2 := hr.mono (show 2 ≤ 4 by decide)
    have hr3 := hr.mono (show 3 ≤ 4 by decide)
    refine ⟨_, C8.pss_cut (ps_set (i := 3) scSketch.nd rfl (Or.inl rfl) (pe_op op_add pe_int (pe_call GT hr2 rfl mT kT bT .nil pass0 (pa_cons (pv 0) (pa_cons (pv 1) pa_nil)))))
      (C8.pss_cut (ps_par (i := 4) (j := 5) (by rfl) scSketch.nd rfl rfl (by decide) rfl rfl
          (pa_cons (pe_op op_add pe_int (pe_call GT hr2 rfl mT kT bT .nil pass0 (pa_cons (pv 0) (pa_cons (pe_callB (call_min2 rfl) (by rfl) G.min (by decide +kernel) (pa_cons (pv 3) (pa_cons pe_int pa_nil))) pa_nil))))
          (pa_cons (pe_call GS hr rfl mS kS bS .nil pass0 (pa_cons (pv 0) (pa_cons (pv 3) (pa_cons (pv 2) pa_nil)))) pa_nil)) (by rfl))
      (C8.pss_cut (ps_set (i := 6) scSketch.nd rfl (Or.inl rfl) (pe_op op_add (pe_op op_sub (pe_ix ix_list (pv 5) (pe_un un_neg pe_int) (fun _ _ => rfl)) (pe_ix ix_list (pv 5) (pe_op op_sub (pv 3) (pv 4)) (fun _ _ => rfl)))
          (pe_call GP hr3 rfl mP kP bP .nil pass0 (pa_cons (pv 0) (pa_cons (pe_lst (pa_cons pe_int (pa_cons pe_int (pa_cons pe_int (pa_cons
            (pe_call GT hr2 rfl mT kT bT .nil pass0 (pa_cons (pv 0) (pa_cons (pe_op op_add (pv 2) pe_int) pa_nil))) pa_nil))))) pa_nil)))))
      (C8.pss_cut (ps_if (pt_cmpR op_eq (pe_call GT hr2 rfl mT kT bT .nil pass0 (pa_cons (pv 0) (pa_cons pe_int pa_nil))) pe_int (nomark _))
          (pss_cons (ps_set (i := 5) scSketch.nd rfl (Or.inl rfl) (pe_op op_cat (pe_slice sl_list (pv 5) po_none (po_some (pe_call GT hr2 rfl mT kT bT .nil pass0 (pa_cons (pv 0) (pa_cons (pv 3) pa_nil))))) (pe_lst (pa_cons pe_non pa_nil))))
          (pss_one (ps_asg (pe_tup (pa_cons pe_int (pa_cons pe_int pa_nil))) (pg_tup rfl (pgs_cons (pg_name (i := 4) scSketch.nd rfl (Or.inl rfl)) (pgs_cons (pg_name (i := 6) scSketch.nd rfl (Or.inl rfl)) pgs_nil)))))) pss_nil)
      (pss_one (ps_ret (pe_disp (pps_cons pe_str (pv 5) (pps_cons pe_str (pv 4) (pps_cons pe_str (pv 6) pps_nil))) (by rfl) (by rfl) (fun z => by cases z) (by decide))))))), ?_⟩
    refine ⟨fun σ H1 => ∃ n : Nat, σ = [some (.ref d), some (.int N), some (.int m), some (.int n), none, none, none] ∧ 0 < n ∧ n ≤ N ∧ DrawAt H1 d l c ∧ KeepD H H1 d l, ?_, ?_⟩
    · refine ⟨_, rfl, _, rfl, d, l, c, _, rfl, D, by omega, by omega, fun r H1 r0 r1 D1 k1 => ⟨_, _, rfl, rfl, (1 + r).toNat, ?_, by omega, by omega, D1, k1⟩⟩
      show [_, _, _, some (V.int (1 + r)), _, _, _] = _
      rw [show (((1 + r).toNat : Nat) : Int) = 1 + r by omega]
    · rintro σ H1 ⟨n, rfl, n0, n1, D1, k1⟩
      refine ⟨fun σ H2 => ∃ (p : Nat) (a : Addr) (s : List Int), σ = [some (.ref d), some (.int N), some (.int m), some (.int n), some (.int p), some (.ref a), none] ∧ 0 < p ∧ p ≤ n ∧ p ≤ 6 ∧ H a = none ∧ H2 a = some (.lst (s.map V.int)) ∧ s.length = n ∧ Asc s ∧ Within s (m * n) ∧ DrawAt H2 d l c ∧ KeepD H H2 d l, ?_, ?_⟩
      · refine ⟨_, rfl, _, rfl, n, 6, rfl, d, l, c, _, rfl, D1, ?_, ?_, fun r H2 r0 r1 D2 k2 => ⟨_, _, rfl, rfl, _, rfl, _, rfl, _, rfl, d, l, c, n, m, rfl, D2, n0, by omega, m0, m1, fun a s H3 h1 h2 h3 h4 h5 D3 k3 => ?_⟩⟩
        · split <;> omega
        · split <;> omega
        · have q := k1.trans k2
          refine ⟨_, _, rfl, (1 + r).toNat, a, s, ?_, ?_, ?_, ?_, D.keepF q D2 h1, h2, h3, h4, h5, D3, q.trans k3⟩
          · show [_, _, _, _, some (V.int (1 + r)), _, _] = _
            rw [show (((1 + r).toNat : Nat) : Int) = 1 + r by omega]
          · omega
          · split at r1 <;> omega
          · split at r1 <;> omega
      · rintro σ H2 ⟨p, a, s, rfl, p0, pn, p6, ha, h2, ls, as, ws, D2, k2⟩
        refine ⟨fun σ H3 => ∃ g : Int, σ = [some (.ref d), some (.int N), some (.int m), some (.int n), some (.int p), some (.ref a), some (.int g)] ∧ SkI N 6 (m * (N + 1)) s p g ∧ H3 a = some (.lst (s.map V.int)) ∧ DrawAt H3 d l c ∧ KeepD H H3 d l, ?_, ?_⟩
        · obtain ⟨y, hy, hy2⟩ := lastInt (s := s) (by omega)
          have hx : s[s.length - p]? = some (s[s.length - p]'(by omega)) := List.getElem?_eq_getElem _
          generalize hxv : s[s.length - p]'(by omega) = x at hx
          have hx2 : atI (s.map V.int) ((n : Int) - (p : Int)) = some (.int x) := by
            rw [show (n : Int) - (p : Int) = ((s.length - p : Nat) : Int) by omega]
            refine atI_nat ?_
            rw [List.getElem?_map, hx]
            rfl
          have xy : x ≤ y := asc_le as (p - 1) (s.length - p) x y hx (by rw [show s.length - p + (p - 1) = s.length - 1 by omega]; exact hy)
          have wx := ws _ _ hx
          have bN : m * (n : Int) ≤ m * (N : Int) := Int.mul_le_mul_of_nonneg_left (by omega) (by omega)
          have eN : m * ((N : Int) + 1) = m * (N : Int) + m := by rw [Int.mul_add, Int.mul_one]
          have wy := ws _ _ hy
          refine ⟨_, rfl, 1, rfl, a, _, _, _, rfl, rfl, SqL.of h2, hy2, _, rfl, _, rfl, _, rfl, _, _, rfl, rfl, a, _, _, _, rfl, rfl, SqL.of h2, hx2, _, _, rfl, rfl, _, rfl, _, rfl, _, rfl, _, _, rfl, rfl, d, l, c, _, rfl, D2, by omega, by omega, fun r H3 r0 r1 D3 k3 => ⟨(by show 4 ≤ sizeLine; decide), fun p1 hp1 => ?_⟩⟩
          generalize g7 : upd H3 p1 _ = H7
          obtain ⟨s7, f7⟩ := alloc g7 hp1
          refine ⟨d, l, c, p1, _, rfl, D3.same s7, f7, D3.nl hp1, (by show 0 < 4; decide), (by show 4 ≤ 2 ^ 100; decide), fun j x' H8 hx' D8 k8 => ?_⟩
          obtain ⟨z, rfl, z0, z1⟩ := pick4 (M := m) hx' (by omega) (by omega) (by omega) ⟨r0, by omega⟩
          have kk : KeepD H2 H8 d l := k3.trans ((Same.keepD d l s7).trans k8)
          refine ⟨_, _, rfl, rfl, y - x + z, rfl, ⟨p0, by omega, p6, by omega, as, fun i v h => by have := ws i v h; omega, by omega, by omega, fun x' y' h1 h2 => ?_⟩, kk _ _ h2 (D.nd ha) (D.nl ha), D8, k2.trans kk⟩
          rw [hx] at h1
          rw [hy] at h2
          cases h1
          cases h2
          omega
        · rintro σ H3 ⟨g, rfl, S, h3, D3, k3⟩
          refine ⟨fun σ H4 => ∃ (p : Nat) (a : Addr) (xs : List V) (g : Int), σ = [some (.ref d), some (.int N), some (.int m), some (.int n), some (.int p), some (.ref a), some (.int g)] ∧ Sk N 6 (m * (N + 1)) xs p g ∧ H a = none ∧ H4 a = some (.lst xs) ∧ DrawAt H4 d l c ∧ KeepD H H4 d l, ?_, ?_⟩
          · refine ⟨_, rfl, d, l, c, 10, rfl, D3, by decide, by decide, fun r H4 r0 r1 D4 k4 => ⟨rfl, _, rfl, ?_⟩⟩
            have h4 := k4 _ _ h3 (D.nd ha) (D.nl ha)
            refine ite2 (fun _ => ?_) (fun _ => ⟨p, a, _, g, rfl, .mkI s p g S, ha, h4, D4, k3.trans k4⟩)
            refine ⟨_, rfl, _, rfl, _, rfl, d, l, c, n, rfl, D4, by omega, by omega, fun r2 H5 r20 r21 D5 k5 => ⟨_, rfl, a, _, rfl, SqL.of (k5 _ _ h4 (D.nd ha) (D.nl ha)), fun q hq => ?_⟩⟩
            rw [show r2 = ((r2.toNat : Nat) : Int) by omega, cutR (by rw [List.length_map]; omega), ← List.map_take]
            generalize g6 : upd H5 q _ = H6
            obtain ⟨s6, f6⟩ := alloc g6 hq
            refine ⟨(by show 1 ≤ sizeLine; decide), fun u hu => ?_⟩
            generalize g7 : upd H6 u _ = H7
            obtain ⟨s7, f7⟩ := alloc g7 hu
            refine ⟨q, u, _, _, rfl, rfl, s7 _ _ f6, f7, ?_, fun z hz => ?_⟩
            · rw [List.length_map, List.length_take]
              exact Nat.le_of_lt (small1000 (show min r2.toNat s.length + 1 ≤ 1000 by omega))
            generalize g8 : upd H7 z _ = H8
            obtain ⟨s8, f8⟩ := alloc g8 hz
            refine ⟨(by show 2 ≤ sizeLine; decide), fun t ht => ?_⟩
            generalize g9 : upd H8 t _ = H9
            obtain ⟨s9, f9⟩ := alloc g9 ht
            have kk : KeepD H H7 d l := ((k3.trans k4).trans k5).trans (Same.keepD d l (Same.trans s6 s7))
            have ss : Same H5 H9 := Same.trans s6 (Same.trans s7 (Same.trans s8 s9))
            refine ⟨t, _, rfl, SqT.of f9, rfl, _, _, rfl, _, _, rfl, rfl, 1, z, (s.take r2.toNat).map V.int ++ List.replicate 1 .non, 0, rfl, ?_, ?_, s9 _ _ f8, D5.same ss, ((k3.trans k4).trans k5).trans (Same.keepD d l ss)⟩
            · refine Sk.mkN (s.take r2.toNat) 0 0 ?_ (asc_take S.asc) (within_take S.wi) (by omega) (Int.le_trans S.g0 S.g1)
              rw [List.length_take]
              omega
            · exact D.keepF kk ((D5.same s6).same s7) hz
          · rintro σ H4 ⟨p, a, xs, g, rfl, S, ha, h4, D4, k4⟩
            refine fun e he => ⟨_, rfl, _, rfl, _, rfl, upd_same, skKvs a p g, rfl, (by show 3 ≤ 15; decide), ?_⟩
            have heH := D.keepF k4 D4 he
            refine k e a xs p g _ heH ha ⟨upd_same, ?_, D.nd heH, D.nl heH, D.nd ha, D.nl ha⟩ S ?_ ?_
            · rw [upd_ne (ne_of_none h4 he), upd_ne (ne_of_none h4 he)]; exact h4
            · exact (D4.put (D.nd heH) (D.nl heH) (D.nc heH)).put (D.nd heH) (D.nl heH) (D.nc heH)
            · exact (k4.trans' heH).trans' heH
end
end WW
end

section
set_option Elab.async false
set_option linter.all false
set_option maxRecDepth 100000
set_option maxHeartbeats 4000000
namespace WW
open PySem L2 WO WG RZ
abbrev sAt : Stmt := top 67
abbrev sRow : Stmt := top 68
def FN (s : List Int) (j : Nat) : V := if j < s.length then .int (s.getD j 0) else .non
inductive RowF : List V → Nat → Int → (Nat → V) → Prop
  | mkI (s : List Int) (p : Nat) (g : Int) (p0 : 0 < p) (pn : p ≤ s.length) (pb : p ≤ 1000000) : RowF (s.map V.int) p g (fun j => .int (MF.at_ s p g j))
  | mkN (s : List Int) (k p : Nat) (g : Int) : RowF (s.map V.int ++ List.replicate (k + 1) .non) p g (FN s)
theorem RowF.flat {xs : List V} {p : Nat} {g : Int} {F : Nat → V} (h : RowF xs p g F) (j : Nat) : F j = .non ∨ ∃ i : Int, F j = .int i := by
  cases h with
  | mkI s p g => exact .inr ⟨_, rfl⟩
  | mkN s k p g =>
    unfold FN
    split
    · exact .inr ⟨_, rfl⟩
    · exact .inl rfl
theorem flat_range {F : Nat → V} (h : ∀ j, F j = .non ∨ ∃ i : Int, F j = .int i) (n : Nat) : FlatR ((List.range n).map F) := by
  intro v hv
  obtain ⟨j, _, rfl⟩ := List.mem_map.mp hv
  exact h j
section
variable {P : Program} {w : World} {K : PySem.W.Frag} {mg : Str → Option Value} {base : Heap}
def spAt (K : PySem.W.Frag) : Sp := fun vs H Q _ => ∃ (e a : Addr) (xs : List V) (p b : Nat) (g : Int) (F : Nat → V), vs = [.ref e, .int b] ∧ H e = some (.dK (skKvs a p g)) ∧ H a = some (.lst xs) ∧ RowF xs p g F ∧ b ≤ 10000000000000 ∧ Q (F b) H
theorem scAt : FnScope ["sketch", "beat", "start_here", "laps"] ["sketch", "beat"] (defScope sAt) := ⟨rfl, rfl, rfl, by decide +kernel, rfl, by decide +kernel, by decide +kernel⟩
theorem ok_at {f : Addr} {fd : FuncData} (F : Fun K "_law_at" "_law_at" sAt f fd) (T : CurG mg) : FnOk P w K mg base CX0 1 f fd ["sketch", "beat"] (spAt K) := by
  refine F.ok scAt (fun vs H Q E h => ?_) (fun cdv A outer s H vs Q E hr h => ?_)
  · obtain ⟨e, a, xs, p, b, g, F, rfl, _⟩ := h
    rfl
  · obtain ⟨e, a, xs, p, b, g, F, rfl, he, ha, R, hb, k⟩ := h
    have hu := hu_of hr
    refine ⟨_, pss_cons (ps_set (i := 2) scAt.nd rfl (Or.inl rfl) (pe_dget hu (pv 0) pe_str (fun _ _ => rfl)))
      (pss_cons (ps_if (pt_cmpR op_lt (pv 1) (pe_callB call_len_seq (by rfl) T.len PySem.boot_len (pa_cons (pv 2) pa_nil)) (nomark _)) (pss_one (ps_ret (pe_ix ix_list (pv 2) (pv 1) (fun _ _ => rfl)))) pss_nil)
      (pss_cons (ps_if (pt_cmpR op_isN (pe_ix ix_list (pv 2) (pe_un un_neg pe_int) (fun _ _ => rfl)) pe_non (nomark _)) (pss_one (ps_ret pe_non)) pss_nil)
      (pss_cons (ps_set (i := 3) scAt.nd rfl (Or.inl rfl) (pe_op op_add (pe_op op_fdivN (pe_op op_sub (pv 1) (pe_callB call_len_seq (by rfl) T.len PySem.boot_len (pa_cons (pv 2) pa_nil))) (pe_dget hu (pv 0) pe_str (fun _ _ => rfl))) pe_int))
      (pss_one (ps_ret (pe_op op_add (pe_ix ix_list (pv 2) (pe_op op_sub (pv 1) (pe_op op_mul (pv 3) (pe_dget hu (pv 0) pe_str (fun _ _ => rfl)))) (fun _ _ => rfl)) (pe_op op_mul (pv 3) (pe_dget hu (pv 0) pe_str (fun _ _ => rfl))))))))), ?_⟩
    refine ⟨_, rfl, e, _, rfl, sk_start he, ?_⟩
    refine ⟨_, rfl, _, rfl, a, xs, rfl, .inl (SqL.of ha), _, _, rfl, rfl, ?_⟩
    cases R with
    | mkI s p g p0 pn pb =>
      by_cases hl : b < s.length
      · refine ⟨true, bT (by rw [List.length_map]; omega), iteT ⟨_, rfl, _, rfl, a, _, _, _, rfl, rfl, SqL.of ha, atI_nat (get_map (p := p) (g := g) hl), k⟩⟩
      · refine ⟨false, bF (by rw [List.length_map]; omega), iteF ?_⟩
        have n0 : 0 < s.length := by omega
        have el : (s.map V.int)[(s.map V.int).length - 1]? = some (.int (MF.at_ s p g (s.length - 1))) := by
          rw [List.length_map]
          exact get_map (by omega)
        refine ⟨_, rfl, 1, rfl, a, _, _, _, rfl, rfl, SqL.of ha, last_get el, rfl, false, rfl, iteF ?_⟩
        have hm := Nat.mod_add_div (b - s.length) p
        have hml := Nat.mod_lt (b - s.length) p0
        have hq : (b - s.length) / p ≤ b - s.length := Nat.div_le_self _ _
        generalize hqq : (b - s.length) / p = qq at *
        have hmul : (qq + 1) * p = p * qq + p := by rw [Nat.succ_mul, Nat.mul_comm]
        have e1 : Int.fdiv ((b : Int) - (s.length : Int)) (p : Int) = (qq : Int) := by
          rw [show (b : Int) - (s.length : Int) = ((b - s.length : Nat) : Int) by omega, Int.fdiv_eq_ediv_of_nonneg _ (by omega), ← hqq]
          rfl
        have hg : MF.at_ s p g b = s.getD (b - (qq + 1) * p) 0 + (qq + 1 : Nat) * g := by
          unfold MF.at_
          rw [if_neg hl, hqq]
        have hi : b - (qq + 1) * p < s.length := by omega
        have gi : (s.map V.int)[b - (qq + 1) * p]? = some (.int (s.getD (b - (qq + 1) * p) 0)) := by
          rw [List.getElem?_map, List.getD_eq_getElem?_getD, List.getElem?_eq_getElem hi]
          rfl
        refine ⟨_, rfl, _, rfl, a, _, rfl, .inl (SqL.of ha), _, _, rfl, rfl, _, rfl, e, _, rfl, sk_period he, _, _, rfl, rfl, ⟨by omega, by omega⟩, _, _, rfl, rfl, ?_⟩
        rw [List.length_map, e1]
        have e2 : (b : Int) - ((qq : Int) + 1) * (p : Int) = ((b - (qq + 1) * p : Nat) : Int) := by
          have : ((qq : Int) + 1) * (p : Int) = (((qq + 1) * p : Nat) : Int) := by rw [Int.natCast_mul]; rfl
          rw [this]
          omega
        refine ⟨_, rfl, _, rfl, _, rfl, _, rfl, e, _, rfl, sk_period he, _, _, rfl, rfl, .inl ⟨by omega, by omega⟩, _, _, rfl, rfl, a, _, _, .int (s.getD (b - (qq + 1) * p) 0), rfl, rfl, SqL.of ha, ?_, _, rfl, _, rfl, e, _, rfl, sk_growth he, _, _, rfl, rfl, .inl ⟨by omega, by omega⟩, _, _, rfl, rfl, ?_⟩
        · show atI _ ((b : Int) - ((qq : Int) + 1) * (p : Int)) = _
          rw [e2]
          exact atI_nat gi
        · have k' := k
          dsimp only at k'
          rw [hg] at k'
          exact k'
    | mkN s k' p g =>
      have lx : (s.map V.int ++ List.replicate (k' + 1) V.non).length = s.length + (k' + 1) := by rw [List.length_append, List.length_map, List.length_replicate]
      by_cases hl : b < s.length + (k' + 1)
      · refine ⟨true, bT (by rw [lx]; omega), iteT ⟨_, rfl, _, rfl, a, _, _, FN s b, rfl, rfl, SqL.of ha, atI_nat ?_, k⟩⟩
        unfold FN
        by_cases c : b < s.length
        · rw [if_pos c, List.getElem?_append_left (by rw [List.length_map]; exact c), List.getElem?_map, List.getD_eq_getElem?_getD, List.getElem?_eq_getElem c]
          rfl
        · rw [if_neg c]
          exact nones_get b (by omega) hl
      · refine ⟨false, bF (by rw [lx]; omega), iteF ?_⟩
        refine ⟨_, rfl, 1, rfl, a, _, _, _, rfl, rfl, SqL.of ha, last_get (nones_get _ (by rw [lx]; omega) (by rw [lx]; omega)), rfl, true, rfl, iteT ?_⟩
        unfold FN at k
        rw [if_neg (by omega)] at k
        exact k
def spRow (K : PySem.W.Frag) : Sp := fun vs H Q _ => ∃ (e a : Addr) (xs : List V) (p n : Nat) (g : Int) (F : Nat → V), vs = [.ref e, .int n] ∧ H e = some (.dK (skKvs a p g)) ∧ H a = some (.lst xs) ∧ RowF xs p g F ∧ n ≤ 1000 ∧
  ∀ (z : Addr) (H' : Hp), H z = none → H' z = some (.lst ((List.range n).map F)) → Same H H' → Q (.ref z) H'
theorem scRow : FnScope ["sketch", "beats", "beat"] ["sketch", "beats"] (defScope sRow) := ⟨rfl, rfl, rfl, by decide +kernel, rfl, by decide +kernel, by decide +kernel⟩
theorem ok_row {f fA : Addr} {fd dA : FuncData} (F : Fun K "_law_row" "_law_row" sRow f fd) (T : CurG mg)
    (GA : FnOk P w K mg base CX0 1 fA dA ["sketch", "beat"] (spAt K)) (kA : PySem.W.keepIn K (.ref fA) = true) (bA : Binds K dA ["sketch", "beat"] []) (mA : mg "_law_at" = some (.ref fA)) :
    FnOk P w K mg base CX0 2 f fd ["sketch", "beats"] (spRow K) := by
  refine F.ok scRow (fun vs H Q E h => ?_) (fun cdv A outer s H vs Q E hr h => ?_)
  · obtain ⟨e, a, xs, p, n, g, F, rfl, _⟩ := h
    rfl
  · obtain ⟨e, a, xs, p, n, g, F, rfl, he, ha, R, hn, k⟩ := h
    refine ⟨_, pss_one (ps_ret (pe_lc (own := [("beat", 2)]) (g := gName 2) (tt := tYes) rfl scRow.nd (pi_range1 rfl T.range (pa_cons (pv 1) pa_nil)) (blkOk_by (N := ["sketch", "beats", "beat"]) (sc := defScope sRow) (by decide +kernel)) (fun _ _ _ _ _ => pg_name (i := 2) scRow.nd rfl (Or.inl rfl)) (fun _ _ _ _ _ => pts_nil)
      (fun _ _ _ _ _ => pe_call GA hr rfl mA kA bA .nil pass0 (pa_cons (pv 0) (pa_cons (pv 2) pa_nil))))), ?_⟩
    refine ⟨_, rfl, n, rfl, by omega, by omega, fun D hD => lc_it (n := n) (walk_range (lo := 0)) (fun i H2 => H2 D = some (.lst ((List.range i).map F)) ∧ Same H H2) ⟨upd_same, same_new hD⟩ (fun i H2 _ _ => trivial) ?_ ?_⟩
    · rintro i x H2 H3 hi ⟨hd, s2⟩ hy
      obtain ⟨rfl, rfl⟩ : H3 = H2 ∧ x = .int ((0 : Int) + (i : Int)) := by
        obtain ⟨h1, h2⟩ := hy
        first | exact ⟨h1, h2⟩ | exact ⟨h2, h1⟩
      refine ⟨rfl, _, rfl, _, rfl, e, a, xs, p, i, g, F, ?_, s2 _ _ he, s2 _ _ ha, R, by omega, (List.range i).map F, hd, ?_, ?_⟩
      · simp
      · rw [List.length_map, List.length_range]; exact small1000 (by omega)
      · rw [List.range_succ, List.map_append]
        exact ⟨upd_same, fun b o e => by rw [upd_ne (ne_of_none e hD)]; exact s2 _ _ e⟩
    · rintro H2 ⟨hd, s2⟩
      exact k D H2 hD hd s2
end
end WW
end

section
set_option Elab.async false
set_option linter.all false
set_option maxRecDepth 100000
set_option maxHeartbeats 4000000
namespace WW
open PySem L2 WO WG RZ
abbrev sHas : Stmt := top 25
abbrev sCat : Stmt := top 28
section
variable {P : Program} {w : World} {K : PySem.W.Frag} {mg : Str → Option Value} {base : Heap}
def spHas (K : PySem.W.Frag) (C : Addr) : Sp := fun vs H Q _ => ∃ (x : Addr) (v : List V) (q r : Int) (lv : V), vs = [.ref x] ∧ CurveAt H C x v q r ∧ v[v.length - 1]? = some lv ∧ Q (.bl (decide (lv = .non))) H
theorem scHas : FnScope ["curve"] ["curve"] (defScope sHas) := ⟨rfl, rfl, rfl, by decide +kernel, rfl, by decide +kernel, by decide +kernel⟩
theorem ok_has {f fI fE C : Addr} {fd : FuncData} (F : Fun K "has_none" "has_none" sHas f fd) (U : CurT K mg C fI fE) : FnOk P w K mg base CX0 1 f fd ["curve"] (spHas K C) := by
  refine F.ok scHas (fun vs H Q E h => ?_) (fun cdv A outer s H vs Q E hr h => ?_)
  · obtain ⟨x, v, q, r, lv, rfl, _⟩ := h
    rfl
  · obtain ⟨x, v, q, r, lv, rfl, ⟨dx, t, h1, h2⟩, hl, k⟩ := h
    refine ⟨_, pss_one (ps_ret (pe_cmpR op_isN (pe_ix ix_tup (pe_fld (pv 0) rfl) (pe_un un_neg pe_int) (fun _ _ => rfl)) pe_non (nomark _))), ?_⟩
    exact ⟨_, rfl, x, C, dx, _, .ref t, rfl, h1, U.cl, U.nS, rfl, 1, rfl, t, _, _, _, rfl, rfl, SqT.of h2, last_get hl, rfl, k⟩
def spCat (K : PySem.W.Frag) (C : Addr) : Sp := fun vs H Q _ => ∃ (x : Addr) (v : List V) (p b : Nat) (g : Int) (F : Nat → V), vs = [.ref x, .int b] ∧ CurveAt H C x v p g ∧ RowF v p g F ∧ b ≤ 10000000000000 ∧ Q (F b) H
theorem scCat : FnScope ["curve", "beat", "many", "times_round"] ["curve", "beat"] (defScope sCat) := ⟨rfl, rfl, rfl, by decide +kernel, rfl, by decide +kernel, by decide +kernel⟩
theorem ok_cat {f fN fI fE C : Addr} {fd dN : FuncData} (F : Fun K "at" "at" sCat f fd) (T : CurG mg) (U : CurT K mg C fI fE)
    (GN : FnOk P w K mg base CX0 1 fN dN ["curve"] (spHas K C)) (kN : PySem.W.keepIn K (.ref fN) = true) (bN : Binds K dN ["curve"] []) (mN : mg "has_none" = some (.ref fN)) :
    FnOk P w K mg base CX0 2 f fd ["curve", "beat"] (spCat K C) := by
  refine F.ok scCat (fun vs H Q E h => ?_) (fun cdv A outer s H vs Q E hr h => ?_)
  · obtain ⟨x, v, p, b, g, F, rfl, _⟩ := h
    rfl
  · obtain ⟨x, v, p, b, g, F, rfl, cu, R, hb, k⟩ := h
    obtain ⟨dx, t, h1, h2⟩ := id cu
    refine ⟨_, pss_cons (ps_set (i := 2) scCat.nd rfl (Or.inl rfl) (pe_callB call_len_seq (by rfl) T.len PySem.boot_len (pa_cons (pe_fld (pv 0) rfl) pa_nil)))
      (pss_cons (ps_if (pt_cmpR op_lt (pv 1) (pv 2) (nomark _)) (pss_one (ps_ret (pe_ix ix_tup (pe_fld (pv 0) rfl) (pv 1) (fun _ _ => rfl)))) pss_nil)
      (pss_cons (ps_if (pt_val (pe_call GN hr rfl mN kN bN .nil pass0 (pa_cons (pv 0) pa_nil))) (pss_one (ps_ret pe_non)) pss_nil)
      (pss_cons (ps_set (i := 3) scCat.nd rfl (Or.inl rfl) (pe_op op_add (pe_op op_fdivN (pe_op op_sub (pv 1) (pv 2)) (pe_fld (pv 0) rfl)) pe_int))
      (pss_one (ps_ret (pe_op op_add (pe_ix ix_tup (pe_fld (pv 0) rfl) (pe_op op_sub (pv 1) (pe_op op_mul (pv 3) (pe_fld (pv 0) rfl))) (fun _ _ => rfl)) (pe_op op_mul (pv 3) (pe_fld (pv 0) rfl)))))))), ?_⟩
    refine ⟨_, rfl, x, C, dx, _, .ref t, rfl, h1, U.cl, U.nS, rfl, t, v, rfl, .inr (SqT.of h2), ?_⟩
    cases R with
    | mkI s p g p0 pn pb =>
      by_cases hl : b < s.length
      · exact ⟨_, rfl, _, rfl, _, _, rfl, rfl, true, bT (by rw [List.length_map]; omega), iteT ⟨_, rfl, x, C, dx, _, .ref t, rfl, h1, U.cl, U.nS, rfl, _, rfl, t, _, _, _, rfl, rfl, SqT.of h2, atI_nat (get_map (p := p) (g := g) hl), k⟩⟩
      · refine ⟨_, rfl, _, rfl, _, _, rfl, rfl, false, bF (by rw [List.length_map]; omega), iteF ?_⟩
        have n0 : 0 < s.length := by omega
        have el : (s.map V.int)[(s.map V.int).length - 1]? = some (.int (MF.at_ s p g (s.length - 1))) := by
          rw [List.length_map]
          exact get_map (by omega)
        refine ⟨_, rfl, x, _, _, _, _, rfl, cu, el, false, rfl, iteF ?_⟩
        have hm := Nat.mod_add_div (b - s.length) p
        have hml := Nat.mod_lt (b - s.length) p0
        have hq : (b - s.length) / p ≤ b - s.length := Nat.div_le_self _ _
        generalize hqq : (b - s.length) / p = qq at *
        have hmul : (qq + 1) * p = p * qq + p := by rw [Nat.succ_mul, Nat.mul_comm]
        have e1 : Int.fdiv ((b : Int) - (s.length : Int)) (p : Int) = (qq : Int) := by
          rw [show (b : Int) - (s.length : Int) = ((b - s.length : Nat) : Int) by omega, Int.fdiv_eq_ediv_of_nonneg _ (by omega), ← hqq]
          rfl
        have hg : MF.at_ s p g b = s.getD (b - (qq + 1) * p) 0 + (qq + 1 : Nat) * g := by
          unfold MF.at_
          rw [if_neg hl, hqq]
        have hi : b - (qq + 1) * p < s.length := by omega
        have gi : (s.map V.int)[b - (qq + 1) * p]? = some (.int (s.getD (b - (qq + 1) * p) 0)) := by
          rw [List.getElem?_map, List.getD_eq_getElem?_getD, List.getElem?_eq_getElem hi]
          rfl
        refine ⟨_, rfl, _, rfl, _, _, rfl, rfl, _, rfl, x, C, dx, _, .int p, rfl, h1, U.cl, U.nP, rfl, _, _, rfl, rfl, ⟨by omega, by omega⟩, _, _, rfl, rfl, ?_⟩
        rw [List.length_map, e1]
        have e2 : (b : Int) - ((qq : Int) + 1) * (p : Int) = ((b - (qq + 1) * p : Nat) : Int) := by
          have : ((qq : Int) + 1) * (p : Int) = (((qq + 1) * p : Nat) : Int) := by rw [Int.natCast_mul]; rfl
          rw [this]
          omega
        refine ⟨_, rfl, x, C, dx, _, .ref t, rfl, h1, U.cl, U.nS, rfl, _, rfl, _, rfl, _, rfl, x, C, dx, _, .int p, rfl, h1, U.cl, U.nP, rfl, _, _, rfl, rfl, .inl ⟨by omega, by omega⟩, _, _, rfl, rfl, t, _, _, .int (s.getD (b - (qq + 1) * p) 0), rfl, rfl, SqT.of h2, ?_, _, rfl, _, rfl, x, C, dx, _, .int g, rfl, h1, U.cl, U.nG, rfl, _, _, rfl, rfl, .inl ⟨by omega, by omega⟩, _, _, rfl, rfl, ?_⟩
        · show atI _ ((b : Int) - ((qq : Int) + 1) * (p : Int)) = _
          rw [e2]
          exact atI_nat gi
        · have k' := k
          dsimp only at k'
          rw [hg] at k'
          exact k'
    | mkN s k' p g =>
      have lx : (s.map V.int ++ List.replicate (k' + 1) V.non).length = s.length + (k' + 1) := by rw [List.length_append, List.length_map, List.length_replicate]
      by_cases hl : b < s.length + (k' + 1)
      · refine ⟨_, rfl, _, rfl, _, _, rfl, rfl, true, bT (by rw [lx]; omega), iteT ⟨_, rfl, x, C, dx, _, .ref t, rfl, h1, U.cl, U.nS, rfl, _, rfl, t, _, _, FN s b, rfl, rfl, SqT.of h2, atI_nat ?_, k⟩⟩
        unfold FN
        by_cases c : b < s.length
        · rw [if_pos c, List.getElem?_append_left (by rw [List.length_map]; exact c), List.getElem?_map, List.getD_eq_getElem?_getD, List.getElem?_eq_getElem c]
          rfl
        · rw [if_neg c]
          exact nones_get b (by omega) hl
      · refine ⟨_, rfl, _, rfl, _, _, rfl, rfl, false, bF (by rw [lx]; omega), iteF ?_⟩
        refine ⟨_, rfl, x, _, _, _, _, rfl, cu, nones_get _ (by rw [lx]; omega) (by rw [lx]; omega), true, rfl, iteT ?_⟩
        unfold FN at k
        rw [if_neg (by omega)] at k
        exact k
end
end WW
end

section
set_option Elab.async false
set_option linter.all false
set_option maxRecDepth 100000
set_option maxHeartbeats 4000000
/-! lists made item by item, as one word -/
namespace LM
open PySem PySem.Spec PyProof.Rows L2
theorem sNew {H : Hp} {p : Addr} {o : HO} (h : H p = none) : Same H (upd H p o) := fun b u e => by rw [upd_ne (ne_of_none e h)]; exact e
theorem sPut {H H' : Hp} {p : Addr} {o : HO} (h : H p = none) (s : Same H H') : Same H (upd H' p o) := fun b u e => by rw [upd_ne (ne_of_none e h)]; exact s _ _ e
theorem cut_whole {xs : List V} {lo hi : Option Int} (h : HT.sIx xs.length 0 lo = 0 ∧ HT.sIx xs.length xs.length hi = xs.length) : cutV xs lo hi = xs := by
  unfold cutV
  rw [h.1, h.2, List.drop_zero, Nat.sub_zero, List.take_length]
/-- a part of a tuple, whether it is the tuple itself or a new one -/
theorem slT {K : PySem.W.Frag} {H : Hp} {a : Addr} {xs : List V} {lo hi : Option Int} {Q : VK} (h : SqT K H a xs) (k : ∀ a' H1, SqT K H1 a' (cutV xs lo hi) → Same H H1 → Q (.ref a') H1) :
    (HT.sIx xs.length 0 lo = 0 ∧ HT.sIx xs.length xs.length hi = xs.length → Q (.ref a) H) ∧ (¬ (HT.sIx xs.length 0 lo = 0 ∧ HT.sIx xs.length xs.length hi = xs.length) → ∀ p, H p = none → Q (.ref p) (upd H p (.tup (cutV xs lo hi)))) := by
  refine ⟨fun w => k a H ?_ (Same.refl _), fun _ p hp => k p _ (SqT.of upd_same) (sNew hp)⟩
  rw [cut_whole w]
  exact h
def rSlN (K : PySem.W.Frag) : V → Option Int → Option Int → Hp → VK → Prop := fun x lo hi H Q => ∃ a xs, x = .ref a ∧ SqT K H a xs ∧ ∀ a' H1, SqT K H1 a' (cutV xs lo hi) → Same H H1 → Q (.ref a') H1
theorem sl_tupN {X : Cx} : SlR X (rSlN X.K) := fun pins s σ H x v vl vu lo hi sl Q I rx hs pl pu ⟨a, xs, e, hx, k⟩ => sl_tupA pins s σ H x v vl vu lo hi sl Q I rx hs pl pu ⟨a, xs, e, hx, slT hx k⟩
section
variable {J : It} {n : Nat} {G : Hp → Prop} {Y : Nat → Hp → V → Hp → Prop}
/-- [e for .. in ..], each item F i -/
theorem lcM (w : Walk J n G Y) {g : TG} {tt : TT} {te : TE} {vs : List Nat} {σ : L2.St} {H1 : Hp} {D : Addr} {Qd : Hp → Prop} (F : Nat → V) (hD : H1 D = none) (hn : n ≤ 200000) (hG : ∀ H, Same H1 H → G H)
    (hs : ∀ i x H H', i < n → Same H1 H → Y i H x H' → ∀ (R : V → Hp → Prop) (N : Hp → Prop), (∀ H4, Same H H4 → R (F i) H4) → g x (wipe σ vs) H' fun σ2 H2 => wipe σ2 vs = wipe σ vs ∧ tt σ2 H2 fun b H3 => if b = true then te σ2 H3 R else N H3)
    (hd : ∀ H, H D = some (.lst ((List.range n).map F)) → Same H1 H → Qd H) :
    ∃ W : Nat → Nat → Hp → Prop, (∃ m, W 0 m (upd H1 D (.lst []))) ∧ ∀ i m H, W i m H →
      (J.stop i H ∧ Qd H) ∨ (J.go i H ∧ ∃ Nx : Hp → Prop, (∀ H', Nx H' → ∃ m', m' < m ∧ W (i + 1) m' H') ∧ ∀ x H', J.yld i H x H' → g x (wipe σ vs) H' fun σ2 H2 => wipe σ2 vs = wipe σ vs ∧ tt σ2 H2 fun b H3 =>
        if b = true then te σ2 H3 fun y H4 => ∃ acc, H4 D = some (.lst acc) ∧ acc.length < sizeLine ∧ Nx (upd H4 D (.lst (acc ++ [y]))) else Nx H3) := by
  refine lc_it w (fun i H => H D = some (.lst ((List.range i).map F)) ∧ Same H1 H) ⟨upd_same, sNew hD⟩ (fun i H _ h => hG H h.2) (fun i x H H' hi ⟨d, s⟩ y => ?_) (fun H ⟨d, s⟩ => hd H d s)
  refine hs i x H H' hi s y _ _ fun H4 s4 => ⟨_, s4 _ _ d, ?_, ?_, sPut hD (Same.trans s s4)⟩
  · rw [List.length_map, List.length_range]
    exact Nat.lt_of_lt_of_le (show i < 200001 by omega) (by decide)
  · rw [List.range_succ, List.map_append]
    exact upd_same
/-- any loop over heaps: what a turn does is B -/
theorem itB (w : Walk J n G Y) {Qd : Hp → Prop} {H0 : Hp} {B : (Hp → Prop) → V → Hp → Prop} (Pv : Nat → Hp → Prop) (h0 : Pv 0 H0) (hG : ∀ i H, i ≤ n → Pv i H → G H)
    (hs : ∀ i x H H', i < n → Pv i H → Y i H x H' → B (Pv (i + 1)) x H') (hd : ∀ H, Pv n H → Qd H) :
    ∃ W : Nat → Nat → Hp → Prop, (∃ m, W 0 m H0) ∧ ∀ i m H, W i m H →
      (J.stop i H ∧ Qd H) ∨ (J.go i H ∧ ∃ Nx : Hp → Prop, (∀ H', Nx H' → ∃ m', m' < m ∧ W (i + 1) m' H') ∧ ∀ x H', J.yld i H x H' → B Nx x H') := by
  refine ⟨fun i m H => m = n - i ∧ i ≤ n ∧ Pv i H, ⟨n, by simp, Nat.zero_le _, h0⟩, ?_⟩
  rintro i m H ⟨rfl, hi, p⟩
  have q := hG i H hi p
  by_cases hlt : i < n
  · exact .inr ⟨w.goes i H hlt q, Pv (i + 1), fun H' p' => ⟨n - (i + 1), by omega, rfl, hlt, p'⟩, fun x H' y => hs i x H H' hlt p (w.yields i H x H' hlt q y)⟩
  · have e : i = n := by omega
    subst e
    exact .inl ⟨w.stops H q, hd H p⟩
end
end LM
end

section
set_option linter.all false
/-! rows that never fall -/
namespace MF
def Mono (f : Nat → Int) : Prop := ∀ j, f j ≤ f (j + 1)
theorem Mono.le {f : Nat → Int} (h : Mono f) {i j : Nat} (l : i ≤ j) : f i ≤ f j := by
  induction j with
  | zero => rw [Nat.le_zero.mp l]; exact Int.le_refl _
  | succ j ih =>
    rcases Nat.lt_or_ge j i with q | q
    · rw [show i = j + 1 by omega]; exact Int.le_refl _
    · exact Int.le_trans (ih q) (h j)
/-- a row that never falls, and whose first value behind isn't below its last one -/
theorem mono_at {s : List Int} {p : Nat} {g : Int} (p0 : 0 < p) (pn : p ≤ s.length) (asc : s.Pairwise (· ≤ ·)) (fa : at_ s p g (s.length - 1) ≤ at_ s p g (s.length - p) + g) : Mono (at_ s p g) := by
  have QPf := at_qp (s := s) (g := g) p0 pn
  intro j
  induction j using Nat.strongRecOn with
  | ind j ih =>
    rcases Nat.lt_or_ge (j + 1) s.length with h | h
    · rw [at_low h, at_low (show j < s.length by omega), List.getD_eq_getElem?_getD, List.getD_eq_getElem?_getD, List.getElem?_eq_getElem h, List.getElem?_eq_getElem (show j < s.length by omega)]
      exact List.pairwise_iff_getElem.mp asc j (j + 1) (by omega) h (by omega)
    · rcases Nat.lt_or_ge s.length (j + 1) with h2 | h2
      · have q1 := QPf (j - p) (by omega)
        have q2 := QPf (j + 1 - p) (by omega)
        rw [show j - p + p = j by omega] at q1
        rw [show j + 1 - p + p = j + 1 by omega] at q2
        have i := ih (j - p) (by omega)
        rw [show j - p + 1 = j + 1 - p by omega] at i
        omega
      · have q1 := QPf (s.length - p) (Nat.le_refl _)
        rw [show s.length - p + p = s.length by omega] at q1
        rw [show j = s.length - 1 by omega, show s.length - 1 + 1 = s.length by omega]
        omega
theorem Mono.rise {f : Nat → Int} (h : Mono f) {q : Nat} {r : Int} {b : Nat} (Q : QP f q r b) : 0 ≤ r := by
  have a := Q b (Nat.le_refl _)
  have m := h.le (show b ≤ b + q by omega)
  omega
/-- a rise of 0 is that of the period 1 -/
theorem Mono.flat {f : Nat → Int} (h : Mono f) {q : Nat} {b : Nat} (F : IsForm f q 0 b) : q = 1 := by
  have l := F.least 1 (by omega) ⟨b, fun j hj => by
    have q0 := F.pos
    have key : ∀ i, b ≤ i → f (i + 1) = f i := fun i hi => by
      have a := F.qp i hi
      have m1 := h i
      have m2 := h.le (show i + 1 ≤ i + q by omega)
      omega
    unfold D
    rw [key (j + 1) (by omega), key j hj]⟩
  have := F.pos
  omega
theorem form_rise {f : Nat → Int} {p q : Nat} {g r : Int} {b c : Nat} (p0 : 0 < p) (P : QP f p g c) (F : IsForm f q r b) : (p : Int) * r = (q : Int) * g := by
  have m1 := P.mul (j := b + c) (by omega) q
  have m2 := F.qp.mul (j := b + c) (by omega) p
  rw [Nat.mul_comm q p] at m1
  omega
theorem form_le {f : Nat → Int} {p q : Nat} {g r : Int} {b c : Nat} (p0 : 0 < p) (g0 : 0 ≤ g) (P : QP f p g c) (F : IsForm f q r b) : r ≤ g ∧ q ≤ p := by
  have e := form_rise p0 P F
  have l := F.least p p0 ⟨c, P.dp⟩
  refine ⟨?_, l⟩
  have h : (q : Int) * g ≤ (p : Int) * g := Int.mul_le_mul_of_nonneg_right (by omega) g0
  exact Int.le_of_mul_le_mul_left (a := (p : Int)) (by omega) (by omega)
end MF
end

section
set_option Elab.async false
set_option linter.all false
set_option maxRecDepth 100000
set_option maxHeartbeats 4000000
namespace WW
open PySem L2 WO WG RZ
abbrev sFirst : Stmt := top 29
abbrev sBehind : Stmt := top 30
abbrev sRegular : Stmt := top 27
theorem RowF.get {xs : List V} {p : Nat} {g : Int} {F : Nat → V} (R : RowF xs p g F) {j : Nat} (h : j < xs.length) : xs[j]? = some (F j) := by
  cases R with
  | mkI s p g p0 pn pb => rw [List.length_map] at h; exact get_map h
  | mkN s k p g =>
    rw [List.length_append, List.length_map, List.length_replicate] at h
    unfold FN
    by_cases c : j < s.length
    · rw [if_pos c, List.getElem?_append_left (by rw [List.length_map]; exact c), List.getElem?_map, List.getD_eq_getElem?_getD, List.getElem?_eq_getElem c]
      rfl
    · rw [if_neg c]
      exact nones_get j (by omega) h
theorem RowF.take {xs : List V} {p : Nat} {g : Int} {F : Nat → V} (R : RowF xs p g F) {n : Nat} : xs.take n = (List.range (min n xs.length)).map F := by
  refine List.ext_getElem? fun i => ?_
  rw [List.getElem?_take, List.getElem?_map]
  by_cases h : i < n
  · by_cases h2 : i < xs.length
    · rw [if_pos h, R.get h2, List.getElem?_range (by omega)]
      rfl
    · rw [if_pos h, List.getElem?_eq_none (by omega), List.getElem?_eq_none (by rw [List.length_range]; omega)]
      rfl
  · rw [if_neg h, List.getElem?_eq_none (by rw [List.length_range]; omega)]
    rfl
theorem cutR' {xs : List V} {n : Nat} : cutV xs none (some (n : Int)) = xs.take n := by
  have e : HT.sIx xs.length xs.length (some (n : Int)) = min n xs.length := by
    unfold HT.sIx
    dsimp only
    rw [if_neg (by omega), Int.toNat_natCast]
  unfold cutV
  rw [e]
  show (xs.drop 0).take (min n xs.length - 0) = _
  rw [List.drop_zero, Nat.sub_zero, ← List.take_take, List.take_length]
theorem rep_flat (n : Nat) : (List.replicate n [V.non]).flatten = List.replicate n V.non := by
  induction n with
  | zero => rfl
  | succ n ih => rw [List.replicate_succ, List.flatten_cons, ih]; rfl
theorem line_of {n : Nat} (h : n ≤ 100000) : n ≤ sizeLine := Nat.le_trans h (by decide)
theorem line_of' {n : Nat} (h : n < 100000) : n < sizeLine := Nat.lt_of_lt_of_le h (by decide)
section
variable {P : Program} {w : World} {K : PySem.W.Frag} {mg : Str → Option Value} {base : Heap}
def spRegular (K : PySem.W.Frag) (C : Addr) : Sp := fun vs H Q _ => ∃ (x : Addr) (v : List V) (p : Nat) (r : Int), vs = [.ref x] ∧ CurveAt H C x v p r ∧ p ≤ v.length ∧ Q (.int ((v.length - p : Nat) : Int)) H
theorem scRegular : FnScope ["curve"] ["curve"] (defScope sRegular) := ⟨rfl, rfl, rfl, by decide +kernel, rfl, by decide +kernel, by decide +kernel⟩
theorem ok_regular {f fI fE C : Addr} {fd : FuncData} (F : Fun K "regular_from" "regular_from" sRegular f fd) (T : CurG mg) (U : CurT K mg C fI fE) : FnOk P w K mg base CX0 1 f fd ["curve"] (spRegular K C) := by
  refine F.ok scRegular (fun vs H Q E h => ?_) (fun cdv A outer s H vs Q E hr h => ?_)
  · obtain ⟨x, v, p, r, rfl, _⟩ := h
    rfl
  · obtain ⟨x, v, p, r, rfl, ⟨dx, t, h1, h2⟩, hp, k⟩ := h
    refine ⟨_, pss_one (ps_ret (pe_op op_sub (pe_callB call_len_seq (by rfl) T.len PySem.boot_len (pa_cons (pe_fld (pv 0) rfl) pa_nil)) (pe_fld (pv 0) rfl))), ?_⟩
    refine ⟨_, rfl, x, C, dx, _, .ref t, rfl, h1, U.cl, U.nS, rfl, t, v, rfl, .inr (SqT.of h2), _, rfl, x, C, dx, _, .int p, rfl, h1, U.cl, U.nP, rfl, _, _, rfl, rfl, ?_⟩
    rw [← show (v.length : Int) - (p : Int) = ((v.length - p : Nat) : Int) by omega] at k
    exact k
/-- the values behind the start, from the first one -/
def beh (s : List Int) (p : Nat) (g : Int) (n : Nat) : List Int := (List.range n).map fun j => MF.at_ s p g (s.length + j)
theorem beh_len {s : List Int} {p : Nat} {g : Int} {n : Nat} : (beh s p g n).length = n := by unfold beh; rw [List.length_map, List.length_range]
theorem beh_snoc {s : List Int} {p : Nat} {g : Int} (n : Nat) : (beh s p g n).map V.int ++ [.int (MF.at_ s p g (s.length + n))] = (beh s p g (n + 1)).map V.int := by
  unfold beh
  rw [List.range_succ, List.map_append, List.map_append]
  rfl
theorem beh_get {s : List Int} {p : Nat} {g : Int} {n i : Nat} (h : i < n) : ((beh s p g n).map V.int)[i]? = some (.int (MF.at_ s p g (s.length + i))) := by
  unfold beh
  rw [List.getElem?_map, List.getElem?_map, List.getElem?_range h]
  rfl
/-- n values in steps of L values that rise by G -/
theorem beh_add {s : List Int} {p L : Nat} {g G : Int} (h : MF.QP (MF.at_ s p g) L G (s.length - p)) (n m : Nat) (hm : m ≤ n) (hn : n ≤ m + L) (hL : L ≤ n) : MF.at_ s p g (s.length + n) = MF.at_ s p g (s.length + (n - L)) + G := by
  have := h (s.length + (n - L)) (by omega)
  rw [show s.length + (n - L) + L = s.length + n by omega] at this
  exact this
def spBehind (K : PySem.W.Frag) (C : Addr) : Sp := fun vs H Q _ => ∃ (x : Addr) (s : List Int) (p n : Nat) (g : Int), vs = [.ref x, .int n] ∧ CurveAt H C x (s.map V.int) p g ∧ 0 < p ∧ p ≤ s.length ∧ s.length ≤ 100000 ∧ 0 < n ∧ n ≤ 50000 ∧ 0 ≤ g ∧ g < 2 ^ 30 ∧ (∀ z ∈ s, -(2 ^ 50) ≤ z ∧ z < 2 ^ 50) ∧ (g = 0 → p = 1) ∧
  ∀ (z : Addr) (H' : Hp), H z = none → H' z = some (.lst ((beh s p g n).map V.int)) → Same H H' → Q (.ref z) H'
abbrev nBehind : List Str := ["curve", "many", "growth", "row", "rounds", "one", "lift"]
theorem scBehind : FnScope nBehind ["curve", "many"] (defScope sBehind) := ⟨rfl, rfl, rfl, by decide +kernel, rfl, by decide +kernel, by decide +kernel⟩
theorem ok_behind {f fR fI fE C : Addr} {fd dR : FuncData} (F : Fun K "values_behind" "values_behind" sBehind f fd) (T : CurG mg) (few : ∃ t, mg "FEW" = some (.int 12 t)) (U : CurT K mg C fI fE)
    (GR : FnOk P w K mg base CX0 1 fR dR ["curve"] (spRegular K C)) (kR : PySem.W.keepIn K (.ref fR) = true) (bR : Binds K dR ["curve"] []) (mR : mg "regular_from" = some (.ref fR)) :
    FnOk P w K mg base CX0 2 f fd ["curve", "many"] (spBehind K C) := by
  refine F.ok scBehind (fun vs H Q E h => ?_) (fun cdv A outer s H vs Q E hr h => ?_)
  · obtain ⟨x, s, p, n, g, rfl, _⟩ := h
    rfl
  · obtain ⟨x, sl, p, n, g, rfl, cu, p0, pn, n4, n0, n5, g0, g1, bd, gp, k⟩ := h
    obtain ⟨dx, t, h1, h2⟩ := id cu
    obtain ⟨tf, mF⟩ := few
    have hu := hr.units
    refine ⟨_, pss_cons (ps_set (i := 2) scBehind.nd rfl (Or.inr rfl) (pe_fld (pv 0) rfl))
      (C8.pss_cut (ps_set (i := 3) scBehind.nd rfl (Or.inr rfl) (pe_lc (own := [("one", 5)]) (g := gName 5) (tt := tYes) rfl scBehind.nd
          (pi_tup (pe_slice LM.sl_tupN (pe_fld (pv 0) rfl) (po_some (pe_call GR hr rfl mR kR bR .nil pass0 (pa_cons (pv 0) pa_nil))) po_none)) (blkOk_by (N := nBehind) (sc := defScope sBehind) (by decide +kernel))
          (fun _ _ _ _ _ => pg_name (i := 5) scBehind.nd rfl (Or.inl rfl)) (fun _ _ _ _ _ => pts_nil) (fun _ _ _ _ _ => pe_op op_add (pv 5) (pv 2))))
      (pss_cons (ps_if (pt_cmpR op_eq (pv 2) pe_int (nomark _)) (pss_one (ps_ret (pe_op op_rep (pv 3) (pv 1)))) pss_nil)
      (pss_cons (ps_if (pt_cmpR op_eq (pe_callB call_len_seq (by rfl) T.len PySem.boot_len (pa_cons (pv 3) pa_nil)) pe_int (nomark _))
        (pss_one (ps_ret (pe_listRgW rfl (by rfl) T.list (by rfl) T.range (pa_cons (pe_ix ix_list (pv 3) pe_int (fun _ _ => rfl)) (pa_cons (pe_op op_add (pe_ix ix_list (pv 3) pe_int (fun _ _ => rfl)) (pe_op op_mul (pv 2) (pv 1))) (pa_cons (pv 2) pa_nil)))))) pss_nil)
      (C8.pss_cut (ps_while PassesOwn.never (pt_cmpR op_lt (pe_callB call_len_seq (by rfl) T.len PySem.boot_len (pa_cons (pv 3) pa_nil)) (pe_glob (v := .int 12) rfl mF ⟨_, rfl⟩) (nomark _))
        (pss_cons (ps_set (i := 3) scBehind.nd rfl (Or.inr rfl) (pe_op op_cat (pv 3) (pe_lc (own := [("one", 5)]) (g := gName 5) (tt := tYes) rfl scBehind.nd (pi_list (pv 3)) (blkOk_by (N := nBehind) (sc := defScope sBehind) (by decide +kernel))
          (fun _ _ _ _ _ => pg_name (i := 5) scBehind.nd rfl (Or.inl rfl)) (fun _ _ _ _ _ => pts_nil) (fun _ _ _ _ _ => pe_op op_add (pv 5) (pv 2)))))
        (pss_one (ps_set (i := 2) scBehind.nd rfl (Or.inr rfl) (pe_op op_add (pv 2) (pv 2))))))
      (C8.pss_cut (ps_set (i := 4) scBehind.nd rfl (Or.inl rfl) (pe_un un_neg (pe_op op_fdivN (pe_un un_neg (pv 1)) (pe_callB call_len_seq (by rfl) T.len PySem.boot_len (pa_cons (pv 3) pa_nil)))))
      (pss_one (ps_ret (pe_slice sl_list (pe_lc2 (own := [("one", 5), ("lift", 6)]) (vs1 := [5]) (g := gName 6) (tt := tYes) (g1 := gName 5) (tt1 := tYes) (wi1 := iList K (tVar 3)) rfl scBehind.nd (pi_rangeW (by rfl) T.range (pa_cons pe_int (pa_cons (pe_op op_mul (pv 2) (pv 4)) (pa_cons (pv 2) pa_nil))))
          (blkOk_by (N := nBehind) (sc := defScope sBehind) (by decide +kernel)) (by decide) (fun _ _ _ _ _ => pg_name (i := 6) scBehind.nd rfl (Or.inl rfl)) (fun _ _ _ _ _ => pts_nil)
          (fun _ _ _ _ _ => pi_list (pv 3)) (fun _ _ _ _ _ => pg_name (i := 5) scBehind.nd rfl (Or.inl rfl)) (fun _ _ _ _ _ => pts_nil) (fun _ _ _ _ _ => pe_op op_add (pv 5) (pv 6))) po_none (po_some (pv 1)))))))))), ?_⟩
    have QP0 := MF.at_qp (s := sl) (g := g) p0 pn
    have lX := tail_len (s := sl) pn
    refine ⟨_, rfl, x, C, dx, _, .int g, rfl, h1, U.cl, U.nG, rfl, ?_⟩
    refine ⟨fun σ' H' => ∃ z, σ' = [some (.ref x), some (.int n), some (.int g), some (.ref z), none, none, none] ∧ H z = none ∧ H' z = some (.lst ((beh sl p g p).map V.int)) ∧ Same H H', ?_, ?_⟩
    · refine ⟨_, rfl, x, C, dx, _, .ref t, rfl, h1, U.cl, U.nS, rfl, _, rfl, x, _, p, g, rfl, cu, by rw [List.length_map]; exact pn, _, rfl, t, _, rfl, SqT.of h2, fun a' H1 ha s1 => ?_⟩
      rw [List.length_map, cutL (by rw [List.length_map]; omega)] at ha
      refine ⟨a', rfl, ⟨_, ha⟩, fun D hD => LM.lcM (walk_tup (K := K) (a := a') (xs := (sl.map V.int).drop (sl.length - p))) (fun i => V.int (MF.at_ sl p g (sl.length + i))) hD (by rw [lX]; omega) (fun H2 s2 => seqT s2 ha) ?_ ?_⟩
      · rintro i v H2 H3 hi s2 ⟨rfl, hv⟩ R N kk
        rw [lX] at hi
        rw [tail_get (g := g) pn hi] at hv
        cases hv
        have q := QP0 (sl.length - p + i) (by omega)
        rw [show sl.length - p + i + p = sl.length + i by omega] at q
        have kk' := kk _ (Same.refl _)
        rw [q] at kk'
        exact ⟨rfl, _, rfl, _, rfl, _, _, rfl, rfl, kk'⟩
      · intro H2 hd s2
        rw [lX] at hd
        refine ⟨D, rfl, s1.free hD, ?_, Same.trans s1 s2⟩
        rw [hd]
        unfold beh
        rw [List.map_map]
        rfl
    rintro σ1 H1 ⟨z, rfl, hz, f1, s1⟩
    refine ⟨_, rfl, rfl, decide (g = 0), (by show V.bl (decide (V.int g = V.int 0)) = _; congr 1; exact decide_eq_decide.mpr ⟨fun z => V.int.inj z, fun z => by rw [z]⟩), ?_⟩
    refine ite2 (fun c => ?_) (fun c => ?_)
    · have g0 : g = 0 := of_decide_eq_true c
      have p1 := gp g0
      subst p1 g0
      have e1 : (beh sl 1 0 1).map V.int = [V.int (MF.at_ sl 1 0 sl.length)] := rfl
      rw [e1] at f1
      refine ⟨_, rfl, _, rfl, z, n, _, rfl, rfl, f1, by omega, by omega, (by show 1 * _ ≤ sizeLine; exact line_le (by omega)), fun q hq => ?_⟩
      have e2 : (List.replicate (n : Int).toNat [V.int (MF.at_ sl 1 0 sl.length)]).flatten = (beh sl 1 0 n).map V.int := by
        rw [Int.toNat_natCast]
        unfold beh
        rw [List.map_map]
        refine List.ext_getElem? fun j => ?_
        have fl : ∀ m, (List.replicate m [V.int (MF.at_ sl 1 0 sl.length)]).flatten = List.replicate m (V.int (MF.at_ sl 1 0 sl.length)) := fun m => by
          induction m with
          | zero => rfl
          | succ m ih => rw [List.replicate_succ, List.flatten_cons, ih]; rfl
        rw [fl, List.getElem?_replicate, List.getElem?_map]
        by_cases hj : j < n
        · rw [if_pos hj, List.getElem?_range hj]
          have m := QP0.mul (j := sl.length) (by omega) j
          rw [Nat.mul_one, Int.mul_zero, Int.add_zero] at m
          show _ = some (V.int (MF.at_ sl 1 0 (sl.length + j)))
          rw [m]
        · rw [if_neg hj, List.getElem?_eq_none (by rw [List.length_range]; omega)]
          rfl
      rw [e2]
      exact k q _ (s1.free hq) upd_same (Same.trans s1 (same_new hq))
    have gpos : 0 < g := by
      have : g ≠ 0 := fun z => c (decide_eq_true z)
      omega
    have lb : ((beh sl p g p).map V.int).length = p := by rw [List.length_map, beh_len]
    refine ⟨_, rfl, z, _, rfl, .inl (SqL.of f1), rfl, decide (p = 1), (by rw [lb]; show V.bl (decide (V.int (p : Int) = V.int 1)) = _; congr 1; exact decide_eq_decide.mpr ⟨fun z => by have := V.int.inj z; omega, fun z => by rw [z]; rfl⟩), ?_⟩
    have vb : ∀ j, j < sl.length → -(2 ^ 50) ≤ MF.at_ sl p g j ∧ MF.at_ sl p g j < 2 ^ 50 := fun j hj => by
      rw [MF.at_low hj, List.getD_eq_getElem?_getD, List.getElem?_eq_getElem hj]
      exact bd _ (List.getElem_mem hj)
    have e0 : atI ((beh sl p g p).map V.int) 0 = some (.int (MF.at_ sl p g sl.length)) := atI_nat (j := 0) (beh_get p0)
    have w0 : -(2 ^ 50) ≤ MF.at_ sl p g sl.length ∧ MF.at_ sl p g sl.length < 2 ^ 51 := by
      have q := QP0 (sl.length - p) (by omega)
      rw [show sl.length - p + p = sl.length by omega] at q
      have v := vb (sl.length - p) (by omega)
      omega
    have gn : g * (n : Int) < 2 ^ 50 ∧ 0 < g * (n : Int) := by
      refine ⟨?_, Int.mul_pos gpos (by omega)⟩
      have h1 : g * (n : Int) ≤ 2 ^ 30 * (n : Int) := Int.mul_le_mul_of_nonneg_right (by omega) (by omega)
      omega
    refine ite2 (fun c1 => ?_) (fun c1 => ?_)
    · have p1 : p = 1 := of_decide_eq_true c1
      subst p1
      refine ⟨_, rfl, z, _, _, _, rfl, rfl, SqL.of f1, e0, _, rfl, z, _, _, _, rfl, rfl, SqL.of f1, e0, _, rfl, _, rfl, _, _, rfl, rfl, .inl ⟨by omega, by omega⟩, _, _, rfl, rfl, _, rfl, MF.at_ sl 1 g sl.length, _, g, n, rfl, RgW.up (by omega) (by omega) (by omega) (by omega) gpos (by omega) (by omega) ?_ ?_, by omega, fun q hq => ?_⟩
      · rw [Int.mul_comm g]
        omega
      · intro m hm
        have h1 : (m : Int) * g < (n : Int) * g := Int.mul_lt_mul_of_pos_right (by omega) gpos
        rw [Int.mul_comm g]
        omega
      · have e2 : rgC (MF.at_ sl 1 g sl.length) g n = (beh sl 1 g n).map V.int := by
          unfold rgC beh
          rw [List.map_map]
          refine List.map_congr_left fun j _ => ?_
          have m := QP0.mul (j := sl.length) (by omega) j
          rw [Nat.mul_one] at m
          show V.int _ = V.int (MF.at_ sl 1 g (sl.length + j))
          rw [m]
        rw [e2]
        exact k q _ (s1.free hq) upd_same (Same.trans s1 (same_new hq))
    have p2 : 2 ≤ p := by
      have : p ≠ 1 := fun z => c1 (decide_eq_true z)
      omega
    refine ⟨fun σ' H' => ∃ (z : Addr) (m : Nat), σ' = [some (.ref x), some (.int n), some (.int (m * g)), some (.ref z), none, none, none] ∧ H z = none ∧ H' z = some (.lst ((beh sl p g (m * p)).map V.int)) ∧ 1 ≤ m ∧ m ≤ 12 ∧ 12 ≤ m * p ∧ m * p ≤ 100024 ∧ Same H H', ?_, ?_⟩
    · refine while_by (fun σ' H' => ∃ (z : Addr) (m : Nat), σ' = [some (.ref x), some (.int n), some (.int (m * g)), some (.ref z), none, none, none] ∧ H z = none ∧ H' z = some (.lst ((beh sl p g (m * p)).map V.int)) ∧ 1 ≤ m ∧ m ≤ 12 ∧ m * p ≤ 100024 ∧ Same H H')
          (fun σ' H' => match σ' with
            | [_, _, _, some (.ref z), _, _, _] => (match H' z with
              | some (.lst l) => 12 - l.length
              | _ => 0)
            | _ => 0) ⟨z, 1, by rw [Int.ofNat_one, Int.one_mul], hz, by rw [Nat.one_mul]; exact f1, by omega, by omega, by omega, s1⟩ ?_ ?_
      · rintro σ' H2 ⟨z, m, rfl, hz, f2, m1, m12, mp, s2⟩
        have lm : ((beh sl p g (m * p)).map V.int).length = m * p := by rw [List.length_map, beh_len]
        by_cases c2 : m * p < 12
        · have m6 : m < 6 := by
            rcases Nat.lt_or_ge m 6 with h | h
            · exact h
            · have := Nat.mul_le_mul h p2
              omega
          refine ⟨_, rfl, z, _, rfl, .inl (SqL.of f2), _, _, rfl, rfl, true, bT (by rw [lm]; omega), iteT ?_⟩
          refine ⟨_, rfl, _, rfl, z, rfl, ⟨_, SqL.of f2⟩, fun D hD => LM.lcM (walk_list (K := K) (a := z) (xs := (beh sl p g (m * p)).map V.int)) (fun i => V.int (MF.at_ sl p g (sl.length + (m * p + i)))) hD (by rw [lm]; omega) (fun H3 s3 => SqL.of (s3 _ _ f2)) ?_ ?_⟩
          · rintro i v H3 H4 hi s3 ⟨rfl, hv⟩ R N kk
            rw [lm] at hi
            rw [beh_get hi] at hv
            cases hv
            have q := QP0.mul (j := sl.length + i) (by omega) m
            rw [show sl.length + i + m * p = sl.length + (m * p + i) by omega] at q
            have kk' := kk _ (Same.refl _)
            rw [q] at kk'
            exact ⟨rfl, _, rfl, _, rfl, _, _, rfl, rfl, kk'⟩
          · intro H3 hd s3
            rw [lm] at hd
            refine ⟨z, D, _, _, rfl, rfl, s3 _ _ f2, hd, (by rw [lm, List.length_map, List.length_range]; exact line_le (by omega)), fun q hq => ?_⟩
            have e3 : (beh sl p g (m * p)).map V.int ++ (List.range (m * p)).map (fun i => V.int (MF.at_ sl p g (sl.length + (m * p + i)))) = (beh sl p g ((m + m) * p)).map V.int := by
              unfold beh
              rw [Nat.add_mul, List.range_add, List.map_map, List.map_map, List.map_append, List.map_map]
              rfl
            rw [e3]
            have e4 : ((m + m : Nat) : Int) * g = (m : Int) * g + (m : Int) * g := by rw [Int.natCast_add, Int.add_mul]
            have e5 : (m + m) * p = m * p + m * p := Nat.add_mul ..
            refine ⟨_, rfl, _, rfl, _, _, rfl, rfl, ⟨q, m + m, by rw [e4]; rfl, s2.free (s3.free hq), upd_same, by omega, by omega, by omega, Same.trans s2 (Same.trans s3 (same_new hq))⟩, ?_⟩
            show (match (upd H3 q (HO.lst ((beh sl p g ((m + m) * p)).map V.int))) q with
              | some (.lst l) => 12 - l.length
              | _ => 0) < (match H2 z with
              | some (.lst l) => 12 - l.length
              | _ => 0)
            rw [upd_same, f2]
            show 12 - ((beh sl p g ((m + m) * p)).map V.int).length < 12 - ((beh sl p g (m * p)).map V.int).length
            rw [List.length_map, beh_len, lm]
            have : 0 < m * p := Nat.mul_pos m1 p0
            omega
        · refine ⟨_, rfl, z, _, rfl, .inl (SqL.of f2), _, _, rfl, rfl, false, bF (by rw [lm]; omega), iteF ⟨z, m, rfl, hz, f2, m1, m12, by omega, mp, s2⟩⟩
      · intro σ H Q Q' m h
        obtain ⟨w1, f1, w2, w3, f2, f3, i, j, f5, f6, b, eb, hQ⟩ := h
        exact ⟨w1, f1, w2, w3, f2, f3, i, j, f5, f6, b, eb, m _ _ hQ⟩
    rintro σ2 H2 ⟨z2, m, rfl, hz2, f2, m1, m12, L12, mp, s2⟩
    have lm : ((beh sl p g (m * p)).map V.int).length = m * p := by rw [List.length_map, beh_len]
    have QPL : MF.QP (MF.at_ sl p g) (m * p) (m * g) (sl.length - p) := fun j hj => QP0.mul hj m
    have mg : 0 < (m : Int) * g ∧ (m : Int) * g < 2 ^ 34 := by
      refine ⟨Int.mul_pos (by omega) gpos, ?_⟩
      have h1 : (m : Int) * g ≤ 12 * g := Int.mul_le_mul_of_nonneg_right (by omega) (by omega)
      omega
    generalize hL : m * p = L at *
    generalize hG : (m : Int) * g = G at *
    obtain ⟨R, eR, R1, R2⟩ : ∃ R : Nat, -(Int.fdiv (-(n : Int)) (L : Int)) = (R : Int) ∧ n ≤ R * L ∧ R * L < n + L := by
      rw [Int.fdiv_eq_ediv_of_nonneg _ (by omega)]
      have h1 := Int.mul_ediv_add_emod (-(n : Int)) (L : Int)
      have h2 := Int.emod_nonneg (-(n : Int)) (show (L : Int) ≠ 0 by omega)
      have h3 := Int.emod_lt_of_pos (-(n : Int)) (show (0 : Int) < L by omega)
      generalize hq : -(n : Int) / (L : Int) = q at *
      have hq0 : q ≤ 0 := by
        rcases Int.lt_or_le 0 q with h | h
        · have : (L : Int) * 1 ≤ (L : Int) * q := Int.mul_le_mul_of_nonneg_left h (by omega)
          omega
        · exact h
      obtain ⟨R, rfl⟩ : ∃ R : Nat, q = -(R : Int) := ⟨(-q).toNat, by omega⟩
      have e : (L : Int) * -(R : Int) = -((R * L : Nat) : Int) := by
        rw [Int.mul_neg, Int.mul_comm, Int.natCast_mul]
      exact ⟨R, by omega, by omega, by omega⟩
    refine ⟨fun σ' H' => σ' = [some (.ref x), some (.int n), some (.int G), some (.ref z2), some (.int R), none, none] ∧ H' = H2, ?_, ?_⟩
    · refine ⟨_, rfl, _, rfl, _, rfl, z2, _, rfl, .inl (SqL.of f2), _, _, rfl, rfl, ⟨by rw [lm]; omega, by rw [lm]; omega⟩, _, rfl, ?_, rfl⟩
      show [_, _, _, _, some (V.int (-(Int.fdiv (-(n : Int)) (((beh sl p g L).map V.int).length : Int)))), _, _] = _
      rw [lm, eR]
    rintro σ3 H3 ⟨rfl, rfl⟩
    have hR : R ≤ 200000 := by
      have : R * 12 ≤ R * L := Nat.mul_le_mul_left _ L12
      omega
    have GR : G * (R : Int) < 2 ^ 58 ∧ 0 ≤ G * (R : Int) := by
      refine ⟨?_, Int.mul_nonneg (by omega) (by omega)⟩
      have h1 : G * (R : Int) ≤ 2 ^ 34 * (R : Int) := Int.mul_le_mul_of_nonneg_right (by omega) (by omega)
      omega
    refine ⟨_, rfl, _, rfl, _, _, rfl, rfl, .inl ⟨by omega, by omega⟩, _, rfl, 0, _, G, R, rfl, RgW.up (by omega) (by omega) (by omega) (by omega) mg.1 (by omega) (by omega) (by rw [Int.mul_comm G]; omega) ?_, fun D hD => ?_⟩
    · intro i hi
      have h1 : (i : Int) * G < (R : Int) * G := Int.mul_lt_mul_of_pos_right (by omega) mg.1
      rw [Int.mul_comm G]
      omega
    refine LM.itB (walk_rangeC (lo := 0) (c := G) (n := R)) (fun i H' => H' D = some (.lst ((beh sl p g (i * L)).map V.int)) ∧ Same H3 H') ⟨by rw [Nat.zero_mul]; exact upd_same, LM.sNew hD⟩ (fun _ _ _ _ => trivial) ?_ ?_
    · rintro i v H4 H5 hi ⟨d4, s4⟩ ⟨rfl, rfl⟩
      have hiL : i * L + L ≤ R * L := by
        rw [← Nat.succ_mul]
        exact Nat.mul_le_mul_right _ hi
      refine ⟨rfl, _, rfl, z2, rfl, ⟨_, SqL.of (s4 _ _ f2)⟩, LM.itB (walk_list (K := K) (a := z2) (xs := (beh sl p g L).map V.int)) (fun j H' => H' D = some (.lst ((beh sl p g (i * L + j)).map V.int)) ∧ Same H3 H') ⟨d4, s4⟩ (fun _ _ _ h => SqL.of (h.2 _ _ f2)) ?_ ?_⟩
      · rintro j u H6 H7 hj ⟨d6, s6⟩ ⟨rfl, hu⟩
        rw [lm] at hj
        rw [beh_get hj] at hu
        cases hu
        have q := QPL.mul (j := sl.length + j) (by omega) i
        rw [show sl.length + j + i * L = sl.length + (i * L + j) by omega] at q
        refine ⟨rfl, _, rfl, _, rfl, _, _, rfl, rfl, _, d6, (by rw [List.length_map, beh_len]; exact line_lt (by omega)), ?_, LM.sPut hD s6⟩
        have e := beh_snoc (s := sl) (p := p) (g := g) (i * L + j)
        rw [q] at e
        rw [← Nat.add_assoc, ← e, Int.zero_add]
        exact upd_same
      · rintro H6 ⟨d6, s6⟩
        rw [lm, ← Nat.succ_mul] at d6
        exact ⟨d6, s6⟩
    · rintro H4 ⟨d4, s4⟩
      refine ⟨_, rfl, (n : Int), rfl, D, _, rfl, SqL.of d4, fun q hq => ?_⟩
      have e5 : cutV ((beh sl p g (R * L)).map V.int) none (some (n : Int)) = (beh sl p g n).map V.int := by
        rw [cutR', ← List.map_take]
        unfold beh
        rw [← List.map_take, List.take_range, Nat.min_eq_left R1]
      rw [e5]
      exact k q _ (s2.free (s4.free hq)) upd_same (Same.trans s2 (Same.trans s4 (same_new hq)))
/-- what is known of a curve's form beside its values: numbers of bounded size, growth 0 for a period of 1 alone -/
structure Calm (v : List V) (p : Nat) (g : Int) : Prop where
  g0 : 0 ≤ g
  g1 : g < 2 ^ 30
  bd : ∀ z : Int, V.int z ∈ v → -(2 ^ 50) ≤ z ∧ z < 2 ^ 50
  gp : g = 0 → p = 1
def spFirst (K : PySem.W.Frag) (C : Addr) : Sp := fun vs H Q _ => ∃ (x : Addr) (v : List V) (p n : Nat) (g : Int) (F : Nat → V), vs = [.ref x, .int n] ∧ CurveAt H C x v p g ∧ RowF v p g F ∧ Calm v p g ∧ 0 < v.length ∧ v.length ≤ 100000 ∧ n ≤ 50000 ∧
  ∀ (z : Addr) (H' : Hp), H z = none → H' z = some (.lst ((List.range n).map F)) → Same H H' → Q (.ref z) H'
abbrev nFirst : List Str := ["curve", "many", "row", "lack", "period"]
theorem scFirst : FnScope nFirst ["curve", "many"] (defScope sFirst) := ⟨rfl, rfl, rfl, by decide +kernel, rfl, by decide +kernel, by decide +kernel⟩
theorem ok_first {f fN fB fI fE C : Addr} {fd dN dB : FuncData} (F : Fun K "first_values" "first_values" sFirst f fd) (T : CurG mg) (few : ∃ t, mg "FEW" = some (.int 12 t)) (U : CurT K mg C fI fE)
    (GN : FnOk P w K mg base CX0 1 fN dN ["curve"] (spHas K C)) (kN : PySem.W.keepIn K (.ref fN) = true) (bN : Binds K dN ["curve"] []) (mN : mg "has_none" = some (.ref fN))
    (GB : FnOk P w K mg base CX0 2 fB dB ["curve", "many"] (spBehind K C)) (kB : PySem.W.keepIn K (.ref fB) = true) (bB : Binds K dB ["curve", "many"] []) (mB : mg "values_behind" = some (.ref fB)) :
    FnOk P w K mg base CX0 3 f fd ["curve", "many"] (spFirst K C) := by
  refine F.ok scFirst (fun vs H Q E h => ?_) (fun cdv A outer s H vs Q E hr h => ?_)
  · obtain ⟨x, v, p, n, g, F, rfl, _⟩ := h
    rfl
  · obtain ⟨x, v, p, n, g, F, rfl, cu, R, CM, v0, v4, hn, k⟩ := h
    obtain ⟨dx, t, h1, h2⟩ := id cu
    obtain ⟨tf, mF⟩ := few
    have hr1 := hr.mono (show 1 ≤ 2 by decide)
    refine ⟨_, C8.pss_cut (ps_set (i := 2) scFirst.nd rfl (Or.inl rfl) (pe_callTy call_list_of (by rfl) T.list (by decide +kernel) (pa_cons (pe_slice sl_tupA (pe_fld (pv 0) rfl) po_none (po_some (pv 1))) pa_nil)))
      (C8.pss_cut (ps_set (i := 3) scFirst.nd rfl (Or.inl rfl) (pe_op op_sub (pv 1) (pe_callB call_len_seq (by rfl) T.len PySem.boot_len (pa_cons (pv 2) pa_nil))))
      (pss_cons (ps_if (pt_cmpR op_le (pv 3) pe_int (nomark _)) (pss_one (ps_ret (pv 2))) pss_nil)
      (pss_cons (ps_if (pt_val (pe_call GN hr1 rfl mN kN bN .nil pass0 (pa_cons (pv 0) pa_nil))) (pss_one (ps_ret (pe_op op_cat (pv 2) (pe_op op_rep (pe_lst (pa_cons pe_non pa_nil)) (pv 3))))) pss_nil)
      (pss_cons (ps_if (pt_cmpR op_gt (pv 3) (pe_glob (v := .int 12) rfl mF ⟨_, rfl⟩) (nomark _)) (pss_one (ps_ret (pe_op op_cat (pv 2) (pe_call GB hr rfl mB kB bB .nil pass0 (pa_cons (pv 0) (pa_cons (pv 3) pa_nil)))))) pss_nil)
      (pss_cons (ps_set (i := 4) scFirst.nd rfl (Or.inl rfl) (pe_fld (pv 0) rfl))
      (C8.pss_cut (ps_while PassesOwn.never (pt_cmpR op_lt (pe_callB call_len_seq (by rfl) T.len PySem.boot_len (pa_cons (pv 2) pa_nil)) (pv 1) (nomark _))
          (pss_one (ps_expr (pe_bm PySem.F.plainAttrs_list PySem.F.slot_list_append PySem.F.type_list_append mt_append (pv 2) (pa_cons (pe_op op_add (pe_ix ix_list (pv 2) (pe_op op_sub (pe_callB call_len_seq (by rfl) T.len PySem.boot_len (pa_cons (pv 2) pa_nil)) (pv 4)) (fun _ _ => rfl)) (pe_fld (pv 0) rfl)) pa_nil)))))
      (pss_one (ps_ret (pv 2))))))))), ?_⟩
    refine ⟨fun σ H' => ∃ z, σ = [some (.ref x), some (.int n), some (.ref z), none, none] ∧ H z = none ∧ H' z = some (.lst ((List.range (min n v.length)).map F)) ∧ Same H H', ?_, ?_⟩
    · refine ⟨_, rfl, x, C, dx, _, .ref t, rfl, h1, U.cl, U.nS, rfl, _, rfl, _, rfl, t, v, rfl, SqT.of h2, ?_, ?_⟩
      · rintro ⟨_, e⟩
        have e' : min n v.length = v.length := by
          unfold HT.sIx at e
          dsimp only at e
          rw [if_neg (by omega), Int.toNat_natCast] at e
          exact e
        refine ⟨t, v, rfl, .inr (SqT.of h2), fun z hz => ⟨z, rfl, hz, ?_, same_new hz⟩⟩
        have tk := R.take (n := n)
        rw [List.take_of_length_le (by omega)] at tk
        rw [← tk]
        exact upd_same
      · intro _ q hq
        rw [cutR', R.take]
        generalize g3 : upd H q _ = H1
        obtain ⟨s1, f1⟩ := alloc g3 hq
        exact ⟨q, _, rfl, .inr (SqT.of f1), fun z hz => ⟨z, rfl, s1.free hz, upd_same, Same.trans s1 (same_new hz)⟩⟩
    rintro σ H1 ⟨z, rfl, hz, h3, s1⟩
    have lr : ((List.range (min n v.length)).map F).length = min n v.length := by rw [List.length_map, List.length_range]
    refine ⟨fun σ H' => σ = [some (.ref x), some (.int n), some (.ref z), some (.int ((n - min n v.length : Nat) : Int)), none] ∧ H' = H1, ?_, ?_⟩
    · refine ⟨_, rfl, _, rfl, z, _, rfl, .inl (SqL.of h3), _, _, rfl, rfl, ?_, rfl⟩
      show [_, _, _, some (V.int ((n : Int) - (((List.range (min n v.length)).map F).length : Int))), _] = _
      rw [lr, show (n : Int) - ((min n v.length : Nat) : Int) = ((n - min n v.length : Nat) : Int) by omega]
    rintro σ H0 ⟨rfl, rfl⟩
    have cu1 := cu.same s1
    have gl : v[v.length - 1]? = some (F (v.length - 1)) := R.get (by omega)
    by_cases c0 : n ≤ v.length
    · refine ⟨_, rfl, _, _, rfl, rfl, true, bT (by omega), iteT ⟨_, rfl, ?_⟩⟩
      rw [Nat.min_eq_left c0] at h3
      exact k z _ hz h3 s1
    have mn : min n v.length = v.length := by omega
    rw [mn] at h3 lr ⊢
    refine ⟨_, rfl, _, _, rfl, rfl, false, bF (by omega), iteF ?_⟩
    refine ⟨_, rfl, x, v, _, _, _, rfl, cu1, gl, ?_⟩
    cases R with
    | mkN s k' p g =>
      have lx : (s.map V.int ++ List.replicate (k' + 1) V.non).length = s.length + (k' + 1) := by rw [List.length_append, List.length_map, List.length_replicate]
      refine ⟨true, ?_, iteT ?_⟩
      · have : FN s ((s.map V.int ++ List.replicate (k' + 1) V.non).length - 1) = .non := by
          unfold FN
          rw [if_neg (by rw [lx]; omega)]
        exact bT this
      refine ⟨_, rfl, (by show 1 ≤ sizeLine; decide), fun u hu => ?_⟩
      generalize g4 : upd H0 u _ = H2
      obtain ⟨s2, f2⟩ := alloc g4 hu
      have h3' := s2 _ _ h3
      refine ⟨_, rfl, u, _, [.non], rfl, rfl, f2, by omega, by omega, ?_, fun y hy => ?_⟩
      · show 1 * _ ≤ sizeLine
        exact line_of (by omega)
      rw [rep_flat, Int.toNat_natCast]
      generalize g5 : upd H2 y _ = H3
      obtain ⟨s3, f3⟩ := alloc g5 hy
      refine ⟨z, y, _, _, rfl, rfl, s3 _ _ h3', f3, ?_, fun o ho => ?_⟩
      · rw [lr, List.length_replicate]
        exact line_of (by omega)
      have e : (List.range (s.map V.int ++ List.replicate (k' + 1) V.non).length).map (FN s) ++ List.replicate (n - (s.map V.int ++ List.replicate (k' + 1) V.non).length) V.non = (List.range n).map (FN s) := by
        refine List.ext_getElem? fun i => ?_
        by_cases c : i < (s.map V.int ++ List.replicate (k' + 1) V.non).length
        · rw [List.getElem?_append_left (by rw [lr]; exact c), List.getElem?_map, List.getElem?_map, List.getElem?_range c, List.getElem?_range (by omega)]
        · rw [List.getElem?_append_right (by rw [lr]; omega), lr, List.getElem?_replicate, List.getElem?_map]
          by_cases c2 : i < n
          · rw [if_pos (by omega), List.getElem?_range c2]
            have : FN s i = .non := by
              unfold FN
              rw [if_neg (by rw [lx] at c; omega)]
            rw [Option.map_some, this]
          · rw [if_neg (by omega), List.getElem?_eq_none (by rw [List.length_range]; omega)]
            rfl
      rw [e]
      have ss := Same.trans s1 (Same.trans s2 s3)
      exact k o _ (ss.free ho) upd_same (Same.trans ss (same_new ho))
    | mkI s p g p0 pn pb =>
      have QP := MF.at_qp (s := s) (g := g) p0 pn
      rw [List.length_map] at v0 v4 lr c0 mn
      rw [List.length_map] at h3 ⊢
      refine ⟨false, bF (by intro z; cases z), iteF ?_⟩
      have sp : (List.range n).map (fun j => V.int (MF.at_ s p g j)) = (List.range s.length).map (fun j => V.int (MF.at_ s p g j)) ++ (beh s p g (n - s.length)).map V.int := by
        unfold beh
        rw [show n = s.length + (n - s.length) by omega, List.range_add, List.map_append, List.map_map, List.map_map]
        rw [show s.length + (n - s.length) - s.length = n - s.length by omega]
        rfl
      by_cases c3 : 12 < n - s.length
      · refine ⟨_, rfl, _, _, rfl, rfl, true, bT (by omega), iteT ?_⟩
        refine ⟨_, rfl, _, rfl, _, rfl, x, s, p, n - s.length, g, rfl, cu1, p0, pn, v4, by omega, by omega, CM.g0, CM.g1, fun z hz => CM.bd z (List.mem_map.mpr ⟨z, hz, rfl⟩), CM.gp, fun y H2 hy f2 s2 => ?_⟩
        refine ⟨z, y, _, _, rfl, rfl, s2 _ _ h3, f2, (by rw [List.length_map, List.length_range, List.length_map, beh_len]; exact line_of (by omega)), fun o ho => ?_⟩
        rw [← sp]
        exact k o _ (s1.free (s2.free ho)) upd_same (Same.trans s1 (Same.trans s2 (same_new ho)))
      refine ⟨_, rfl, _, _, rfl, rfl, false, bF (by omega), iteF ?_⟩
      refine ⟨_, rfl, x, C, dx, _, .int p, rfl, s1 _ _ h1, U.cl, U.nP, rfl, ?_⟩
      refine ⟨fun σ H' => σ = [some (.ref x), some (.int n), some (.ref z), some (.int ((n - s.length : Nat) : Int)), some (.int p)] ∧ H' z = some (.lst ((List.range n).map fun j => V.int (MF.at_ s p g j))) ∧ Same H H', ?_, ?_⟩
      · refine while_by (fun σ H' => ∃ c : Nat, σ = [some (.ref x), some (.int n), some (.ref z), some (.int ((n - s.length : Nat) : Int)), some (.int p)] ∧ H' z = some (.lst ((List.range c).map fun j => V.int (MF.at_ s p g j))) ∧ c ≤ n ∧ (c < n → s.length ≤ c) ∧ Same H H')
          (fun _ H' => match H' z with
            | some (.lst l) => n - l.length
            | _ => 0) ⟨s.length, rfl, h3, by omega, fun c => by omega, s1⟩ ?_ ?_
        · rintro σ H2 ⟨c, rfl, hz2, cn, cs, s2⟩
          have lc : ((List.range c).map fun j => V.int (MF.at_ s p g j)).length = c := by rw [List.length_map, List.length_range]
          by_cases c1 : c < n
          · have cs' := cs c1
            have q := QP (c - p) (by omega)
            rw [show c - p + p = c by omega] at q
            refine ⟨_, rfl, z, _, rfl, .inl (SqL.of hz2), _, rfl, _, _, rfl, rfl, true, bT (by rw [lc]; omega), iteT ?_⟩
            refine ⟨_, rfl, .inl ⟨rfl, _, SqL.of hz2⟩, _, rfl, _, rfl, z, _, rfl, .inl (SqL.of hz2), _, rfl, _, _, rfl, rfl, z, _, _, .int (MF.at_ s p g (c - p)), rfl, rfl, SqL.of hz2, ?_, _, rfl, x, C, dx, _, .int g, rfl, s2 _ _ h1, U.cl, U.nG, rfl, _, _, rfl, rfl, z, _, _, rfl, rfl, hz2, by rw [lc]; exact line_of' (by omega), ?_⟩
            · rw [lc, show (c : Int) - (p : Int) = ((c - p : Nat) : Int) by omega]
              refine atI_nat ?_
              rw [List.getElem?_map, List.getElem?_range (by omega)]
              rfl
            · have e : (List.range c).map (fun j => V.int (MF.at_ s p g j)) ++ [V.int (MF.at_ s p g (c - p) + g)] = (List.range (c + 1)).map fun j => V.int (MF.at_ s p g j) := by
                rw [List.range_succ, List.map_append, ← q]
                rfl
              refine ⟨⟨c + 1, rfl, by rw [← e]; exact upd_same, by omega, fun _ => by omega, fun b o h => by rw [upd_ne (ne_of_none h hz)]; exact s2 _ _ h⟩, ?_⟩
              rw [hz2, upd_same]
              show n - ((List.range c).map (fun j => V.int (MF.at_ s p g j)) ++ [V.int (MF.at_ s p g (c - p) + g)]).length < n - ((List.range c).map fun j => V.int (MF.at_ s p g j)).length
              rw [e, lc, List.length_map, List.length_range]
              omega
          · refine ⟨_, rfl, z, _, rfl, .inl (SqL.of hz2), _, rfl, _, _, rfl, rfl, false, bF (by rw [lc]; omega), iteF ⟨rfl, ?_, s2⟩⟩
            rw [show n = c by omega]
            exact hz2
        · intro σ H Q Q' m h
          obtain ⟨w1, f1, w2, w3, f2, f3, w4, f4, i, j, f5, f6, b, eb, hQ⟩ := h
          exact ⟨w1, f1, w2, w3, f2, f3, w4, f4, i, j, f5, f6, b, eb, m _ _ hQ⟩
      · rintro σ H2 ⟨rfl, hz2, s2⟩
        exact ⟨_, rfl, k z H2 hz hz2 s2⟩
/-- what Curve(..) makes -/
theorem calm_of {xs vals : List V} {p : Nat} {g q r : Int} (M : MakeOk xs p g) (fv : FormV xs p g vals q r) : ∃ q' : Nat, q = q' ∧ Calm vals q' r := by
  have ok : ∀ (z : Int), V.int z ∈ xs → 0 ≤ z ∧ z ≤ 1000000000 := fun z hz => by
    obtain ⟨n, hn⟩ := List.getElem?_of_mem hz
    rcases M.st.el n _ hn with e | ⟨i, e, q1, q2⟩
    · cases e
    · cases e; exact ⟨q1, q2⟩
  cases fv with
  | mkI s p g q r b p0 pn h l =>
    obtain ⟨ex, ey, hx, hy, fa⟩ := M.fa
    have S := M.st
    have asc : s.Pairwise (· ≤ ·) := by
      obtain ⟨ns, j, e, pw, _⟩ := startOk_row S.el S.asc
      have e' : s = ns := by
        have := row_inj (ns := s) (ms := ns) (j := 0) (k := j) (by rw [List.replicate_zero, List.append_nil]; exact e)
        exact this
      rw [e']
      exact pw
    have fall : MF.at_ s p g (s.length - 1) ≤ MF.at_ s p g (s.length - p) + g := by
      have gx : atI (s.map V.int) (((s.map V.int).length : Int) - (p : Int)) = some (.int (MF.at_ s p g (s.length - p))) := by
        rw [List.length_map, show (s.length : Int) - (p : Int) = ((s.length - p : Nat) : Int) by omega]
        exact atI_nat (get_map (by omega))
      have gy : atI (s.map V.int) (-1) = some (.int (MF.at_ s p g (s.length - 1))) := last_get (by rw [List.length_map]; exact get_map (by omega))
      rw [gx] at hx
      rw [gy] at hy
      cases hx
      cases hy
      rcases fa with ⟨i, j, e1, e2, l⟩ | ⟨e1, _⟩
      · cases e1
        cases e2
        exact l
      · cases e1
    have mono := MF.mono_at p0 pn asc fall
    have QPf := MF.at_qp (s := s) (g := g) p0 pn
    have le := MF.form_le p0 M.g0 QPf h
    refine ⟨q, rfl, mono.rise h.qp, by have := M.g1; omega, fun z hz => ?_, fun e => ?_⟩
    · obtain ⟨j, hj, e⟩ := List.mem_map.mp hz
      have hj' := List.mem_range.mp hj
      have := ok z (by rw [← e]; exact List.mem_of_getElem? (get_map (s := s) (p := p) (g := g) (j := j) (by omega)))
      omega
    · subst e
      exact mono.flat h
  | mkN s k p g =>
    refine ⟨1, rfl, by omega, by omega, fun z hz => ?_, fun _ => rfl⟩
    rcases List.mem_append.mp hz with h | h
    · have := ok z (List.mem_append.mpr (.inl h))
      omega
    · cases List.mem_singleton.mp h
end
end WW
end

section
set_option Elab.async false
set_option linter.all false
set_option maxRecDepth 100000
set_option maxHeartbeats 4000000
namespace WW
open PySem L2 WO WG RZ WQ WT
/-! ### curves as functions of their beats -/
/-- the least form of L -/
inductive FormG : (Nat → V) → List V → Nat → Int → Prop
  | mkI (f : Nat → Int) (q : Nat) (r : Int) (b : Nat) (h : MF.IsForm f q r b) : FormG (fun j => .int (f j)) ((List.range (b + q)).map fun j => V.int (f j)) q r
  | mkN (s : List Int) : FormG (FN s) (s.map V.int ++ [.non]) 1 0
theorem fn_low {s : List Int} {j : Nat} (h : j < s.length) : FN s j = .int (s.getD j 0) := by unfold FN; rw [if_pos h]
theorem fn_high {s : List Int} {j : Nat} (h : s.length ≤ j) : FN s j = .non := by unfold FN; rw [if_neg (by omega)]
theorem fn_inj {s t : List Int} (h : ∀ j, FN s j = FN t j) : s = t := by
  have key : ∀ {s t : List Int}, (∀ j, FN s j = FN t j) → s.length ≤ t.length := fun {s t} h => by
    rcases Nat.lt_or_ge t.length s.length with q | q
    · have e := h t.length
      rw [fn_low q, fn_high (Nat.le_refl _)] at e
      cases e
    · exact q
  have l := Nat.le_antisymm (key h) (key fun j => (h j).symm)
  refine List.ext_getElem l fun i h1 h2 => ?_
  have e := h i
  rw [fn_low h1, fn_low h2] at e
  have e2 := V.int.inj e
  rw [List.getD_eq_getElem?_getD, List.getD_eq_getElem?_getD, List.getElem?_eq_getElem h1, List.getElem?_eq_getElem h2] at e2
  exact e2
theorem FormG.cases' {L : Nat → V} {v : List V} {q : Nat} {r : Int} (h : FormG L v q r) :
    (∃ (f : Nat → Int) (b : Nat), (∀ j, L j = .int (f j)) ∧ MF.IsForm f q r b ∧ v = (List.range (b + q)).map fun j => V.int (f j)) ∨ (∃ s : List Int, (∀ j, L j = FN s j) ∧ v = s.map V.int ++ [.non] ∧ q = 1 ∧ r = 0) := by
  cases h with
  | mkI f q r b h => exact .inl ⟨f, b, fun _ => rfl, h, rfl⟩
  | mkN s => exact .inr ⟨s, fun _ => rfl, rfl, rfl, rfl⟩
theorem FormG.uniq {L : Nat → V} {v v' : List V} {q q' : Nat} {r r' : Int} (h : FormG L v q r) (h' : FormG L v' q' r') : v = v' ∧ q = q' ∧ r = r' := by
  rcases h.cases' with ⟨f, b, e, hf, rfl⟩ | ⟨s, e, rfl, rfl, rfl⟩ <;> rcases h'.cases' with ⟨f', b', e', hf', rfl⟩ | ⟨s', e', rfl, rfl, rfl⟩
  · have ff : ∀ j, f j = f' j := fun j => V.int.inj ((e j).symm.trans (e' j))
    obtain ⟨rfl, rfl, rfl⟩ := (hf.same ff).uniq hf'
    have : f = f' := funext ff
    rw [this]
    exact ⟨rfl, rfl, rfl⟩
  · have z := (e s'.length).symm.trans (e' s'.length)
    rw [fn_high (Nat.le_refl _)] at z
    cases z
  · have z := (e' s.length).symm.trans (e s.length)
    rw [fn_high (Nat.le_refl _)] at z
    cases z
  · have := fn_inj fun j => (e j).symm.trans (e' j)
    rw [this]
    exact ⟨rfl, rfl, rfl⟩
theorem FormG.flat {L : Nat → V} {v : List V} {q : Nat} {r : Int} (h : FormG L v q r) : FlatR v := by
  rcases h.cases' with ⟨f, b, e, hf, rfl⟩ | ⟨s, e, rfl, rfl, rfl⟩
  · intro x hx
    obtain ⟨j, _, rfl⟩ := List.mem_map.mp hx
    exact .inr ⟨_, rfl⟩
  · intro x hx
    rcases List.mem_append.mp hx with hx | hx
    · obtain ⟨z, _, rfl⟩ := List.mem_map.mp hx
      exact .inr ⟨_, rfl⟩
    · exact .inl (List.mem_singleton.mp hx)
theorem FormG.len {L : Nat → V} {v : List V} {q : Nat} {r : Int} (h : FormG L v q r) : 0 < q ∧ q ≤ v.length := by
  rcases h.cases' with ⟨f, b, e, hf, rfl⟩ | ⟨s, e, rfl, rfl, rfl⟩
  · rw [List.length_map, List.length_range]
    have := hf.pos
    omega
  · rw [List.length_append]
    show 0 < 1 ∧ 1 ≤ _ + 1
    omega
theorem row_int {f : Nat → Int} {n p : Nat} {g : Int} (p0 : 0 < p) (pn : p ≤ n) (pb : p ≤ 1000000) (h : MF.QP f p g (n - p)) : RowF ((List.range n).map fun j => V.int (f j)) p g (fun j => .int (f j)) := by
  have e1 : ((List.range n).map fun j => V.int (f j)) = ((List.range n).map f).map V.int := by rw [List.map_map]; rfl
  have ls : ((List.range n).map f).length = n := by simp
  have e2 : (fun j => V.int (f j)) = fun j => V.int (MF.at_ ((List.range n).map f) p g j) := by
    funext j
    congr 1
    have Q2 := MF.at_qp (s := (List.range n).map f) (g := g) p0 (by rw [ls]; omega)
    rw [ls] at Q2
    refine MF.QP.ext p0 h Q2 (fun j hj => ?_) j
    rw [MF.at_low (s := (List.range n).map f) (by rw [ls]; omega), List.getD_eq_getElem?_getD, List.getElem?_map, List.getElem?_range (by omega)]
    rfl
  rw [e1, e2]
  exact .mkI _ p g p0 (by rw [ls]; omega) pb
theorem range_fn {s : List Int} {n : Nat} (h : s.length ≤ n) : (List.range n).map (FN s) = s.map V.int ++ List.replicate (n - s.length) V.non := by
  refine List.ext_getElem? fun i => ?_
  rw [List.getElem?_map]
  by_cases c : i < s.length
  · rw [List.getElem?_range (by omega), List.getElem?_append_left (by rw [List.length_map]; exact c), List.getElem?_map, List.getElem?_eq_getElem c, Option.map_some, Option.map_some, fn_low c, List.getD_eq_getElem?_getD, List.getElem?_eq_getElem c]
    rfl
  · rw [List.getElem?_append_right (by rw [List.length_map]; omega), List.length_map, List.getElem?_replicate]
    by_cases c2 : i < n
    · rw [List.getElem?_range c2, Option.map_some, fn_high (by omega), if_pos (by omega)]
    · rw [List.getElem?_eq_none (by rw [List.length_range]; omega), if_neg (by omega)]
      rfl
theorem row_non {s : List Int} {n p : Nat} {g : Int} (h : s.length < n) : RowF ((List.range n).map (FN s)) p g (FN s) := by
  rw [range_fn (Nat.le_of_lt h), show n - s.length = n - s.length - 1 + 1 by omega]
  exact .mkN s _ p g
theorem in_int {f : Nat → Int} {n p : Nat} {g : Int} (p0 : 0 < p) (pn : p ≤ n) (n4 : n ≤ 100000) (g0 : 0 ≤ g) (g1 : g ≤ 1000000000000000000) : FormIn ((List.range n).map fun j => V.int (f j)) p g := by
  have e1 : ((List.range n).map fun j => V.int (f j)) = ((List.range n).map f).map V.int := by rw [List.map_map]; rfl
  rw [e1]
  exact .mkI _ p g p0 (by simpa using pn) (by simpa using n4) g0 g1
theorem in_non {s : List Int} {n p : Nat} {g : Int} (h : s.length < n) (n4 : n ≤ 100000) : FormIn ((List.range n).map (FN s)) p g := by
  rw [range_fn (Nat.le_of_lt h), show n - s.length = n - s.length - 1 + 1 by omega]
  exact .mkN s _ p g (by omega)
/-- the least form of a row's function -/
theorem form_g {xs v : List V} {p : Nat} {g q r : Int} {L : Nat → V} (h : FormV xs p g v q r) (R : RowF xs p g L) : ∃ q' : Nat, q = q' ∧ FormG L v q' r := by
  cases h with
  | mkI s p g q r b p0 pn hf l =>
    generalize hx : s.map V.int = ys at R
    cases R with
    | mkI s2 p g p02 pn2 pb =>
      have e : s = s2 := (List.map_inj_right fun a b h => V.int.inj h).mp hx
      subst e
      exact ⟨q, rfl, .mkI _ q r b hf⟩
    | mkN s2 k p g =>
      have hm : V.non ∈ s.map V.int := by rw [hx]; simp
      obtain ⟨z, _, e⟩ := List.mem_map.mp hm
      cases e
  | mkN s k p g =>
    generalize hx : s.map V.int ++ List.replicate (k + 1) V.non = ys at R
    cases R with
    | mkI s2 p g p02 pn2 pb =>
      have hm : V.non ∈ s2.map V.int := by rw [← hx]; simp
      obtain ⟨z, _, e⟩ := List.mem_map.mp hm
      cases e
    | mkN s2 k2 p g =>
      have e := row_inj hx
      subst e
      exact ⟨1, rfl, .mkN s⟩
theorem formV_len {xs v : List V} {p : Nat} {g q r : Int} (h : FormV xs p g v q r) : v.length ≤ xs.length := by
  cases h with
  | mkI s p g q r b p0 pn hf l => rw [List.length_map, List.length_range, List.length_map]; exact l
  | mkN s k p g => rw [List.length_append, List.length_append, List.length_replicate]; show _ + 1 ≤ _; omega
theorem FormG.rowF {L : Nat → V} {v : List V} {q : Nat} {r : Int} (h : FormG L v q r) (hq : q ≤ 1000000) : RowF v q r L := by
  cases h with
  | mkI f q r b h => exact row_int h.pos (by omega) hq (by rw [Nat.add_sub_cancel]; exact h.qp)
  | mkN s =>
    have e := range_fn (s := s) (n := s.length + 1) (by omega)
    rw [show s.length + 1 - s.length = 1 by omega] at e
    have e2 : s.map V.int ++ [V.non] = (List.range (s.length + 1)).map (FN s) := e.symm
    rw [e2]
    exact row_non (by omega)
/-- each row has a least form -/
theorem form_ex {xs : List V} {p : Nat} {g : Int} (fi : FormIn xs p g) : ∃ (v : List V) (q r : Int), FormV xs p g v q r := by
  cases fi with
  | mkI s p g p0 pn n4 g0 g1 =>
    have QPf := MF.at_qp (s := s) (g := g) p0 pn
    -- the least right step
    obtain ⟨q, q0, qp, qA, qm⟩ : ∃ q, 0 < q ∧ q ≤ p ∧ MF.A (MF.at_ s p g) (s.length - p) p q ∧ ∀ t, 0 < t → t < q → ¬ MF.A (MF.at_ s p g) (s.length - p) p t := by
      have key : ∀ n : Nat, (∃ q, 0 < q ∧ q ≤ p ∧ q < n ∧ MF.A (MF.at_ s p g) (s.length - p) p q ∧ ∀ t, 0 < t → t < q → ¬ MF.A (MF.at_ s p g) (s.length - p) p t) ∨ ∀ t, 0 < t → t < n → t ≤ p → ¬ MF.A (MF.at_ s p g) (s.length - p) p t := by
        intro n
        induction n with
        | zero => exact .inr fun t _ h => absurd h (Nat.not_lt_zero t)
        | succ n ih =>
          rcases ih with ⟨q, h1, h2, h3, h4, h5⟩ | h
          · exact .inl ⟨q, h1, h2, by omega, h4, h5⟩
          · by_cases c : 0 < n ∧ n ≤ p ∧ MF.A (MF.at_ s p g) (s.length - p) p n
            · exact .inl ⟨n, c.1, c.2.1, by omega, c.2.2, fun t h1 h2 => h t h1 h2 (by omega)⟩
            · refine .inr fun t h1 h2 h3 => ?_
              by_cases e : t = n
              · subst e
                exact fun z => c ⟨h1, h3, z⟩
              · exact h t h1 (by omega) h3
      rcases key (p + 1) with ⟨q, h1, h2, h3, h4, h5⟩ | h
      · exact ⟨q, h1, h2, h4, h5⟩
      · exact absurd MF.A.self (h p p0 (by omega) (Nat.le_refl _))
    have IF := MF.form_of p0 QPf q0 qp qA qm
    refine ⟨_, _, _, .mkI s p g q _ _ p0 pn IF ?_⟩
    have := MF.down_le (fun j => decide (MF.at_ s p g (j + q) = MF.at_ s p g j + (MF.at_ s p g (s.length - p + q) - MF.at_ s p g (s.length - p)))) (s.length - p)
    omega
  | mkN s k p g n4 => exact ⟨_, _, _, .mkN s k p g⟩
/-- the ends of a right row and of its form -/
theorem form_last {xs v : List V} {p : Nat} {g q r : Int} (M : MakeOk xs p g) (fv : FormV xs p g v q r) : ∃ qn rn : Nat, q = qn ∧ r = rn ∧ 0 < qn ∧ qn ≤ p ∧ rn ≤ 1000000000 ∧
    ((∃ i i' : Int, xs[xs.length - 1]? = some (.int i) ∧ v[v.length - 1]? = some (.int i')) ∨ (xs[xs.length - 1]? = some .non ∧ v[v.length - 1]? = some .non ∧ qn = 1 ∧ rn = 0)) := by
  obtain ⟨qn, rfl, CM⟩ := calm_of M fv
  obtain ⟨rn, hr⟩ : ∃ rn : Nat, r = rn := ⟨r.toNat, by have := CM.g0; omega⟩
  have M1 := M.p1
  have M3 := M.p3
  have M0 := M.g0
  cases fv with
  | mkI s p g q r b p0 pn hf l =>
    have QPf := MF.at_qp (s := s) (g := g) p0 pn
    have le := MF.form_le p0 M0 QPf hf
    have pos := hf.pos
    refine ⟨qn, rn, rfl, hr, pos, le.2, by have := M.g1; omega, .inl ⟨MF.at_ s p g (s.length - 1), MF.at_ s p g (b + qn - 1), ?_, ?_⟩⟩
    · rw [List.length_map]
      exact get_map (by omega)
    · rw [List.length_map, List.length_range, List.getElem?_map, List.getElem?_range (by omega)]
      rfl
  | mkN s k p g =>
    refine ⟨1, rn, rfl, hr, by omega, M1, by omega, .inr ⟨?_, ?_, rfl, by omega⟩⟩
    · rw [List.length_append, List.length_map, List.length_replicate]
      exact nones_get _ (by omega) (by omega)
    · rw [List.length_append, List.length_map, List.getElem?_append_right (by rw [List.length_map]; show _ ≤ _ + 1 - 1; omega), List.length_map]
      show ([V.non] : List V)[s.length + 1 - 1 - s.length]? = _
      rw [show s.length + 1 - 1 - s.length = 0 by omega]
      rfl
/-- x is a curve, that of L -/
def IsCur (H : Hp) (C x : Addr) (L : Nat → V) : Prop := ∃ (v : List V) (q : Nat) (r : Int), CurveAt H C x v q r ∧ FormG L v q r
theorem IsCur.same {H H' : Hp} {C x : Addr} {L : Nat → V} (h : IsCur H C x L) (s : Same H H') : IsCur H' C x L := by
  obtain ⟨v, q, r, h1, h2⟩ := h
  exact ⟨v, q, r, h1.same s, h2⟩
end WW
end

section
set_option Elab.async false
set_option linter.all false
set_option maxRecDepth 100000
set_option maxHeartbeats 4000000
namespace WW
open PySem L2 WO WG RZ WQ WT
/-! ### texts of rows and forms fit -/
def SmallI (i : Int) : Prop := i.natAbs < 2 ^ 64
def SmallV (v : V) : Prop := v = .non ∨ ∃ i : Int, v = .int i ∧ SmallI i
theorem small_log {i : Int} (h : SmallI i) : i.natAbs.log2 < 64 := by
  rcases Nat.eq_zero_or_pos i.natAbs with z | z
  · rw [z]; decide
  · exact (Nat.log2_lt (by omega)).mpr h
theorem small_text {i : Int} (h : SmallI i) : (Str.ofString (toString i)).length ≤ 65 := by
  rw [ofString_length]
  exact int_text_length_le (by decide) (small_log h)
theorem shown_small {v : V} (h : SmallV v) : (PyData.shown (vD v)).length ≤ 65 ∧ (vD v).showable = true ∧ (vD v).hasDict = false := by
  rcases h with rfl | ⟨i, rfl, hi⟩
  · refine ⟨?_, ?_, ?_⟩
    · show (PyData.shown .none).length ≤ 65
      rw [PyData.shown.eq_1]
      decide
    · simp [vD, PyData.showable]
    · simp [vD, PyData.hasDict]
  · refine ⟨?_, ?_, ?_⟩
    · have e : PyData.shown (vD (.int i)) = Str.ofString (toString i) := by simp [vD, PyData.shown]
      rw [e]
      exact small_text hi
    · simp only [vD, PyData.showable, decide_eq_true_eq]
      have := small_log hi
      omega
    · simp [vD, PyData.hasDict]
theorem shownAll_small : ∀ vs : List V, (∀ v ∈ vs, SmallV v) → (∀ t ∈ PyData.shownAll (vs.map vD), t.length ≤ 65) ∧ (PyData.shownAll (vs.map vD)).length = vs.length ∧ PyData.showableAll (vs.map vD) = true ∧ PyData.hasDictAll (vs.map vD) = false
  | [], _ => by simp [PyData.shownAll, PyData.showableAll, PyData.hasDictAll]
  | v :: r, h => by
    obtain ⟨h1, h2, h3⟩ := shown_small (h v (List.mem_cons_self ..))
    obtain ⟨i1, i2, i3, i4⟩ := shownAll_small r fun x hx => h x (List.mem_cons_of_mem _ hx)
    simp only [List.map_cons, PyData.shownAll, PyData.showableAll, PyData.hasDictAll, List.length_cons]
    refine ⟨fun t ht => ?_, by rw [i2], by rw [h2, i3]; rfl, by rw [h3, i4]; rfl⟩
    rcases List.mem_cons.mp ht with rfl | ht
    · exact h1
    · exact i1 t ht
theorem join_len (sep : Str) : ∀ ts : List Str, (∀ t ∈ ts, t.length ≤ 65) → (Str.join sep ts).length ≤ ts.length * (65 + sep.length)
  | [], _ => by rw [Str.join.eq_1]; exact Nat.zero_le _
  | [a], h => by
    rw [Str.join.eq_2]
    have := h a (List.mem_cons_self ..)
    simp only [List.length_cons, List.length_nil]
    omega
  | a :: b :: r, h => by
    rw [Str.join.eq_3 _ _ _ (by intro z; cases z), Str.length_append, Str.length_append]
    have h1 := h a (List.mem_cons_self ..)
    have h2 := join_len sep (b :: r) fun t ht => h t (List.mem_cons_of_mem _ ht)
    rw [List.length_cons (a := a), Nat.succ_mul]
    omega
theorem tuple_len {ts : List Str} {n : Nat} (h : (Str.join (Str.ofString ", ") ts).length ≤ n) : (tupleText ts).length ≤ n + 3 := by
  unfold tupleText
  rw [Str.length_append, Str.length_append]
  have h1 : (Str.ofString "(").length = 1 := by decide
  have h2 : (Str.ofString (if (ts.length == 1) = true then ",)" else ")")).length ≤ 2 := by
    split
    · decide
    · decide
  omega
theorem text_len : ∀ (ts : List Str) (k : Nat) (acc : Str), (∀ t ∈ ts, t.length ≤ 65) → (textFrom k acc ts).length ≤ acc.length + 67 * ts.length
  | [], k, acc, _ => Nat.le_refl _
  | t :: r, k, acc, h => by
    have ih := text_len r (k + 1) (acc ++ (if k > 0 then ", " else "" : String) ++ t) fun x hx => h x (List.mem_cons_of_mem _ hx)
    have ht := h t (List.mem_cons_self ..)
    have hs : (Str.ofString (if k > 0 then ", " else "" : String)).length ≤ 2 := by
      split
      · decide
      · decide
    rw [Str.length_append, Str.length_append] at ih
    rw [List.length_cons]
    show (textFrom (k + 1) (acc ++ (if k > 0 then ", " else "" : String) ++ t) r).length ≤ _
    omega
theorem big_line {n : Nat} (h : n ≤ 16000000) : n ≤ sizeLine := Nat.le_trans h (by decide)
structure GoodD (d : PyData) : Prop where
  sh : d.showable = true
  dp : d.depth ≤ 60
  le : d.shown.length ≤ sizeLine
  hd : d.hasDict = false
theorem good_list {v : List V} (h : ∀ x ∈ v, SmallV x) (l : v.length ≤ 200000) : GoodD (.list (v.map vD)) := by
  obtain ⟨i1, i2, i3, i4⟩ := shownAll_small v h
  refine ⟨?_, ?_, ?_, ?_⟩
  · simp only [PyData.showable, i3]
  · simp [PyData.depth, depth_row]
  · have e : (PyData.list (v.map vD)).shown = listText (PyData.shownAll (v.map vD)) := by simp [PyData.shown]
    rw [e]
    unfold listText
    rw [Str.length_append]
    have q := text_len (PyData.shownAll (v.map vD)) 0 "[" i1
    have c1 : (Str.ofString "[").length = 1 := by decide
    have c2 : (Str.ofString "]").length = 1 := by decide
    rw [i2, c1] at q
    exact big_line (by omega)
  · simp only [PyData.hasDict, i4]
theorem good_tup {v : List V} (h : ∀ x ∈ v, SmallV x) (l : v.length ≤ 200000) : GoodD (.tuple (v.map vD)) := by
  obtain ⟨i1, i2, i3, i4⟩ := shownAll_small v h
  refine ⟨?_, ?_, ?_, ?_⟩
  · simp only [PyData.showable, i3]
  · simp [PyData.depth, depth_row]
  · have e : (PyData.tuple (v.map vD)).shown = tupleText (PyData.shownAll (v.map vD)) := by simp [PyData.shown]
    rw [e]
    have l1 : (tupleText (PyData.shownAll (v.map vD))).length ≤ v.length * 67 + 3 := by
      refine tuple_len (Nat.le_trans (join_len _ _ i1) ?_)
      rw [i2]
      have : (Str.ofString ", ").length = 2 := by decide
      rw [this]
      omega
    exact big_line (by omega)
  · simp only [PyData.hasDict, i4]
structure GoodC (v : List V) (q r : Int) : Prop where
  sh : (curD v q r).showable = true
  dp : (curD v q r).depth ≤ 60
  le : (curD v q r).shown.length ≤ sizeLine
  hd : (curD v q r).hasDict = false
theorem good_of {v : List V} {q r : Int} (h : ∀ x ∈ v, SmallV x) (l : v.length ≤ 200000) (hq : SmallI q) (hr : SmallI r) : GoodC v q r := by
  obtain ⟨i1, i2, i3, i4⟩ := shownAll_small v h
  obtain ⟨a1, a2, a3⟩ := shown_small (.inr ⟨q, rfl, hq⟩ : SmallV (.int q))
  obtain ⟨b1, b2, b3⟩ := shown_small (.inr ⟨r, rfl, hr⟩ : SmallV (.int r))
  refine ⟨?_, ?_, ?_, ?_⟩
  · simp only [curD, PyData.showable, PyData.showableAll, i3]
    simp only [vD, PyData.showable] at a2 b2
    rw [a2, b2]
    rfl
  · simp [curD, PyData.depth, PyData.depthAll, depth_row]
  · have e : (curD v q r).shown = tupleText [tupleText (PyData.shownAll (v.map vD)), PyData.shown (.int q), PyData.shown (.int r)] := by
      simp [curD, PyData.shown, PyData.shownAll]
    rw [e]
    have l1 : (tupleText (PyData.shownAll (v.map vD))).length ≤ v.length * 67 + 3 := by
      refine tuple_len (Nat.le_trans (join_len _ _ i1) ?_)
      rw [i2]
      have : (Str.ofString ", ").length = 2 := by decide
      rw [this]
      omega
    have l2 : (tupleText [tupleText (PyData.shownAll (v.map vD)), PyData.shown (.int q), PyData.shown (.int r)]).length ≤ v.length * 67 + 3 + 150 + 3 := by
      refine tuple_len ?_
      rw [Str.join.eq_3 _ _ _ (by intro z; cases z), Str.join.eq_3 _ _ _ (by intro z; cases z), Str.join.eq_2]
      simp only [Str.length_append]
      have c : (Str.ofString ", ").length = 2 := by decide
      have a1' : (PyData.shown (.int q)).length ≤ 65 := a1
      have b1' : (PyData.shown (.int r)).length ≤ 65 := b1
      omega
    exact big_line (by omega)
  · simp only [curD, PyData.hasDict, PyData.hasDictAll, i4]
    rfl
/-- the least form of a row of such numbers -/
theorem good_form {xs v : List V} {p : Nat} {g q r : Int} {L : Nat → V} (fi : FormIn xs p g) (R : RowF xs p g L) (fv : FormV xs p g v q r) (sm : ∀ j, j < xs.length → SmallV (L j)) : GoodC v q r := by
  cases fi with
  | mkI s p g p0 pn n4 g0 g1 =>
    generalize hx : s.map V.int = ys at fv R sm
    cases fv with
    | mkI s2 p g q r b p02 pn2 hf l =>
      have e : s = s2 := (List.map_inj_right fun a b h => V.int.inj h).mp hx
      subst e
      have QPf := MF.at_qp (s := s) (g := g) p0 pn
      have le := MF.form_le p0 g0 QPf hf
      have r0 : -(g + 1) ≤ r → r ≤ g → SmallI r := fun h1 h2 => by unfold SmallI; omega
      have e1 := MF.form_rise p0 QPf hf
      have rn : 0 ≤ r := by
        have h1 : (0 : Int) ≤ (p : Int) * r := by
          rw [e1]
          exact Int.mul_nonneg (by omega) g0
        rcases Int.lt_or_le r 0 with h | h
        · have h2 : (p : Int) * r ≤ (p : Int) * -1 := Int.mul_le_mul_of_nonneg_left (by omega) (by omega)
          omega
        · exact h
      refine good_of (fun x hx2 => ?_) (by rw [List.length_map, List.length_range]; omega) (by unfold SmallI; omega) (r0 (by omega) le.1)
      obtain ⟨j, hj, rfl⟩ := List.mem_map.mp hx2
      have hj2 := List.mem_range.mp hj
      have hjl : j < (s.map V.int).length := by rw [List.length_map]; omega
      have g1 := R.get hjl
      rw [get_map (p := p) (g := g) (by omega)] at g1
      have e3 := Option.some.inj g1
      rw [e3]
      exact sm j hjl
    | mkN s2 k p g =>
      have hm : V.non ∈ s.map V.int := by rw [hx]; simp
      obtain ⟨z, _, e⟩ := List.mem_map.mp hm
      cases e
  | mkN s k p g n4 =>
    generalize hx : s.map V.int ++ List.replicate (k + 1) V.non = ys at fv R sm
    cases fv with
    | mkI s2 p g q r b p02 pn2 hf l =>
      have hm : V.non ∈ s2.map V.int := by rw [← hx]; simp
      obtain ⟨z, _, e⟩ := List.mem_map.mp hm
      cases e
    | mkN s2 k2 p g =>
      have e := row_inj hx
      subst e
      refine good_of (fun x hx2 => ?_) (by rw [List.length_append, List.length_map]; show s.length + 1 ≤ _; omega) (by unfold SmallI; decide) (by unfold SmallI; decide)
      rcases List.mem_append.mp hx2 with h | h
      · obtain ⟨z, hz, rfl⟩ := List.mem_map.mp h
        obtain ⟨j, hj⟩ := List.getElem?_of_mem hz
        have hjs := (List.getElem?_eq_some_iff.mp hj).1
        have hjl : j < (s.map V.int ++ List.replicate (k2 + 1) V.non).length := by rw [List.length_append, List.length_map]; omega
        have g1 := R.get hjl
        rw [List.getElem?_append_left (by rw [List.length_map]; exact hjs), List.getElem?_map, hj] at g1
        have e3 := Option.some.inj g1
        rw [e3]
        exact sm j hjl
      · exact .inl (List.mem_singleton.mp h)
end WW
end

section
set_option Elab.async false
set_option linter.all false
set_option maxRecDepth 100000
set_option maxHeartbeats 4000000
namespace WW
open PySem L2 WO WG RZ WQ WT
abbrev sNeedNum : Stmt := top 11
abbrev sNeedCur : Stmt := top 24
abbrev sValue : Stmt := top 31
section
variable {P : Program} {w : World} {K : PySem.W.Frag} {mg : Str → Option Value} {base : Heap}
def spNeedNum (K : PySem.W.Frag) (CN : Addr) : Sp := fun vs H Q E => ∃ (x : V) (lo hi : Int) (part : Str), vs = [x, .int lo, .int hi, .str part] ∧
  ((∃ i : Int, x = .int i ∧ lo ≤ i ∧ i ≤ hi ∧ Q .non H) ∨ (badFrom K H x lo hi ∧ ∀ d H', Raised H "part" (.str part) d H' → E (.ref CN) (some d) H'))
theorem scNeedNum : FnScope ["thing", "low", "high", "part"] ["thing", "low", "high", "part"] (defScope sNeedNum) := ⟨rfl, rfl, rfl, by decide +kernel, rfl, by decide +kernel, by decide +kernel⟩
theorem ok_needNum {f fF fI CN : Addr} {fd dF dI : FuncData} (F : Fun K "need_number" "need_number" sNeedNum f fd) (B : ErrT P w K mg base "BadNumber" "part" CN fI dI)
    (GF : FnOk P w K mg base CX0 2 fF dF ["thing", "low", "high"] (spFrom K)) (kF : PySem.W.keepIn K (.ref fF) = true) (bF : Binds K dF ["thing", "low", "high"] []) (mF : mg "is_from" = some (.ref fF)) :
    FnOk P w K mg base (L2.CX P w) 4 f fd ["thing", "low", "high", "part"] (spNeedNum K CN) := by
  refine F.okX scNeedNum (fun vs H Q E h => ?_) (fun cdv A outer s H vs Q E hr h => ?_)
  · obtain ⟨x, lo, hi, part, rfl, _⟩ := h
    rfl
  · obtain ⟨x, lo, hi, part, rfl, h⟩ := h
    have hr2 := hr.mono (show 2 ≤ 3 by decide)
    refine ⟨_, pss_one (ps_if (pt_not (pt_val (pe_call GF hr2 rfl mF kF bF .nil pass0 (pa_cons (pv 0) (pa_cons (pv 1) (pa_cons (pv 2) pa_nil))))))
        (pss_one (ps_raise rfl (takes_of rfl rfl rfl rfl) (pmk_oex B.ox B.iC B.tI B.fn hr2 B.bd .nil pass0 rfl B.gC (pa_cons (pv 3) pa_nil)))) pss_nil), ?_⟩
    rcases h with ⟨i, rfl, h1, h2, k⟩ | ⟨bad, k⟩
    · refine ⟨_, rfl, _, rfl, _, rfl, _, _, _, rfl, .inl ⟨i, lo, hi, rfl, rfl, rfl, _, rfl, ?_⟩⟩
      rw [decide_eq_true ⟨h1, h2⟩]
      exact iteF k
    · rcases bad with n | ⟨i, rfl, no⟩
      · exact ⟨_, rfl, _, rfl, _, rfl, _, _, _, rfl, .inr ⟨n, false, rfl, iteT ⟨_, rfl, mkO_post B k⟩⟩⟩
      · refine ⟨_, rfl, _, rfl, _, rfl, _, _, _, rfl, .inl ⟨i, lo, hi, rfl, rfl, rfl, _, rfl, ?_⟩⟩
        rw [decide_eq_false no]
        exact iteT ⟨_, rfl, mkO_post B k⟩
/-- no curve -/
def NoCur (K : PySem.W.Frag) (H : Hp) (C : Addr) (x : V) : Prop := ∃ t : Value, TyX K H x t ∧ PySem.W.kitOne K t (.ref C) = some false
def spNeedCur (K : PySem.W.Frag) (C CB : Addr) : Sp := fun vs H Q E => ∃ x : V, vs = [x] ∧
  ((∃ (a : Addr) (vals : List V) (q r : Int), x = .ref a ∧ CurveAt H C a vals q r ∧ Q .non H) ∨ (NoCur K H C x ∧ ∀ d H', Raised H "part" .non d H' → E (.ref CB) (some d) H'))
theorem scNeedCur : FnScope ["thing"] ["thing"] (defScope sNeedCur) := ⟨rfl, rfl, rfl, by decide +kernel, rfl, by decide +kernel, by decide +kernel⟩
theorem ok_needCur {f fI fE fX C CB : Addr} {fd dI : FuncData} (F : Fun K "need_curve" "need_curve" sNeedCur f fd) (T : CurG mg) (U : CurT K mg C fX fE) (B : ErrT P w K mg base "BadCurve" "part" CB fI dI) :
    FnOk P w K mg base (L2.CX P w) 3 f fd ["thing"] (spNeedCur K C CB) := by
  refine F.okX scNeedCur (fun vs H Q E h => ?_) (fun cdv A outer s H vs Q E hr h => ?_)
  · obtain ⟨x, rfl, _⟩ := h
    rfl
  · obtain ⟨x, rfl, h⟩ := h
    refine ⟨_, pss_one (ps_if (pt_not (pt_val (pe_callB call_isi (by rfl) T.isi (by decide +kernel) (pa_cons (pv 0) (pa_cons (pe_glob (v := .ref C) rfl U.mC rfl) pa_nil)))))
        (pss_one (ps_raise rfl (takes_of rfl rfl rfl rfl) (pmk_oex B.ox B.iC B.tI B.fn hr B.bd .nil pass0 rfl B.gC (pa_cons pe_non pa_nil)))) pss_nil), ?_⟩
    rcases h with ⟨a, vals, q, r, rfl, ⟨dx, t, h1, h2⟩, k⟩ | ⟨⟨t, ty, kt⟩, k⟩
    · exact ⟨_, rfl, .ref a, .ref C, .ref C, .ref C, true, rfl, .own C, .base (.ins h1 U.cl U.cc U.cg U.ct U.co), U.kC, true, rfl, iteF k⟩
    · exact ⟨_, rfl, x, .ref C, t, .ref C, false, rfl, .own C, ty, kt, false, rfl, iteT (mkO_post B k)⟩
/-! ### value, values, rate -/
def spValue (K : PySem.W.Frag) (C CB CN : Addr) : Sp := fun vs H Q E => ∃ x y : V, vs = [x, y] ∧
  ((∃ (a : Addr) (v : List V) (p b : Nat) (g : Int) (F : Nat → V), x = .ref a ∧ y = .int b ∧ CurveAt H C a v p g ∧ RowF v p g F ∧ b ≤ 1000000000000 ∧ Q (F b) H) ∨
   (NoCur K H C x ∧ ∀ d H', Raised H "part" .non d H' → E (.ref CB) (some d) H') ∨
   (∃ (a : Addr) (v : List V) (q r : Int), x = .ref a ∧ CurveAt H C a v q r ∧ badFrom K H y 0 1000000000000 ∧ ∀ d H', Raised H "part" (.str "beat") d H' → E (.ref CN) (some d) H'))
theorem scValue : FnScope ["curve", "beat"] ["curve", "beat"] (defScope sValue) := ⟨rfl, rfl, rfl, by decide +kernel, rfl, by decide +kernel, by decide +kernel⟩
theorem ok_value {f fC fN fA C CB CN : Addr} {fd dC dN dA : FuncData} (F : Fun K "value" "value" sValue f fd)
    (GC : FnOk P w K mg base (L2.CX P w) 3 fC dC ["thing"] (spNeedCur K C CB)) (kC : PySem.W.keepIn K (.ref fC) = true) (bC : Binds K dC ["thing"] []) (mC : mg "need_curve" = some (.ref fC))
    (GN : FnOk P w K mg base (L2.CX P w) 4 fN dN ["thing", "low", "high", "part"] (spNeedNum K CN)) (kN : PySem.W.keepIn K (.ref fN) = true) (bN : Binds K dN ["thing", "low", "high", "part"] []) (mN : mg "need_number" = some (.ref fN))
    (GA : FnOk P w K mg base CX0 2 fA dA ["curve", "beat"] (spCat K C)) (kA : PySem.W.keepIn K (.ref fA) = true) (bA : Binds K dA ["curve", "beat"] []) (mA : mg "at" = some (.ref fA)) :
    FnOk P w K mg base (L2.CX P w) 5 f fd ["curve", "beat"] (spValue K C CB CN) := by
  refine F.okX scValue (fun vs H Q E h => ?_) (fun cdv A outer s H vs Q E hr h => ?_)
  · obtain ⟨x, y, rfl, _⟩ := h
    rfl
  · obtain ⟨x, y, rfl, h⟩ := h
    have hr2 := hr.mono (show 2 ≤ 4 by decide)
    have hr3 := hr.mono (show 3 ≤ 4 by decide)
    refine ⟨_, pss_cons (ps_expr (pe_call GC hr3 rfl mC kC bC .nil (passX (E := E) (takes_of rfl rfl rfl rfl) (fun _ _ _ _ h => h)) (pa_cons (pv 0) pa_nil)))
      (pss_cons (ps_expr (pe_call GN hr rfl mN kN bN .nil (passX (E := E) (takes_of rfl rfl rfl rfl) (fun _ _ _ _ h => h)) (pa_cons (pv 1) (pa_cons pe_int (pa_cons (pe_op op_pow pe_int pe_int) (pa_cons pe_str pa_nil))))))
      (pss_one (ps_ret (pe_call GA hr2 rfl mA kA bA .nil pass0 (pa_cons (pv 0) (pa_cons (pv 1) pa_nil)))))), ?_⟩
    rcases h with ⟨a, v, p, b, g, F, rfl, rfl, cu, R, hb, k⟩ | ⟨no, k⟩ | ⟨a, v, q, r, rfl, cu, bad, k⟩
    · refine ⟨_, rfl, _, rfl, .inl ⟨a, v, _, _, rfl, cu, ?_⟩⟩
      refine ⟨_, rfl, _, _, rfl, rfl, ⟨by decide, by decide⟩, .int b, 0, 1000000000000, "beat", rfl, .inl ⟨_, rfl, by omega, by omega, ?_⟩⟩
      exact ⟨_, rfl, _, rfl, a, v, p, b, g, F, rfl, cu, R, by omega, k⟩
    · exact ⟨_, rfl, _, rfl, .inr ⟨no, k⟩⟩
    · refine ⟨_, rfl, _, rfl, .inl ⟨a, v, _, _, rfl, cu, ?_⟩⟩
      exact ⟨_, rfl, _, _, rfl, rfl, ⟨by decide, by decide⟩, y, 0, 1000000000000, "beat", rfl, .inr ⟨bad, k⟩⟩
end
end WW
end

section
set_option Elab.async false
set_option linter.all false
set_option maxRecDepth 100000
set_option maxHeartbeats 4000000
/-! The law's own call, under no guard. -/
namespace WG
open PySem PySem.Spec PyProof.Rows L2
section
variable {P : Program} {w : World} {K : PySem.W.Frag} {mg mb : Str → Option Value} {k : Nat} {fa a : Addr} {fd : FuncData}
variable {x : Str} {sp : Sp} {s₁ : Shared} {vs : List Value} {ns : List Int}
/-- what the call is wanted to leave -/
abbrev LawEnd (s₁ : Shared) (r : Result) (s' : Shared) : Prop :=
  r = .ok (.ret (.bool true)) ∧ OldK s₁.heap s'.heap ∧ s'.os = s₁.os ∧ AllBare s'.gens
theorem law_core (KX : K.In s₁.heap) (hns : s₁.heap.Ns mainGlobals mg) (hb : s₁.heap.Ns builtinsNs mb)
    (hbb : ∀ x : Str, x ≠ "__name__" → mb x = bootBuiltins x) (hlim : s₁.heap.NoLimit) (hg : s₁.gens = #[])
    (ha : s₁.heap.get? a = some { cls := .type "list", data := .seq vs.toArray }) (hr : Room k callerA)
    (F : ∀ base : Heap, K.In base → base.Ns mainGlobals mg → FnG P w K mg base CX0 k fa fd [x] sp)
    (hbind : ∀ (s : Shared) (u : Value), BindsTo s fd ⟨[u], []⟩ [(x, u)]) (H : Hp) (hO : Only H)
    (hsp : sp [.ref a] H (fun v _ => v = .bl true) fun _ _ _ => False) (hok : HOk P w H s₁.heap)
    (hA : ∀ b, H b ≠ none → b = a) (hK : H a ≠ none → K.lookup a = none) :
    codeAny (model P w) callerA (.call (.ref fa) ⟨[.ref a], []⟩) (LawEnd s₁) s₁ := by
  have nd : ∀ {b : Addr} {o : Obj} {es : Array DictEntry} {ep : Nat},
      s₁.heap.get? b = some o → o.data = .dict es ep → H b = none := by
    intro b o es ep e d
    cases q : H b with
    | none => rfl
    | some u =>
      have e' : b = a := hA b (by rw [q]; simp)
      subst e'
      rw [ha] at e
      cases e
      have d' : Data.seq vs.toArray _ = Data.dict es ep := d
      cases d'
  have nsK : ∀ {b : Addr} {m : Str → Option Value}, s₁.heap.Ns b m → (hidT s₁.heap H).Ns b m := by
    rintro b m ⟨o, es, ep, e, d, r⟩
    exact ⟨o, es, ep, hidT_get e (nd e d), d, r⟩
  have hKb : K.In (hidT s₁.heap H) := by
    intro b o e
    refine hidT_get (KX b o e) ?_
    cases q : H b with
    | none => rfl
    | some u =>
      have e' : b = a := hA b (by rw [q]; simp)
      subst e'
      rw [hK (by rw [q]; simp)] at e
      cases e
  have hM : Mod K mg (hidT s₁.heap H) := by
    obtain ⟨mc, h1, h2⟩ := hlim
    exact ⟨hKb, nsK hns, ⟨mb, nsK hb, hbb⟩, ⟨mc, nsK h1, h2⟩⟩
  have e0 : Env0 P w K mg (hidT s₁.heap H) callerA [] s₁ H :=
    { frames := rfl, mod := hM, bs := fun b o e => of_hidT e, bsz := Nat.le_of_eq (hidT_size _ _), funs := trivial,
      frf := fun b hb => absurd (show b ∈ ([] : List Addr) from hb) (by simp), hok := hok, bare := .of_eq hg }
  have run := (F _ hKb (nsK hns)).run callerA [] s₁ H ⟨[.ref a], []⟩ [.ref a] [.ref a] _ _ hr rfl e0
    (hbind s₁ (.ref a)) (.cons rfl .nil) hsp
  refine codeAny_mono run fun r s' h => ?_
  cases r with
  | error e => exact False.elim h
  | ok fl =>
    cases fl with
    | next => exact False.elim h
    | brk => exact False.elim h
    | cont => exact False.elim h
    | ret u =>
      obtain ⟨v, H', os, bare, un, hok', r', q⟩ := h
      have q' : v = .bl true := q
      subst q'
      obtain rfl : u = Value.bool true := r'
      refine ⟨rfl, OldK.of_keep ?_, os, bare⟩
      intro b o e
      cases q : H b with
      | none =>
        exact un.keep b o e q (fun z => absurd (show b ∈ ([] : List Addr) from z) (by simp)) (by simp)
      | some u =>
        rcases hO b with z | ⟨ob, xs, z⟩
        · rw [q] at z
          cases z
        · obtain ⟨e1, _⟩ := hok b _ z
          obtain ⟨e2, _⟩ := hok' b _ (un.frzs b ob _ z)
          rw [e] at e1
          cases e1
          exact e2
theorem law_end (KX : K.In s₁.heap) (hns : s₁.heap.Ns mainGlobals mg) (hb : s₁.heap.Ns builtinsNs mb)
    (hbb : ∀ x : Str, x ≠ "__name__" → mb x = bootBuiltins x) (hlim : s₁.heap.NoLimit) (hg : s₁.gens = #[])
    (ha : s₁.heap.get? a = some { cls := .type "list", data := .seq vs.toArray }) (hi : IntsAre vs ns)
    (hl : ns.length ≤ sizeLine) (hr : Room k callerA)
    (F : ∀ base : Heap, K.In base → base.Ns mainGlobals mg → FnG P w K mg base CX0 k fa fd [x] sp)
    (hbind : ∀ (s : Shared) (u : Value), BindsTo s fd ⟨[u], []⟩ [(x, u)])
    (hsp : ∀ H : Hp, Only H → SqL K H a (ns.map V.int) → sp [.ref a] H (fun v _ => v = .bl true) fun _ _ _ => False) :
    codeAny (model P w) callerA (.call (.ref fa) ⟨[.ref a], []⟩) (LawEnd s₁) s₁ := by
  have rv := vals_ints hi
  have lv := hi.length
  cases hk : K.lookup a with
  | some o =>
    have e := KX a o hk
    rw [ha] at e
    cases e
    have hS : SqL K (fun _ => none) a (ns.map V.int) :=
      .inr ⟨_, vs.toArray, _, hk, rfl, rfl, rfl, by rw [List.size_toArray, lv]; exact hl, by simpa using rv⟩
    refine law_core KX hns hb hbb hlim hg ha hr F hbind (fun _ => none) (fun _ => .inl rfl) (hsp _ (fun _ => .inl rfl) hS) ?_ ?_ ?_
    · intro b u z
      have z' : (none : Option HO) = some u := z
      cases z'
    · exact fun b z => absurd rfl z
    · exact fun z => absurd rfl z
  | none =>
    let ob : Obj := { cls := .type "list", data := .seq vs.toArray }
    let H : Hp := fun b => if b = a then some (.frz ob (.lst (ns.map V.int))) else none
    have h1 : H a = some (.frz ob (.lst (ns.map V.int))) := if_pos rfl
    have h2 : ∀ b, b ≠ a → H b = none := fun b hb => if_neg hb
    have hO : Only H := by
      intro b
      by_cases hb : b = a
      · exact .inr ⟨_, _, by rw [hb]; exact h1⟩
      · exact .inl (h2 b hb)
    refine law_core KX hns hb hbb hlim hg ha hr F hbind H hO (hsp H hO (.inl (.inr ⟨ob, h1⟩))) ?_ ?_ fun _ => hk
    · intro b u z
      by_cases hb : b = a
      · subst hb
        rw [h1] at z
        cases z
        exact ⟨ha, by rw [List.length_map]; exact hl, vs, _, rv, ha⟩
      · rw [h2 b hb] at z
        cases z
    · intro b z
      by_cases hb : b = a
      · exact hb
      · exact absurd (h2 b hb) z
end
/-- the goal that k_head leaves, from the law's promise -/
theorem walkG {l : PySem.W.OpenLaw} {n k : Nat} {q : Program} {loose : List Str} {XP : (Str → Option Value) → Heap → Prop} {YP : World → Heap → Prop}
    {d : DefRec} {K : Params → PySem.W.Frag} {sp : PySem.W.Frag → Sp} {x : Str}
    (hn : l.most = some n) (hn2 : n ≤ sizeLine) (hdf : d.params.defaults = []) (hr : Room k callerA)
    (hY : ∀ (w : World) (h : Heap), YP w h → (K w.params).In h)
    (F : ∀ (w : World) (mg : Str → Option Value) (fa : Addr) (h : Heap), (K w.params).In h → h.Ns mainGlobals mg → mg d.name = some (.ref fa) →
      ∃ fd : FuncData, (∀ (s : Shared) (u : Value), BindsTo s fd ⟨[u], []⟩ [(x, u)]) ∧
        ∀ base : Heap, (K w.params).In base → base.Ns mainGlobals mg → FnG l.prog w (K w.params) mg base CX0 k fa fd [x] (sp (K w.params)))
    (hsp : ∀ (K : PySem.W.Frag) (H : Hp) (a : Addr) (ns : List Int), ns.length ≤ n → SqL K H a (ns.map V.int) →
      sp K [.ref a] H (fun v _ => v = .bl true) fun _ _ _ => False) :
    PySem.W.WalkO q loose XP YP l.row.toRowW d [] (fun f vs => PySem.call f vs) := by
  refine Att.attach_call hn hdf fun w s₀ s₁ mg mb fa o pm cd doc a vs ns G Y ho hd hcd hmg hobj hints hlen hg => ?_
  have KX := hY w _ Y
  obtain ⟨fd, hb, hF⟩ := F w mg fa _ KX G.T.g hmg
  exact law_end KX G.T.g G.T.b G.T.builtins G.T.nolimit hg hobj hints
    (Nat.le_trans hlen hn2) hr hF hb fun H _ hS => hsp _ H a ns hlen hS
end WG
end

section
set_option Elab.async false
set_option linter.all false
set_option maxRecDepth 100000
set_option maxHeartbeats 8000000
/-! the head's facts, read over the few objects that a law comes to; the end of a law whose defs make lambdas -/
namespace WH
open PySem PySem.Spec PyProof.Rows L2 WG
section
variable {P : Program} {w : World} {K : PySem.W.Frag} {mg mb : Str → Option Value} {k : Nat} {fa a : Addr} {fd : FuncData}
variable {x : Str} {sp : Sp} {s₁ : Shared} {vs : List Value} {ns : List Int} {cs : List (Addr × Addr)}
abbrev tab0 : Obj := { cls := .none, data := .fields #[] }
/-- the script and the empty tables, and nothing else, may be tracked -/
structure Start (K : PySem.W.Frag) (h : Heap) (a : Addr) (cs : List (Addr × Addr)) (H : Hp) : Prop where
  tb : ∀ p ∈ cs, H p.2 = some (.tbl #[])
  all : ∀ b, H b = none ∨ b ∈ cs.map (·.2) ∨ ∃ o xs, H b = some (.frz o (.lst xs))
  only : ∀ b, H b ≠ none → b = a ∨ b ∈ cs.map (·.2)
  aK : H a ≠ none → K.lookup a = none
theorem coreT (KX : K.In s₁.heap) (hns : s₁.heap.Ns mainGlobals mg) (hb : s₁.heap.Ns builtinsNs mb)
    (hbb : ∀ x : Str, x ≠ "__name__" → mb x = bootBuiltins x) (hlim : s₁.heap.NoLimit) (hg : s₁.gens = #[])
    (hT : ∀ p ∈ cs, s₁.heap.get? p.2 = some tab0) (nT : ∀ p ∈ cs, K.lookup p.2 = none) (hC : ∀ p ∈ cs, PySem.W.CodeHd s₁.heap p.1 p.2)
    (hbm : ∃ (bm : Addr) (ob : Obj), mg "__builtins__" = some (.ref bm) ∧ bm ≠ builtinsNs ∧ s₁.heap.get? bm = some ob ∧ ob.cls = .type "module" ∧ ob.dict = some builtinsNs ∧ ob.data = .plain)
    (ha : s₁.heap.get? a = some { cls := .type "list", data := .seq vs.toArray }) (hr : Room k callerA)
    (F : ∀ base : Heap, K.In base → base.Ns mainGlobals mg → (∀ p ∈ cs, LamX.TabB base mg p.1 p.2) → FnG P w K mg base CX0 k fa fd [x] sp)
    (hbind : ∀ (s : Shared) (u : Value), BindsTo s fd ⟨[u], []⟩ [(x, u)]) (H : Hp) (S : Start K s₁.heap a cs H)
    (hsp : sp [.ref a] H (fun v _ => v = .bl true) fun _ _ _ => False) (hok : HOk P w H s₁.heap) :
    codeAny (model P w) callerA (.call (.ref fa) ⟨[.ref a], []⟩) (LawEnd s₁) s₁ := by
  have tabAt : ∀ b : Addr, b ∈ cs.map (·.2) → s₁.heap.get? b = some tab0 := by
    intro b hb
    obtain ⟨p, hp, rfl⟩ := List.mem_map.mp hb
    exact hT p hp
  have off : ∀ {b : Addr} {o : Obj}, s₁.heap.get? b = some o → (∀ us n, o.data ≠ .seq us n) → o.data ≠ .fields #[] → H b = none := by
    intro b o e n1 n2
    cases q : H b with
    | none => rfl
    | some u =>
      rcases S.only b (by rw [q]; simp) with z | z
      · rw [z, ha] at e
        cases e
        exact absurd rfl (n1 _ _)
      · rw [tabAt b z] at e
        cases e
        exact absurd rfl n2
  have offD : ∀ {b : Addr} {o : Obj} {es : Array DictEntry} {ep : Nat}, s₁.heap.get? b = some o → o.data = .dict es ep → H b = none := by
    intro b o es ep e d
    refine off e (fun us n z => ?_) fun z => ?_ <;> (rw [d] at z; cases z)
  have nsK : ∀ {b : Addr} {m : Str → Option Value}, s₁.heap.Ns b m → (hidT s₁.heap H).Ns b m := by
    rintro b m ⟨o, es, ep, e, d, r⟩
    exact ⟨o, es, ep, hidT_get e (offD e d), d, r⟩
  have hKb : K.In (hidT s₁.heap H) := by
    intro b o e
    refine hidT_get (KX b o e) ?_
    cases q : H b with
    | none => rfl
    | some u =>
      rcases S.only b (by rw [q]; simp) with z | z
      · rw [z] at e q
        rw [S.aK (by rw [q]; simp)] at e
        cases e
      · obtain ⟨p, hp, rfl⟩ := List.mem_map.mp z
        rw [nT p hp] at e
        cases e
  have hM : Mod K mg (hidT s₁.heap H) := by
    obtain ⟨mc, h1, h2⟩ := hlim
    exact ⟨hKb, nsK hns, ⟨mb, nsK hb, hbb⟩, ⟨mc, nsK h1, h2⟩⟩
  have gM : ∀ b : Addr, (∃ o : Obj, s₁.heap.get? b = some o ∧ ∀ es ep, o.data ≠ .dict es ep) → mainGlobals ≠ b := by
    rintro b ⟨o, e, nd⟩ z
    obtain ⟨o', es, ep, e', hd, _⟩ := hns
    rw [z, e] at e'
    cases e'
    exact nd _ _ hd
  have TB : ∀ p ∈ cs, LamX.TabB (hidT s₁.heap H) mg p.1 p.2 := by
    intro p hp
    have hTp := hT p hp
    have part : (hidT s₁.heap H).BuiltinsAt mg p.2 := by
      obtain ⟨bm, ob, b1, b2, b3, b4, b5, b6⟩ := hbm
      refine ⟨bm, ob, b1, b2, fun z => gM bm ⟨ob, b3, fun es ep q => by rw [b6] at q; cases q⟩ z.symm, fun z => ?_, hidT_get b3 (off b3 (fun us n z => ?_) fun z => ?_), b4, b5, b6⟩
      · rw [z, hTp] at b3
        cases b3
        cases b6
      · rw [b6] at z
        cases z
      · rw [b6] at z
        cases z
    refine ⟨?_, part, gM p.2 ⟨tab0, hTp, fun es ep q => by cases q⟩⟩
    obtain ⟨o, us, fl, tf, gl, tg, inF, tx, tt, e1, r1, r2, r3, rr⟩ := hC p hp
    refine ⟨o, us, fl, tf, gl, tg, inF, tx, tt, hidT_get e1 (off e1 (fun vs n z => ?_) fun z => ?_), r1, r2, r3, rr⟩
    · rw [r2] at z
      cases z
    · rw [r2] at z
      cases z
      simp at r3
  have e0 : Env0 P w K mg (hidT s₁.heap H) callerA [] s₁ H :=
    { frames := rfl, mod := hM, bs := fun b o e => of_hidT e, bsz := Nat.le_of_eq (hidT_size _ _), funs := trivial,
      frf := fun b hb => absurd (show b ∈ ([] : List Addr) from hb) (by simp), hok := hok, bare := .of_eq hg }
  refine codeAny_mono ((F _ hKb (nsK hns) TB).run callerA [] s₁ H ⟨[.ref a], []⟩ [.ref a] [.ref a] _ _ hr rfl e0
    (hbind s₁ (.ref a)) (.cons rfl .nil) hsp) fun r s' h => ?_
  cases r with
  | error e => exact False.elim h
  | ok fl =>
    cases fl with
    | next => exact False.elim h
    | brk => exact False.elim h
    | cont => exact False.elim h
    | ret u =>
      obtain ⟨v, H', os, bare, un, hok', r', q⟩ := h
      have q' : v = .bl true := q
      subst q'
      obtain rfl : u = Value.bool true := r'
      have stays : ∀ b o, b ∉ cs.map (·.2) → s₁.heap.get? b = some o → s'.heap.get? b = some o := by
        intro b o nb e
        cases q : H b with
        | none => exact un.keep b o e q (fun z => absurd (show b ∈ ([] : List Addr) from z) (by simp)) (by simp)
        | some u =>
          rcases S.all b with z | z | ⟨ob, xs, z⟩
          · rw [q] at z
            cases z
          · exact absurd z nb
          · obtain ⟨e1, _⟩ := hok b _ z
            obtain ⟨e2, _⟩ := hok' b _ (un.frzs b ob _ z)
            rw [e] at e1
            cases e1
            exact e2
      have grows : ∀ p ∈ cs, ∃ more : Array Value, s'.heap.get? p.2 = some { cls := .none, data := .fields more } := by
        intro p hp
        obtain ⟨more, z⟩ := un.tbls p.2 #[] (S.tb p hp)
        exact ⟨_, hok' p.2 _ z⟩
      refine ⟨rfl, ⟨fun b o e => ?_, fun b o e => ?_⟩, os, bare⟩
      · by_cases hb : b ∈ cs.map (·.2)
        · obtain ⟨p, hp, rfl⟩ := List.mem_map.mp hb
          obtain ⟨more, hm⟩ := grows p hp
          rw [hT p hp] at e
          cases e
          exact .inr (.inl ⟨((hC p hp).tab (hT p hp)).isCodeTable, rfl, #[], more, rfl, by rw [Array.empty_append]; exact hm⟩)
        · exact .inl (stays b o hb e)
      · by_cases hb : b ∈ cs.map (·.2)
        · obtain ⟨p, hp, rfl⟩ := List.mem_map.mp hb
          obtain ⟨more, hm⟩ := grows p hp
          exact ⟨_, hm⟩
        · exact ⟨o, stays b o hb e⟩
theorem endT (KX : K.In s₁.heap) (hns : s₁.heap.Ns mainGlobals mg) (hb : s₁.heap.Ns builtinsNs mb)
    (hbb : ∀ x : Str, x ≠ "__name__" → mb x = bootBuiltins x) (hlim : s₁.heap.NoLimit) (hg : s₁.gens = #[])
    (hT : ∀ p ∈ cs, s₁.heap.get? p.2 = some tab0) (nT : ∀ p ∈ cs, K.lookup p.2 = none) (hC : ∀ p ∈ cs, PySem.W.CodeHd s₁.heap p.1 p.2)
    (hbm : ∃ (bm : Addr) (ob : Obj), mg "__builtins__" = some (.ref bm) ∧ bm ≠ builtinsNs ∧ s₁.heap.get? bm = some ob ∧ ob.cls = .type "module" ∧ ob.dict = some builtinsNs ∧ ob.data = .plain)
    (ha : s₁.heap.get? a = some { cls := .type "list", data := .seq vs.toArray }) (hi : IntsAre vs ns)
    (hl : ns.length ≤ sizeLine) (hr : Room k callerA)
    (F : ∀ base : Heap, K.In base → base.Ns mainGlobals mg → (∀ p ∈ cs, LamX.TabB base mg p.1 p.2) → FnG P w K mg base CX0 k fa fd [x] sp)
    (hbind : ∀ (s : Shared) (u : Value), BindsTo s fd ⟨[u], []⟩ [(x, u)])
    (hsp : ∀ H : Hp, (∀ p ∈ cs, H p.2 = some (.tbl #[])) → SqL K H a (ns.map V.int) → sp [.ref a] H (fun v _ => v = .bl true) fun _ _ _ => False) :
    codeAny (model P w) callerA (.call (.ref fa) ⟨[.ref a], []⟩) (LawEnd s₁) s₁ := by
  have rv := vals_ints hi
  have lv := hi.length
  have tabAt : ∀ b : Addr, b ∈ cs.map (·.2) → s₁.heap.get? b = some tab0 := by
    intro b hb
    obtain ⟨p, hp, rfl⟩ := List.mem_map.mp hb
    exact hT p hp
  have aT : a ∉ cs.map (·.2) := by
    intro z
    have q := tabAt a z
    rw [ha] at q
    have z' : Data.seq vs.toArray _ = Data.fields #[] := congrArg Obj.data (Option.some.inj q)
    cases z'
  have mem2 : ∀ p ∈ cs, p.2 ∈ cs.map (·.2) := fun p hp => List.mem_map.mpr ⟨p, hp, rfl⟩
  cases hk : K.lookup a with
  | some o =>
    have e := KX a o hk
    rw [ha] at e
    cases e
    let H : Hp := fun b => if b ∈ cs.map (·.2) then some (.tbl #[]) else none
    have h1 : ∀ {b}, b ∈ cs.map (·.2) → H b = some (.tbl #[]) := fun hb => if_pos hb
    have h2 : ∀ {b}, b ∉ cs.map (·.2) → H b = none := fun hb => if_neg hb
    have hS : SqL K H a (ns.map V.int) :=
      .inr ⟨_, vs.toArray, _, hk, rfl, rfl, rfl, by rw [List.size_toArray, lv]; exact hl, by simpa using rv⟩
    have S : Start K s₁.heap a cs H := by
      refine ⟨fun p hp => h1 (mem2 p hp), fun b => ?_, fun b z => ?_, fun z => absurd (h2 aT) z⟩
      · by_cases q : b ∈ cs.map (·.2)
        · exact .inr (.inl q)
        · exact .inl (h2 q)
      · by_cases q : b ∈ cs.map (·.2)
        · exact .inr q
        · exact absurd (h2 q) z
    refine coreT KX hns hb hbb hlim hg hT nT hC hbm ha hr F hbind H S (hsp H S.tb hS) fun b u z => ?_
    by_cases q : b ∈ cs.map (·.2)
    · rw [h1 q] at z
      cases z
      exact tabAt b q
    · rw [h2 q] at z
      cases z
  | none =>
    let ob : Obj := { cls := .type "list", data := .seq vs.toArray }
    let H : Hp := fun b => if b = a then some (.frz ob (.lst (ns.map V.int))) else if b ∈ cs.map (·.2) then some (.tbl #[]) else none
    have h0 : H a = some (.frz ob (.lst (ns.map V.int))) := if_pos rfl
    have h1 : ∀ {b}, b ≠ a → b ∈ cs.map (·.2) → H b = some (.tbl #[]) := fun ne hb => (if_neg ne).trans (if_pos hb)
    have h2 : ∀ {b}, b ≠ a → b ∉ cs.map (·.2) → H b = none := fun ne hb => (if_neg ne).trans (if_neg hb)
    have na : ∀ {b}, b ∈ cs.map (·.2) → b ≠ a := fun hb z => aT (z ▸ hb)
    have S : Start K s₁.heap a cs H := by
      refine ⟨fun p hp => h1 (na (mem2 p hp)) (mem2 p hp), fun b => ?_, fun b z => ?_, fun _ => hk⟩
      · by_cases q0 : b = a
        · exact .inr (.inr ⟨_, _, by rw [q0]; exact h0⟩)
        · by_cases q : b ∈ cs.map (·.2)
          · exact .inr (.inl q)
          · exact .inl (h2 q0 q)
      · by_cases q0 : b = a
        · exact .inl q0
        · by_cases q : b ∈ cs.map (·.2)
          · exact .inr q
          · exact absurd (h2 q0 q) z
    refine coreT KX hns hb hbb hlim hg hT nT hC hbm ha hr F hbind H S (hsp H S.tb (.inl (.inr ⟨ob, h0⟩))) fun b u z => ?_
    by_cases q0 : b = a
    · subst q0
      rw [h0] at z
      cases z
      exact ⟨ha, by rw [List.length_map]; exact hl, vs, _, rv, ha⟩
    · by_cases q : b ∈ cs.map (·.2)
      · rw [h1 q0 q] at z
        cases z
        exact tabAt b q
      · rw [h2 q0 q] at z
        cases z
end
/-- what is known at the head's heap h of the law at fa -/
def LawAt (l : PySem.W.OpenLaw) (w : World) (k n : Nat) (x : Str) (mg : Str → Option Value) (fa : Addr) (h : Heap) : Prop :=
  ∃ (K : PySem.W.Frag) (fd : FuncData) (cs : List (Addr × Addr)) (sp : Sp), K.In h ∧ (∀ p ∈ cs, h.get? p.2 = some tab0) ∧ (∀ p ∈ cs, K.lookup p.2 = none) ∧ (∀ p ∈ cs, PySem.W.CodeHd h p.1 p.2) ∧
    (∀ (s : Shared) (u : Value), BindsTo s fd ⟨[u], []⟩ [(x, u)]) ∧
    (∀ (H : Hp) (a : Addr) (ns : List Int), ns.length ≤ n → (∀ p ∈ cs, H p.2 = some (.tbl #[])) → SqL K H a (ns.map V.int) → sp [.ref a] H (fun v _ => v = .bl true) fun _ _ _ => False) ∧
    ∀ base : Heap, K.In base → base.Ns mainGlobals mg → (∀ p ∈ cs, LamX.TabB base mg p.1 p.2) → FnG l.prog w K mg base CX0 k fa fd [x] sp
theorem walkT {l : PySem.W.OpenLaw} {n k : Nat} {q : Program} {loose : List Str} {XP : (Str → Option Value) → Heap → Prop} {YP : World → Heap → Prop}
    {d : DefRec} {x : Str}
    (hn : l.most = some n) (hn2 : n ≤ sizeLine) (hdf : d.params.defaults = []) (hr : Room k callerA)
    (F : ∀ (w : World) (mg : Str → Option Value) (fa : Addr) (h : Heap), YP w h → h.Ns mainGlobals mg → mg d.name = some (.ref fa) → LawAt l w k n x mg fa h) :
    PySem.W.WalkO q loose XP YP l.row.toRowW d [] (fun f vs => PySem.call f vs) := by
  refine Att.attach_call hn hdf fun w s₀ s₁ mg mb fa o pm cd doc a vs ns G Y ho hd hcd hmg hobj hints hlen hg => ?_
  obtain ⟨K, fd, cs, sp, KX, t1, t2, t3, hb, hsp, hF⟩ := F w mg fa _ Y G.T.g hmg
  exact endT KX G.T.g G.T.b G.T.builtins G.T.nolimit hg t1 t2 t3 G.T.bmain hobj hints
    (Nat.le_trans hlen hn2) hr hF hb fun H hH hS => hsp H a ns hlen hH hS
/-! ### the hook -/
/-- the addresses of globals, classes, their namespaces, the functions, their code -/
def asX (g : Addr → Option Obj) (cs : List Str) (ms : List (Str × Str)) (fs : List Str) : List Addr :=
  let G : List Addr := [mainGlobals]
  let K0 := He.frG g G
  let C := cs.map (He.ga K0)
  let K1 := He.frG g C
  let N := C.filterMap fun c => (PySem.W.clsIn K1 c).map fun cd => cd.ns
  let K2 := He.frG g (G ++ C ++ N)
  let F := ms.map (fun m => He.ma K2 (He.ga K0 m.1) m.2) ++ fs.map (He.ga K0)
  let K3 := He.frG g F
  let D := F.filterMap fun f => match K3.lookup f with
    | some ⟨_, _, .func fd, _⟩ => (match fd.code with
      | .ref c => some c
      | _ => none)
    | _ => none
  G ++ C ++ N ++ F ++ D
abbrev frX (cs : List Str) (ms : List (Str × Str)) (fs : List Str) (g : Addr → Option Obj) : PySem.W.Frag := He.frG g (asX g cs ms fs)
/-- the code of a def that makes lambdas, and its table -/
def coOf (K : PySem.W.Frag) (x : Str) : Addr := match K.lookup (He.ga K x) with
  | some ⟨_, _, .func fd, _⟩ => (match fd.code with
    | .ref c => c
    | _ => 0)
  | _ => 0
def taOf (K : PySem.W.Frag) (c : Addr) : Addr := match K.lookup c with
  | some ⟨_, _, .fields vs, _⟩ => (match (vs[11]? : Option Value) with
    | some (.ref t) => t
    | _ => 0)
  | _ => 0
def ctOf (K : PySem.W.Frag) (x : Str) : Addr × Addr := (coOf K x, taOf K (coOf K x))
def tabX (g : Addr → Option Obj) (tf : List Str) (K : PySem.W.Frag) : Bool := tf.all fun x => PySem.W.codeHdIn K (ctOf K x).1 (ctOf K x).2 && (K.lookup (ctOf K x).2).isNone && (match g (ctOf K x).2 with
  | some o => He.emptyTab o
  | none => false)
structure TabsIn (h : Heap) (tf : List Str) (K : PySem.W.Frag) : Prop where
  hd : ∀ x ∈ tf, PySem.W.codeHdIn K (ctOf K x).1 (ctOf K x).2 = true
  out : ∀ x ∈ tf, K.lookup (ctOf K x).2 = none
  emp : ∀ x ∈ tf, h.get? (ctOf K x).2 = some tab0
theorem tabX_ok {h : Heap} {tf : List Str} {K : PySem.W.Frag} (e : tabX h.get? tf K = true) : TabsIn h tf K := by
  have key : ∀ x ∈ tf, (PySem.W.codeHdIn K (ctOf K x).1 (ctOf K x).2 = true ∧ (K.lookup (ctOf K x).2).isNone = true) ∧ ∃ o, h.get? (ctOf K x).2 = some o ∧ He.emptyTab o = true := by
    intro x hx
    have z := List.all_eq_true.mp e x hx
    rw [Bool.and_eq_true, Bool.and_eq_true] at z
    refine ⟨z.1, ?_⟩
    have z2 := z.2
    cases q : h.get? (ctOf K x).2 with
    | none => rw [q] at z2; cases z2
    | some o => rw [q] at z2; exact ⟨o, rfl, z2⟩
  refine ⟨fun x hx => (key x hx).1.1, fun x hx => Option.isNone_iff_eq_none.mp (key x hx).1.2, fun x hx => ?_⟩
  obtain ⟨_, o, q, z⟩ := key x hx
  rw [q, He.emptyTab_eq z]
def obsX (cs : List Str) (ms : List (Str × Str)) (fs tf : List Str) (fa : List He.Fa) (fn : List He.DefD) (B : PySem.W.Frag → Bool) (g : Addr → Option Obj) : He.AlD × Bool :=
  (He.obsD fa fn (frX cs ms fs g), B (frX cs ms fs g) && tabX g tf (frX cs ms fs g))
def hookX (cs : List Str) (ms : List (Str × Str)) (fs tf : List Str) (fa : List He.Fa) (fn : List He.DefD) (B : PySem.W.Frag → Bool) : PySem.W.Hook where
  α := He.AlD × Bool
  obs s := obsX cs ms fs tf fa fn B s.heap.get?
  val _ := (He.valD fn, true)
  says _ h := ∃ K, PySem.W.Frag.In K h ∧ He.SaysD fa fn K ∧ B K = true ∧ TabsIn h tf K
  of _ s e := by
    have e1 := congrArg (fun z : He.AlD × Bool => z.1) e
    have e2 := congrArg (fun z : He.AlD × Bool => z.2) e
    have e3 := Bool.and_eq_true_iff.mp e2
    exact ⟨_, He.frG_in, e1, e3.1, tabX_ok e3.2⟩
  keeps _ _ _ := fun ⟨K, X, c, b, t⟩ k => ⟨K, fun a o e => k a o (X a o e), c, b, ⟨t.hd, t.out, fun x hx => k _ _ (t.emp x hx)⟩⟩
theorem obsX_eq {cs : List Str} {ms : List (Str × Str)} {fs tf : List Str} {fa : List He.Fa} {fn : List He.DefD} {B : PySem.W.Frag → Bool} {g : Addr → Option Obj} {s : Shared} (h : ∀ a, g a = s.heap.get? a) :
    obsX cs ms fs tf fa fn B g = (hookX cs ms fs tf fa fn B).obs s := by
  have e : g = s.heap.get? := funext h
  rw [e]
  rfl
theorem fun_of {K : PySem.W.Frag} {x q : Str} {st : Stmt} {f : Addr} {fd : FuncData} (F : FunD K x q (defArgs st) (defBody st) (defScope st) [] [] f fd) : Fun K x q st f fd := by
  obtain ⟨⟨oc, od, dV, kV, doc, pm, an, cdv, ct, sl, rfl, hl, hc, hd, -⟩, kp⟩ := F
  rcases hd with ⟨-, rfl⟩ | ⟨h, -⟩
  · exact ⟨⟨oc, od, kV, doc, pm, an, cdv, ct, sl, rfl, hl, hc⟩, kp⟩
  · exact absurd rfl h
/-! ### own errors -/
def askX (K : PySem.W.Frag) (C : Addr) : Bool := (PySem.W.clsIn K C).isSome && (decide (PySem.W.findIn K (.ref C) "__getattribute__" = some (some (.builtin "BaseException.__getattribute__"))) &&
  (decide (PySem.W.findIn K (.ref C) "__getattr__" = some none) && (decide (PySem.W.subIn K (.ref C) (.type "BaseException") = some true) &&
  (decide (PySem.W.findIn K (.ref C) "__class__" = some (some (.builtin "object.__class__"))) && (decide (PySem.W.specialIn K (.builtin "object.__class__") "__get__" = some (some (.builtin "getset_descriptor.__get__"))) &&
  (decide (PySem.W.takesIn K (.builtin "object.__class__") = some true) && decide (PySem.W.mroIn K C (.type "object") = some true)))))))
theorem askX_ok {K : PySem.W.Frag} {C : Addr} (h : askX K C = true) : WT.AskE K C := by
  unfold askX at h
  simp only [Bool.and_eq_true, decide_eq_true_eq] at h
  obtain ⟨h1, h2, h3, h4, h5, h6, h7, h8⟩ := h
  exact ⟨h1, h2, h3, h4, h5, h6, h7, h8⟩
/-- a class with an attribute -/
def clsX (K : PySem.W.Frag) (C : Addr) : Bool := match K.lookup C with
  | some ⟨.type "type", _, .cls cd, sl⟩ => (match cd.mro, sl.toList with
    | .ref C' :: bm, [_, _, _, _, some (.builtin n), _] => C' == C && n == "ValueError.__new__" && !cd.hasDel && cd.hasDict && PySem.HandSPX.refsVE bm
    | _, _ => false)
  | _ => false
theorem clsX_ok {K : PySem.W.Frag} {C : Addr} (h : clsX K C = true) :
    ∃ nm q N bs bm sn sub ab col dd k0 k1 k2 k3 k5, K.lookup C = some (excClassObj nm q C N bs bm true sn sub ab col dd k0 k1 k2 k3 k5 "ValueError.__new__") ∧ PySem.HandSPX.refsVE bm = true := by
  unfold clsX at h
  split at h
  · rename_i dd cd sl hl
    split at h
    · rename_i C' bm k0 k1 k2 k3 n k5 hm hs
      simp only [Bool.and_eq_true, beq_iff_eq, Bool.not_eq_true'] at h
      obtain ⟨⟨⟨⟨rfl, rfl⟩, hd⟩, hx⟩, hr⟩ := h
      obtain ⟨nm, bs, mro, N, q, hdct, sn, sub, ab, col, hasDel⟩ := cd
      obtain ⟨sl⟩ := sl
      dsimp only at hm hs hd hx
      subst hm hd hx hs
      exact ⟨nm, q, N, bs, bm, sn, sub, ab, col, dd, k0, k1, k2, k3, k5, hl, hr⟩
    · cases h
  · cases h
def errX (K : PySem.W.Frag) (C fI : Addr) (f : Str) : Bool := clsX K C && (decide (PySem.W.findIn K (.ref C) "__setattr__" = some (some (.builtin "object.__setattr__"))) &&
  (decide (PySem.W.subIn K (.ref C) (.type "BaseException") = some true) && (decide (PySem.W.typeIn K (.ref C) = some (.type "type")) && (PySem.W.keepIn K (.ref C) &&
  (decide (PySem.W.findIn K (.ref C) "__init__" = some (some (.ref fI))) && (decide (PySem.W.typeIn K (.ref fI) = some (.type "function")) &&
  (decide (PySem.W.findIn K (.ref C) f = some none) && (PySem.W.hasDictIn K C && askX K C))))))))
theorem errX_ok {P : Program} {w : World} {K : PySem.W.Frag} {mg : Str → Option Value} {base : Heap} {x f : Str} {C fI : Addr} {fd : FuncData} (h : errX K C fI f = true) (gC : mg x = some (.ref C))
    (fn : FnOk P w K mg base CX0 1 fI fd [("self" : Str), f] (WT.spErrI K f)) (bd : Binds K fd [("self" : Str), f] []) : WT.ErrT P w K mg base x f C fI fd := by
  unfold errX at h
  simp only [Bool.and_eq_true, decide_eq_true_eq] at h
  obtain ⟨h1, h2, h3, h4, h5, h6, h7, h8, h9, h10⟩ := h
  exact ⟨⟨clsX_ok h1, h2, h3, h4, h5⟩, h6, h7, h8, h9, askX_ok h10, gC, fn, bd⟩
theorem ok_err {P : Program} {w : World} {K : PySem.W.Frag} {mg : Str → Option Value} {base : Heap} {st : Stmt} {q f : Str} {g : Addr} {fd : FuncData} {ti : TS} (F : Fun K "__init__" q st g fd) (S : FnScope ["self", f] ["self", f] (defScope st))
    (hb : ∀ (X : Cx), X.N = [("self" : Str), f] → X.env.scope = defScope st → PSs X (defBody st) (tOst X.K f (tVar 0) (tVar 1))) : FnOk P w K mg base CX0 1 g fd [("self" : Str), f] (WT.spErrI K f) := by
  refine F.ok S (fun vs H Q E h => ?_) (fun cdv A outer s H vs Q E hr h => ?_)
  · obtain ⟨a, C, y, rfl, _⟩ := h
    rfl
  · obtain ⟨a, C, y, rfl, e, T, hf, k⟩ := h
    exact ⟨_, (hb _ rfl rfl), _, rfl, _, rfl, a, C, rfl, T, hf, .inl ⟨e, k⟩⟩
end WH
end

section
set_option Elab.async false
set_option linter.all false
set_option maxRecDepth 100000
set_option maxHeartbeats 4000000
/-! calls with keywords alone; a law's body told its code -/
namespace WL
open PySem PySem.Spec PyProof.Rows L2 WG
section
variable {X : Cx} {CX : CXT} {k : Nat} {f : Addr} {fd : FuncData} {ps ks : List Str} {sp : Sp} {E : XK} {x : Str} {p pos : Pos} {kws : List Keyword} {tk : TA} {g : List Value → List Value → List Value} {gV : List V → List V → List V}
/-- f(k = v, ..) -/
theorem pe_callK0 (F : FnOk X.prog X.w X.K X.mg X.base CX k f fd ps sp) (hr : Room k X.A) (hg : Gl X x) (hm : X.mg x = some (.ref f)) (hk : PySem.W.keepIn X.K (.ref f) = true) (hb : KBinds X.K fd ps ks g gV) (hx : Passes CX X E)
    (hkw : PK X kws tk) (hall : (backToKw pos (keywordEach kws X.env)).all (·.1.isSome) = true := by rfl) (hks : (backToKw pos (keywordEach kws X.env)).filterMap (·.1) = ks := by rfl)
    (hdb : (x == ("__debug__" : Str)) = false := by decide)
    (hpl : ((backTo pos (starEach [] X.env)).any (·.1) || (backToKw pos (keywordEach kws X.env)).any (·.1.isNone)) = false := by rfl) :
    PE X (.Call (.Name x p) [] kws pos) (tCallK sp gV E tNil tk) := by
  refine ⟨fun pins s σ H Q I h => ?_⟩
  refine wpAny_Call_Name_kw (ld_glob I hg hm ?_ hdb)
  refine PySem.W.callWith_KW0 (h₀ := X.base) I.ok.mod.kin hk hall ?_ hpl
  refine thn (hkw.run pos pins s σ H _ I h) fun ws s2 ⟨zs, H2, I2, rz, q2⟩ => ⟨I2.kIn, ?_⟩
  rw [hks]
  exact run_fnk (us := []) (vs := []) F hr hb hx I2 .nil rz q2
theorem kb1 {K : PySem.W.Frag} {x qual y : Str} {st : Stmt} {f : Addr} {fd : FuncData} (F : Fun K x qual st f fd)
    (h0 : ∀ (kV doc pm : Value) (an : Option Addr) (cdv ct v : Value), bindArgs (PySem.W.fnOf x qual (defArgs st) (defBody st) (defScope st) .none kV doc pm an cdv ct) ⟨[v], []⟩ = pure [(y, v)])
    (h1 : ∀ (kV doc pm : Value) (an : Option Addr) (cdv ct v : Value), bindArgs (PySem.W.fnOf x qual (defArgs st) (defBody st) (defScope st) .none kV doc pm an cdv ct) ⟨[], [(y, v)]⟩ = pure [(y, v)]) :
    KBinds K fd [y] [y] (fun us ws => us ++ ws) (fun vs zs => vs ++ zs) := by
  obtain ⟨oc, od, kV, doc, pm, an, cdv, ct, osl, rfl, lk, hcd⟩ := F.ex
  refine ⟨fun s us ws _ hl => ?_, fun r rz => r.append rz⟩
  match us, ws, hl with
  | [v], [], _ => exact .of_eq (h0 _ _ _ _ _ _ v)
  | [], [v], _ => exact .of_eq (h1 _ _ _ _ _ _ v)
end
section
variable {P : Program} {w : World} {K : PySem.W.Frag} {mg : Str → Option Value} {base : Heap} {CX : CXT}
variable {k : Nat} {f : Addr} {fd : FuncData} {ps : List Str} {sp : Sp}
/-- as okG, the body told which code object is its own -/
theorem okC {x qual : Str} {st : Stmt} {N : List Str} {c : Addr} (F : Fun K x qual st f fd) (hc : fd.code = .ref c) (S : FnScope N ps (defScope st))
    (len : ∀ vs H Q E, sp vs H Q E → vs.length = ps.length)
    (body : ∀ (A : Around) (outer : List Env) (s : Shared) (H : Hp) (vs : List V) (Q : VK) (E : XK),
      Room k (A.deeper (envOfC qual (defScope st) s.heap.objs.size f (.ref c))) →
      (A.deeper (envOfC qual (defScope st) s.heap.objs.size f (.ref c))).guards = some [] → sp vs H Q E →
      ∃ t, PSs (cxOf CX P w K mg base N qual (defScope st) f (.ref c) A outer s H E).nox (defBody st) t ∧
        t { nx := fun _ H' => Q .non H', rt := Q } (start N vs) H) :
    FnG P w K mg base CX (k + 1) f fd ps sp := by
  obtain ⟨oc, od, kV, doc, pm, an, cdv, ct, osl, rfl, lk, hcd⟩ := F.ex
  cases (show cdv = Value.ref c from hc)
  refine ⟨len, fun A outer s H args us vs Q E hr hga e0 hb r hsp => ?_⟩
  have hl := len _ _ _ _ hsp
  have KX : K.In s.heap := e0.mod.kin.keeps
    fun b o e => (e0.bs b o e).1
  have lim : s.heap.NoLimit := e0.mod.nolimit.keeps
    fun b o e => (e0.bs b o e).1
  have hkind : ∀ y ∈ ps.zip us, (defScope st).names.lookup y.1 = some .local ∨
      ((defScope st).names.lookup y.1 = some .cell ∧
        ((cellsFrom (s.heap.objs.size + 1) (defScope st).names []).lookup y.1).isSome = true) := by
    rintro ⟨n, v⟩ hy
    rcases S.par n (List.of_mem_zip hy).1 with q | q
    · exact .inl q
    · exact .inr ⟨q, PySem.W.cellsFrom_some _ _ _ (.inl q)⟩
  refine codeAny_call_function hr.depth (KX _ _ lk) rfl S.co S.gen rfl
    (PySem.W.codeRec_of KX hcd) (hb _ _ _ _ ?_)
  refine wpAny_newFunctionEnv_cells S.kind hkind
    fun env he s1 x => ?_
  subst he
  refine ⟨lim.keeps x.toInCall.keep,
    codeAny_func ?_⟩
  obtain ⟨t, ht, hq⟩ := body A outer s H vs Q E (hr.deeper _) hga hsp
  have I := inv_start (CX := CX) (E := E) S hr.hd e0 hl r x
  refine wpAny_mono (ht.nox.run [] s1 (start N vs) H _ I hq)
    (fun fl s' hs => ?_) fun e s' hs => hs
  have fin : ∀ {σ' : L2.St} {H' : Hp} {v : V} {u : Value},
      Inv (cxOf CX P w K mg base N qual (defScope st) f (.ref c) A outer s H E) [] σ' H' s' →
      RelV v u → Q v H' → CE outer P w H s Q u s' :=
    fun J rv q => ⟨_, _, J.os, J.bare, J.base, J.hok, rv, q⟩
  cases fl with
  | ret u =>
    obtain ⟨v, σ', H', J, rv, q⟩ := hs
    exact fin J rv q
  | next =>
    obtain ⟨σ', H', J, q⟩ := hs
    exact fin (v := V.non) (u := Value.none) J rfl q
  | brk =>
    obtain ⟨_, _, _, q⟩ := hs
    exact False.elim q
  | cont =>
    obtain ⟨_, _, _, q⟩ := hs
    exact False.elim q
end
end WL
end

section
set_option Elab.async false
set_option linter.all false
set_option maxRecDepth 100000
set_option maxHeartbeats 4000000
/-! lambdas as values: made, kept in lists, handed by a name -/
namespace WV
open PySem PySem.Spec PyProof.Rows L2 LamX WT
/-- the lambda at f -/
def LamO (f : Addr) (q : Str) (pr : Arguments) (bd : Expr) (sc : Scope) (cl : List (Str × Addr)) (c : Addr) : HO :=
  .ext fun h => ∃ pm ctv : Value, h.get? f = some (PySem.W.kla_obj "<lambda>" q pr bd sc cl pm c ctv)
theorem lamO_ne {f c : Addr} {q : Str} {pr : Arguments} {bd : Expr} {sc : Scope} {cl : List (Str × Addr)} (ps : Array Value) : LamO f q pr bd sc cl c ≠ .tbl ps := fun z => by
  unfold LamO at z
  cases z
section
variable {X : Cx} {pins : List (Addr × Obj)} {σ : L2.St} {H : Hp} {s : Shared}
theorem lam_known {q : Str} {pr : Arguments} {bd : Expr} {sc : Scope} {cl : List (Str × Addr)} {c : Addr} {pm ctv : Value} {t' : Nat} (I : Inv X pins σ H s) :
    Inv X pins σ (upd H s.heap.objs.size (LamO s.heap.objs.size q pr bd sc cl c)) { s with heap := s.heap.push (PySem.W.kla_obj "<lambda>" q pr bd sc cl pm c ctv), toks := t' } := by
  refine I.laid (a := s.heap.objs.size) (fun b u e => Heap.get?_push_of_some _ e) (Nat.le_refl _) ?_
  have e : (s.heap.push (PySem.W.kla_obj "<lambda>" q pr bd sc cl pm c ctv)).get? s.heap.objs.size = some (PySem.W.kla_obj "<lambda>" q pr bd sc cl pm c ctv) := Heap.get?_push_size _ rfl
  exact ⟨⟨pm, ctv, e⟩, ⟨_, e⟩, fun h1 h2 ⟨p, t, z⟩ st => ⟨p, t, st _ z⟩⟩
/-- the tables behind a new code object of the name q in the table P -/
theorem tabs_more {T : List (Addr × Str)} {P c : Addr} {q : Str} {ps : Array Value} {pos : Pos} (hT : Tabs T H) (hP : H P = some (.tbl ps)) (ht : TriplesOk ps.toList) (hc : H c = none) (hu : ∀ p ∈ T, p.1 = P → p.2 = q)
    (ha : ∀ (pos : Pos) (cv : Value), codeAmong pos ps.toList = some cv → ∃ c, cv = .ref c ∧ H c = some (CodeO c q)) :
    ExtN H (upd (upd H P (.tbl (ps ++ #[rawInt pos.line, rawInt pos.col, .ref c]))) c (CodeO c q)) ∧ Tabs T (upd (upd H P (.tbl (ps ++ #[rawInt pos.line, rawInt pos.col, .ref c]))) c (CodeO c q)) := by
  have nPc : P ≠ c := ne_of_none hP hc
  have up : ∀ (b : Addr) (o : HO), H b = some o → b ≠ P → upd (upd H P (.tbl (ps ++ #[rawInt pos.line, rawInt pos.col, .ref c]))) c (CodeO c q) b = some o := by
    intro b o e nb
    rw [upd_ne (ne_of_none e hc), upd_ne nb]
    exact e
  have notP : ∀ (b : Addr) (o : HO), H b = some o → (∀ r, o ≠ .tbl r) → b ≠ P := by
    intro b o e n z
    subst z
    rw [hP] at e
    exact n _ (Option.some.inj e).symm
  refine ⟨fun b o e n => up b o e (notP b o e n), fun p hp => ?_⟩
  by_cases hb : p.1 = P
  · rw [hb, hu p hp hb]
    have eL : (ps ++ #[rawInt pos.line, rawInt pos.col, .ref c]).toList = ps.toList ++ [rawInt pos.line, rawInt pos.col, .ref c] := by simp
    refine ⟨_, by rw [upd_ne nPc, upd_same], ?_, ?_⟩
    · rw [eL]
      exact PySem.TriplesOk_snoc _ _ _ _ ht
    · intro p' cv hcv
      rw [eL] at hcv
      rcases among_app _ ht hcv with z | z
      · obtain ⟨c0, e1, e2⟩ := ha p' cv z
        exact ⟨c0, e1, up _ _ e2 (notP _ _ e2 codeO_ne)⟩
      · exact ⟨c, z, upd_same⟩
  · obtain ⟨r, a1, a2, a3⟩ := hT p hp
    refine ⟨r, up _ _ a1 hb, a2, ?_⟩
    intro p' cv hcv
    obtain ⟨c0, e1, e2⟩ := a3 p' cv hcv
    exact ⟨c0, e1, up _ _ e2 (notP _ _ e2 codeO_ne)⟩
end
/-- the reading of a lambda as a value -/
def tLamV (T : List (Addr × Str)) (q : Str) (pr : Arguments) (bd : Expr) (sc : Scope) (cl : List (Str × Addr)) : TE := fun _ H Q => Tabs T H ∧ ∀ (f c : Addr) (H1 : Hp), ExtN H H1 → Tabs T H1 → H1 f = none → H1 c = some (CodeO c q) → Q (.ref f) (upd H1 f (LamO f q pr bd sc cl c))
section
variable {X : Cx}
theorem pe_lamV {T : List (Addr × Str)} {c P : Addr} {pr : Arguments} {bd : Expr} {sc : Scope} {pos : Pos} (TB : TabB X.base X.mg c P) (hcode : X.env.code = .ref c) (hm : (P, X.env.qual ++ "<lambda>") ∈ T) (hu : ∀ p ∈ T, p.1 = P → p.2 = X.env.qual ++ "<lambda>")
    (hdef : defaultsOf pr X.env = ([], [])) (L : LamS X.env.scope sc) : PE X (.Lambda pr bd sc pos) (tLamV T (X.env.qual ++ "<lambda>") pr bd sc (cloFrom X.env.cells sc.names [])) := by
  refine ⟨fun pins s σ H Q I h => ?_⟩
  obtain ⟨hT, h⟩ := h
  obtain ⟨ps, hP, ht, ha⟩ := hT _ hm
  have bP := TB.bm.keeps I.bk
  have hP' : s.heap.get? P = some { cls := .none, data := .fields ps } := I.hok P _ hP
  refine PySem.W.kla_eval hdef ?_
  cases hc : codeAmong pos ps.toList with
  | none =>
    refine PySem.W.kla_makeFunction (mg := X.mg) (c := c) (P := P) (ps := ps) (closure_ok (L.has I.ok)) I.ok.glob (I.mod.glob.keeps I.bk) hcode (TB.code.keeps I.bk) hP' ht hc TB.gP bP ?_
    intro c' ctv h' tk hx hge hlt hrec htb
    obtain ⟨c2, oc, vs, t, e2, hoc, hd, hv⟩ := hrec
    cases e2
    have nC : H c' = none := I.hok.fresh hge
    obtain ⟨x1, x2⟩ := tabs_more (pos := pos) hT hP ht nC hu ha
    have I0 := inv_table (q := X.env.qual ++ "<lambda>") (t' := tk) (more := #[rawInt pos.line, rawInt pos.col, .ref c']) I hP (fun b o hb e => hx b o hb e) htb hge ⟨oc, vs, t, hoc, hd, hv⟩
    have fr : (upd (upd H P (.tbl (ps ++ #[rawInt pos.line, rawInt pos.col, .ref c']))) c' (CodeO c' (X.env.qual ++ "<lambda>"))) h'.objs.size = none := I0.hok.fresh (Nat.le_refl _)
    exact ⟨.ref h'.objs.size, _, lam_known (t' := tk) (pm := (X.mg "__name__").getD .none) (ctv := ctv) I0, rfl, h h'.objs.size c' _ x1 x2 fr upd_same⟩
  | some cv =>
    obtain ⟨c', e, hco⟩ := ha pos cv hc
    subst e
    refine PySem.W.kla_makeFunctionHit (mg := X.mg) (c := c) (P := P) (ps := ps) (closure_ok (L.has I.ok)) I.ok.glob (I.mod.glob.keeps I.bk) hcode (TB.code.keeps I.bk) hP' ht hc bP ?_
    intro ctv h' tk hx hsz
    have I0 : Inv X pins σ H { s with heap := h', toks := tk } := I.kept hx
    exact ⟨.ref h'.objs.size, _, lam_known (t' := tk) (pm := (X.mg "__name__").getD .none) (ctv := ctv) I0, rfl, h h'.objs.size c' _ (ExtN.refl H) hT (I0.hok.fresh (Nat.le_refl _)) hco⟩
/-! ### handed by a name -/
/-- what the def that calls it does, the lambda told too -/
def GivesV (X : Cx) (Ng : List Str) (x : Str) (sg : Scope) (g : Addr) (cdg : Value) (bg : List Stmt) (a : Str) (q : Str) (L : Addr → Addr → HO) (TT : (XK → Hp → VK → Prop) → Hp → VK → Prop) : Prop :=
  ∀ (f c' : Addr) (s : Shared) (H : Hp) (Q : VK) (tl : XK → Hp → VK → Prop),
    (∀ (W : WX) (pn : List (Addr × Obj)) (xe : Value → Shared → Prop) (E : XK) (p1 p2 : Pos), Takes ((cxOf C8.CX0 X.prog X.w X.K X.mg X.base Ng x sg g cdg X.A X.stack s H C8.E0).tr pn xe) W → (∀ cls d σ' H', E cls d H' → W cls d σ' H') →
      PE ((cxOf C8.CX0 X.prog X.w X.K X.mg X.base Ng x sg g cdg X.A X.stack s H C8.E0).tr pn xe) (.Call (.Name a p1) [] [] p2) (fun σZ HZ Q => σZ[0]? = some (some (.ref f)) ∧ HZ f = some (L f c') ∧ HZ c' = some (CodeO c' q) ∧ tl E HZ Q)) →
    H f = some (L f c') → H c' = some (CodeO c' q) → TT tl H Q →
    ∃ t, PSs (cxOf C8.CX0 X.prog X.w X.K X.mg X.base Ng x sg g cdg X.A X.stack s H C8.E0).nox bg t ∧ t { nx := fun _ H' => Q .non H', rt := Q } (L2.start Ng [.ref f]) H
theorem caught_givesV {q : Str} {sg : Scope} {g W : Addr} {cdg : Value} {L : Addr → Addr → HO} {j1 : Nat} {p1 p2 p3 p4 p5 p6 p7 p8 p9 p10 p11 p12 p13 p14 : Pos}
    (hge : sg.names.lookup ("WaitError" : Str) = some .globalImplicit) (hme : X.mg "WaitError" = some (.ref W)) (hl0 : sg.names.lookup ("work" : Str) = some .local) (hl1 : sg.names.lookup ("caught" : Str) = some .local) (hl2 : sg.names.lookup ("error" : Str) = some .local) :
    GivesV X nCaught "_law_caught" sg g cdg [.Assign [.Name "caught" p1] (.Constant .none j1 p2) p3,
      .Try [.Expr (.Call (.Name "work" p4) [] [] p5) p6] [.ExceptHandler (some (.Name "WaitError" p7)) (some "error") [.Assign [.Name "caught" p8] (.Name "error" p9) p10] p11] [] [] p12,
      .Return (some (.Name "caught" p13)) p14] "work" q L (TTc X.K W) := by
  intro f c' s H Q tl act hf hc h
  have nd : nCaught.Nodup := by decide +kernel
  refine ⟨_, pss_cons (ps_set (i := 1) nd rfl (Or.inl hl1) pe_non)
    (pss_cons (ps_try_err (X := (cxOf C8.CX0 X.prog X.w X.K X.mg X.base nCaught "_law_caught" sg g cdg X.A X.stack s H C8.E0).nox) (c := .ref W) (i := 2)
        (tb := fun W' D σ H => ∃ Ech : XK, (∀ cls d σ' H', Ech cls d H' → W' cls d σ' H') ∧ σ[0]? = some (some (.ref f)) ∧ H f = some (L f c') ∧ H c' = some (LamX.CodeO c' q) ∧ tl Ech H (fun _ H' => D.nx σ H'))
        rfl rfl rfl nd rfl hl2 ⟨hge, by decide, .inl hme⟩ (fun W' pn xe tk => ?_) (fun a pn => pss_one (ps_set (i := 1) nd rfl (Or.inl hl1) (pe_var (i := 2) rfl (Or.inl hl2)))))
    (pss_one (ps_ret (pe_var (i := 1) rfl (Or.inl hl1))))), ?_⟩
  · refine ⟨fun pins s' σ H' D I h' => ?_⟩
    obtain ⟨Ech, hW, h1, h0, h2, h3⟩ := h'
    exact (pss_one (ps_expr (pos := p6) (act W' pn xe Ech p4 p5 tk hW))).run pins s' σ H' D I ⟨h1, h0, h2, h3⟩
  · refine ⟨_, fun cls d σ' H' h' => ?_, rfl, hf, hc, h⟩
    obtain ⟨e1, e2⟩ := h'
    refine ⟨e1, fun hl a ha => ?_⟩
    match σ', hl with
    | [x0, x1, x2], _ => exact ⟨.ref a, rfl, .ref a, rfl, e2 a ha⟩
/-- a(), a lambda that is told by the heap -/
theorem pe_actV {CXg : CXT} {Eg : XK} {Ng : List Str} {qg : Str} {sg : Scope} {g f c' : Addr} {cdg : Value} {pr : Arguments} {bd : Expr} {sc : Scope} {k i : Nat} {a : Str} {pn : List (Addr × Obj)} {xe : Value → Shared → Prop} {W : WX} {E : XK} {tb : TE} {p1 p2 : Pos}
    {pins : List (Addr × Obj)} {σ : L2.St} {H : Hp} {s : Shared} (I : Inv X pins σ H s) (L : LamS X.env.scope sc)
    (hbind : ∀ (q : Str) (cl : List (Str × Addr)) (pm cv ctv : Value), bindArgs (PySem.W.kla_fn "<lambda>" q pr bd sc cl pm cv ctv) ⟨[], []⟩ = pure [])
    (tk : Takes ((cxOf CXg X.prog X.w X.K X.mg X.base Ng qg sg g cdg X.A X.stack s H Eg).tr pn xe) W) (hW : ∀ cls d σ' H', E cls d H' → W cls d σ' H') (hr : Room (k + 1) (X.A.deeper (envOfC qg sg s.heap.objs.size g cdg)))
    (hbody : ∀ (A : Around) (outer : List Env) (s : Shared) (H : Hp), Room k (A.deeper (lamEnv X sc s.heap.objs.size f c')) → PE (lamCx X A outer s H E sc f c') bd tb)
    (hN : Ng[i]? = some a) (hv : Vis sg a) (hd : (a == ("__debug__" : Str)) = false := by decide) (hcd : (a == ("__classdict__" : Str)) = false := by decide) :
    PE ((cxOf CXg X.prog X.w X.K X.mg X.base Ng qg sg g cdg X.A X.stack s H Eg).tr pn xe) (.Call (.Name a p1) [] [] p2)
      (fun σZ HZ Q => σZ[i]? = some (some (.ref f)) ∧ HZ f = some (LamO f (X.env.qual ++ "<lambda>") pr bd sc (cloFrom X.env.cells sc.names []) c') ∧ HZ c' = some (CodeO c' (X.env.qual ++ "<lambda>")) ∧ tb σ HZ Q) := by
  refine ⟨fun pinsZ sZ σZ HZ Q IZ h => ?_⟩
  obtain ⟨hs, hf, hc, ht⟩ := h
  refine wpAny_Call_Name_kw (thn ((pe_var (pos := p1) (i := i) hN hv hd hcd).run pinsZ sZ σZ HZ (fun v H1 => v = .ref f ∧ H1 = HZ) IZ ⟨.ref f, hs, rfl, rfl⟩) ?_)
  rintro u s1 ⟨v, H1, I1, r1, rfl, rfl⟩
  obtain rfl : u = Value.ref f := r1
  obtain ⟨⟨pm, ctv, of1⟩, _, _⟩ := I1.hok f _ hf
  refine PySem.W.callWith_F0 ⟨_, _, _, _, of1⟩ ?_
  have un : Un (frs X.stack) [] H H1 s.heap s1.heap := I1.base
  obtain ⟨⟨oc, vs, t, hoc, hdc, hvc⟩, _, _⟩ := I1.hok c' _ hc
  have rc : codeAny (model X.prog X.w) (X.A.deeper (envOfC qg sg s.heap.objs.size g cdg)) (.call (.ref f) ⟨[], []⟩) (CR (L2.CX X.prog X.w) (envOfC qg sg s.heap.objs.size g cdg :: X.stack) X.prog X.w H1 s1 Q E) s1 := by
    refine PySem.W.kla_callFunE hr.depth of1 rfl L.co L.gen rfl ⟨c', oc, vs, t, rfl, hoc, hdc, hvc⟩ ?_
    rw [hbind]
    refine wpAny_pure (wpAny_newFunctionEnv (fun y hy => (L.own y hy).2) (fun y hy => absurd hy (by simp)) ?_ L.kind)
    intro h₁ hns hsb
    refine ⟨I1.nolimit.fresh _ hsb, ?_⟩
    have kp : ∀ b o, s1.heap.get? b = some o → h₁.get? b = some o := by
      intro b o e
      exact hsb.extBut b o (Nat.ne_of_lt (Heap.lt_size e)) (Heap.get?_push_of_some _ e)
    have J := lam_start2 (E := E) (f := f) (c' := c') (tk := s1.toks + ([] : List (Str × Value)).length) I L I1.env0 hr.hd un hns kp
    refine PySem.W.kla_codeExpr (wpAny_mono ((hbody _ _ s1 H1 (hr.deeper _)).run [] _ _ H1 Q J ht) ?_ fun e s' hq => hq)
    rintro v s' ⟨w', H', J', rv, q⟩
    exact ⟨w', H', J'.os, J'.bare, J'.base, J'.hok, rv, q⟩
  have hx := passes_call tk hW
  refine wpAny_call (codeAny_mono rc ?_)
  intro r s' hq
  cases r with
  | error e => exact hx pinsZ σZ H1 s1 e s' I1 hq
  | ok fl =>
    cases fl with
    | ret u => exact I1.after hq
    | next => exact False.elim hq
    | brk => exact False.elim hq
    | cont => exact False.elim hq
def tHand (ta : TA) (TT : (XK → Hp → VK → Prop) → Hp → VK → Prop) (q : Str) (L : Addr → Addr → HO) (t : XK → TE) : TE := fun σ H Q => ta σ H fun vs H1 => ∃ f c : Addr, vs = [.ref f] ∧ H1 f = some (L f c) ∧ H1 c = some (CodeO c q) ∧ TT (fun E H' Q' => t E σ H' Q') H1 Q
/-- x(e), e a lambda that is told by the heap -/
theorem pe_hand {TT : (XK → Hp → VK → Prop) → Hp → VK → Prop} {x a : Str} {g : Addr} {k : Nat} {pg : Arguments} {bg : List Stmt} {sg : Scope} {dV kV doc pm cdv ct oc : Value} {an od : Option Addr} {osl : Array (Option Value)} {Ng : List Str}
    {pr : Arguments} {bd e : Expr} {sc : Scope} {t : XK → TE} {ta : TA} {p pos : Pos} (hg : Gl X x) (hm : X.mg x = some (.ref g)) (hk : PySem.W.keepIn X.K (.ref g) = true)
    (lk : X.K.lookup g = some ⟨oc, od, .func (PySem.W.fnOf x x pg bg sg dV kV doc pm an cdv ct), osl⟩) (hcg : PySem.W.codeIn X.K cdv x = true) (hb : L2.Binds X.K (PySem.W.fnOf x x pg bg sg dV kV doc pm an cdv ct) [a] []) (Sg : FnScope Ng [a] sg) (hNg : Ng[0]? = some a) (hva : Vis sg a)
    (hG : GivesV X Ng x sg g cdv bg a (X.env.qual ++ "<lambda>") (fun f c => LamO f (X.env.qual ++ "<lambda>") pr bd sc (cloFrom X.env.cells sc.names []) c) TT)
    (ha : PA X [e] ta) (hr : Room (k + 2) X.A) (L : LamS X.env.scope sc)
    (hbind : ∀ (q : Str) (cl : List (Str × Addr)) (pm cv ctv : Value), bindArgs (PySem.W.kla_fn "<lambda>" q pr bd sc cl pm cv ctv) ⟨[], []⟩ = pure [])
    (hbody : ∀ (A : Around) (outer : List Env) (s : Shared) (H : Hp) (E : XK) (f c' : Addr), Room k (A.deeper (lamEnv X sc s.heap.objs.size f c')) → PE (lamCx X A outer s H E sc f c') bd (t E))
    (hdb : (x == ("__debug__" : Str)) = false := by decide) (hd : (a == ("__debug__" : Str)) = false := by decide) (hcd : (a == ("__classdict__" : Str)) = false := by decide)
    (he : starEach [e] X.env = (false, eval e X.env) :: starEach [] X.env := by rfl) (hpl : (backTo pos (starEach [] X.env)).any (·.1) = false := by rfl) :
    PE X (.Call (.Name x p) [e] [] pos) (tHand ta TT (X.env.qual ++ "<lambda>") (fun f c => LamO f (X.env.qual ++ "<lambda>") pr bd sc (cloFrom X.env.cells sc.names []) c) t) := by
  refine ⟨fun pins s σ H Q I h => ?_⟩
  refine wpAny_Call_Name_kw (ld_glob I hg hm ?_ hdb)
  refine PySem.W.callWith_K (h₀ := X.base) I.ok.mod.kin hk (thn (ha.run pos pins s σ H _ I h) ?_) he hpl
  rintro us s1 ⟨vs, H1, I1, r, f, c', rfl, hf, hco, hq⟩
  refine ⟨I1.kIn, ?_⟩
  obtain ⟨u, rfl, ru⟩ := vals1 r
  obtain rfl : u = Value.ref f := ru
  have rc : codeAny (model X.prog X.w) X.A (.call (.ref g) ⟨[.ref f], []⟩) (CR C8.CX0 X.stack X.prog X.w H1 s1 Q C8.E0) s1 := by
    refine run_ofS (N := Ng) (ps := [a]) (us := [.ref f]) (vs := [.ref f]) lk hcg Sg hr I1.env0 (hb s1 [.ref f] I1.kIn rfl) (.cons rfl .nil) rfl ?_
    intro hr'
    obtain ⟨t', ht', hq'⟩ := hG f c' s1 H1 Q (fun E H' Q' => t E σ H' Q') (fun W pn xe E p1 p2 tk hW => pe_actV (i := 0) I1 L hbind tk hW hr' (fun A outer s H hr2 => hbody A outer s H E f c' hr2) hNg hva hd hcd) hf hco hq
    exact ⟨t', ht'.nox, hq'⟩
  refine wpAny_call (codeAny_mono rc ?_)
  intro r s2 hq
  cases r with
  | error e => exact (show False from hq).elim
  | ok fl =>
    cases fl with
    | ret u => exact I1.after hq
    | next => exact False.elim hq
    | brk => exact False.elim hq
    | cont => exact False.elim hq
theorem pe_either {e : Expr} {t u : TE} (h1 : PE X e t) (h2 : PE X e u) : PE X e (fun σ H Q => t σ H Q ∨ u σ H Q) := by
  refine ⟨fun pins s σ H Q I h => ?_⟩
  rcases h with h | h
  · exact h1.run pins s σ H Q I h
  · exact h2.run pins s σ H Q I h
/-! ### texts of numbers and None -/
def textV : V → Str
  | .int i => toString i
  | _ => "None"
def rReprV : List V → Hp → VK → Prop := fun xs H Q => ∃ v, xs = [v] ∧ (v = .non ∨ ∃ i : Int, v = .int i ∧ i.natAbs.log2 < 1920) ∧ Q (.str (textV v)) H
theorem call_reprV : CallR X (.builtin "repr") rReprV := by
  intro pins s σ H xs us Q I r h
  obtain ⟨v, rfl, h, q⟩ := h
  rcases h with rfl | ⟨i, rfl, hi⟩
  · obtain ⟨u, rfl, ru⟩ := vals1 r
    obtain rfl : u = Value.none := ru
    exact PySem.P.repr_of_none ⟨.str _, H, I.tok _, ⟨_, rfl⟩, q⟩
  · exact SkE.call_repr_int pins s σ H _ us Q I r ⟨i, rfl, hi, q⟩
end
end WV
end

section
set_option Elab.async false
set_option linter.all false
set_option maxRecDepth 100000
set_option maxHeartbeats 4000000
/-! a def that is called by its name, in one word -/
namespace WC
open PySem PySem.Spec PyProof.Rows L2
structure Cal (P : Program) (w : World) (K : PySem.W.Frag) (mg : Str → Option Value) (base : Heap) (CX : CXT) (k : Nat) (x : Str) (ps : List Str) (sp : Sp) : Prop where
  ex : ∃ f fd, FnOk P w K mg base CX k f fd ps sp ∧ PySem.W.keepIn K (.ref f) = true ∧ Binds K fd ps [] ∧ mg x = some (.ref f)
/-- .. by keywords alone -/
structure CalK (P : Program) (w : World) (K : PySem.W.Frag) (mg : Str → Option Value) (base : Heap) (CX : CXT) (k : Nat) (x : Str) (ps ks : List Str) (g : List Value → List Value → List Value) (gV : List V → List V → List V) (sp : Sp) : Prop where
  ex : ∃ f fd, FnOk P w K mg base CX k f fd ps sp ∧ PySem.W.keepIn K (.ref f) = true ∧ KBinds K fd ps ks g gV ∧ mg x = some (.ref f)
/-- .. under no guard -/
structure CalG (P : Program) (w : World) (K : PySem.W.Frag) (mg : Str → Option Value) (base : Heap) (CX : CXT) (k : Nat) (x : Str) (ps : List Str) (sp : Sp) : Prop where
  ex : ∃ f fd, WG.FnG P w K mg base CX k f fd ps sp ∧ PySem.W.keepIn K (.ref f) = true ∧ Binds K fd ps [] ∧ mg x = some (.ref f)
section
variable {X : Cx} {CX : CXT} {k : Nat} {ps ks : List Str} {sp : Sp} {x : Str} {p pos : Pos} {e : Expr} {es : List Expr} {t tk : TA} {E : XK} {kws : List Keyword} {g : List Value → List Value → List Value} {gV : List V → List V → List V}
theorem pe_callC (c : Cal X.prog X.w X.K X.mg X.base CX k x ps sp) (hr : Room k X.A) (hg : Gl X x) (hx : Passes CX X E)
    (ha : PA X (e :: es) t) (hdb : (x == ("__debug__" : Str)) = false := by decide) (he : starEach (e :: es) X.env = (false, eval e X.env) :: starEach es X.env := by rfl) (hpl : (backTo pos (starEach es X.env)).any (·.1) = false := by rfl) :
    PE X (.Call (.Name x p) (e :: es) [] pos) (tCall sp [] E t) := by
  obtain ⟨f, fd, G, kp, b, m⟩ := c.ex
  exact pe_call G hr hg m kp b .nil hx ha hdb he hpl
theorem pe_callC0 (c : Cal X.prog X.w X.K X.mg X.base CX k x ps sp) (hr : Room k X.A) (hg : Gl X x) (hx : Passes CX X E) (hdb : (x == ("__debug__" : Str)) = false := by decide) :
    PE X (.Call (.Name x p) [] [] pos) (tCall sp [] E tNil) := by
  obtain ⟨f, fd, G, kp, b, m⟩ := c.ex
  exact pe_call0 G hr hg m kp b .nil hx hdb
theorem pe_callKC (c : CalK X.prog X.w X.K X.mg X.base CX k x ps ks g gV sp) (hr : Room k X.A) (hg : Gl X x) (hx : Passes CX X E)
    (hkw : PK X kws tk) (hall : (backToKw pos (keywordEach kws X.env)).all (·.1.isSome) = true := by rfl) (hks : (backToKw pos (keywordEach kws X.env)).filterMap (·.1) = ks := by rfl)
    (hdb : (x == ("__debug__" : Str)) = false := by decide)
    (hpl : ((backTo pos (starEach [] X.env)).any (·.1) || (backToKw pos (keywordEach kws X.env)).any (·.1.isNone)) = false := by rfl) :
    PE X (.Call (.Name x p) [] kws pos) (tCallK sp gV E tNil tk) := by
  obtain ⟨f, fd, G, kp, b, m⟩ := c.ex
  exact WL.pe_callK0 G hr hg m kp b hx hkw hall hks hdb hpl
theorem pe_callCG (c : CalG X.prog X.w X.K X.mg X.base CX k x ps sp) (hgu : X.A.guards = some []) (hr : Room k X.A) (hg : Gl X x) (hx : Passes CX X E)
    (ha : PA X (e :: es) t) (hdb : (x == ("__debug__" : Str)) = false := by decide) (he : starEach (e :: es) X.env = (false, eval e X.env) :: starEach es X.env := by rfl) (hpl : (backTo pos (starEach es X.env)).any (·.1) = false := by rfl) :
    PE X (.Call (.Name x p) (e :: es) [] pos) (tCall sp [] E t) := by
  obtain ⟨f, fd, G, kp, b, m⟩ := c.ex
  exact WG.pe_callG G hgu hr hg m kp b .nil hx ha hdb he hpl
end
end WC
end

section
set_option Elab.async false
set_option linter.all false
set_option maxRecDepth 100000
set_option maxHeartbeats 4000000
/-! math.lcm; lists made with a test -/
namespace LM
open PySem PySem.Spec PyProof.Rows L2
section
variable {X : Cx}
def rLcm : List V → Hp → VK → Prop := fun vs H Q => ∃ a b : Nat, vs = [.int a, .int b] ∧ a < 2 ^ 60 ∧ b < 2 ^ 60 ∧ Q (.int ((Nat.lcm a b : Nat) : Int)) H
theorem cr_lcm : CallR X (.builtin "math.lcm") rLcm := by
  intro pins s σ H vs us Q I r h
  obtain ⟨a, b, rfl, ha, hb, q⟩ := h
  obtain ⟨t, u, rfl⟩ := Vals.int2 r
  refine PySem.W.mc_lcm (by rw [Int.natAbs_natCast]; omega) (by rw [Int.natAbs_natCast]; omega) fun _ => ⟨.int _, H, I.tok _, ⟨_, rfl⟩, ?_⟩
  rw [Int.natAbs_natCast, Int.natAbs_natCast]
  exact q
end
section
variable {J : It} {n : Nat} {G : Hp → Prop} {Y : Nat → Hp → V → Hp → Prop}
/-- [e for .. in .. if t]: t of i is p i, each item F i -/
theorem lcF (w : Walk J n G Y) {g : TG} {tt : TT} {te : TE} {vs : List Nat} {σ : L2.St} {H1 : Hp} {D : Addr} {Qd : Hp → Prop} (p : Nat → Bool) (F : Nat → V) (hD : H1 D = none) (hn : n ≤ 200000) (hG : ∀ H, Same H1 H → G H)
    (hs : ∀ i x H H', i < n → Same H1 H → Y i H x H' → ∀ (R : V → Hp → Prop) (N : Hp → Prop), (p i = true → ∀ H4, Same H H4 → R (F i) H4) → (p i = false → ∀ H4, Same H H4 → N H4) → g x (wipe σ vs) H' fun σ2 H2 => wipe σ2 vs = wipe σ vs ∧ tt σ2 H2 fun b H3 => if b = true then te σ2 H3 R else N H3)
    (hd : ∀ H, H D = some (.lst (((List.range n).filter p).map F)) → Same H1 H → Qd H) :
    ∃ W : Nat → Nat → Hp → Prop, (∃ m, W 0 m (upd H1 D (.lst []))) ∧ ∀ i m H, W i m H →
      (J.stop i H ∧ Qd H) ∨ (J.go i H ∧ ∃ Nx : Hp → Prop, (∀ H', Nx H' → ∃ m', m' < m ∧ W (i + 1) m' H') ∧ ∀ x H', J.yld i H x H' → g x (wipe σ vs) H' fun σ2 H2 => wipe σ2 vs = wipe σ vs ∧ tt σ2 H2 fun b H3 =>
        if b = true then te σ2 H3 fun y H4 => ∃ acc, H4 D = some (.lst acc) ∧ acc.length < sizeLine ∧ Nx (upd H4 D (.lst (acc ++ [y]))) else Nx H3) := by
  refine lc_it w (fun i H => H D = some (.lst (((List.range i).filter p).map F)) ∧ Same H1 H) ⟨upd_same, sNew hD⟩ (fun i H _ h => hG H h.2) (fun i x H H' hi ⟨d, s⟩ y => ?_) (fun H ⟨d, s⟩ => hd H d s)
  refine hs i x H H' hi s y _ _ (fun hp H4 s4 => ⟨_, s4 _ _ d, ?_, ?_, sPut hD (Same.trans s s4)⟩) (fun hp H4 s4 => ⟨?_, Same.trans s s4⟩)
  · rw [List.length_map]
    refine Nat.lt_of_le_of_lt (List.length_filter_le ..) ?_
    rw [List.length_range]
    exact Nat.lt_of_lt_of_le (show i < 200001 by omega) (by decide)
  · rw [List.range_succ, List.filter_append, List.map_append]
    simp only [List.filter_cons, hp, List.filter_nil, if_true, List.map_cons, List.map_nil]
    exact upd_same
  · rw [List.range_succ, List.filter_append, List.map_append]
    simp only [List.filter_cons, hp, List.filter_nil, Bool.false_eq_true, if_false, List.map_nil, List.append_nil]
    exact s4 _ _ d
end
end LM
namespace MF
/-! ### the first place at which one is above the other -/
/-- the least number of a range -/
theorem least_below {P : Nat → Prop} [DecidablePred P] {n : Nat} (h : ∃ j, j < n ∧ P j) : ∃ t, t < n ∧ P t ∧ ∀ j, j < t → ¬ P j := by
  induction n with
  | zero => obtain ⟨j, h, _⟩ := h; omega
  | succ n ih =>
    by_cases c : ∃ j, j < n ∧ P j
    · obtain ⟨t, h1, h2, h3⟩ := ih c
      exact ⟨t, by omega, h2, h3⟩
    · obtain ⟨j, h1, h2⟩ := h
      have : j = n := Classical.byContradiction fun z => c ⟨j, by omega, h2⟩
      subst this
      exact ⟨j, by omega, h2, fun i hi hp => c ⟨i, hi, hp⟩⟩
theorem dec_add {s j c : Nat} (s0 : 0 < s) (h : c ≤ j) : ∃ k i, j = c + i + k * s ∧ i < s := by
  refine ⟨(j - c) / s, (j - c) % s, ?_, Nat.mod_lt _ s0⟩
  have := Nat.mod_add_div (j - c) s
  rw [Nat.mul_comm] at this
  omega
/-- a difference that goes on by a period: spare is g - f -/
theorem never_neg {d : Nat → Int} {s c : Nat} {G : Int} (s0 : 0 < s) (Q : QP d s (-G) c) (h : ∀ j, j < c + s → 0 ≤ d j) (hG : G ≤ 0) : ∀ j, 0 ≤ d j := fun j => by
  by_cases l : j < c
  · exact h j (by omega)
  · obtain ⟨k, i, e, hi⟩ := dec_add s0 (show c ≤ j by omega)
    have m := Q.mul (j := c + i) (by omega) k
    rw [← e] at m
    have h0 := h (c + i) (by omega)
    have : 0 ≤ (k : Int) * (-G) := Int.mul_nonneg (by omega) (by omega)
    omega
theorem first_neg {d : Nat → Int} {s c : Nat} {G : Int} (s0 : 0 < s) (Q : QP d s (-G) c) (h : ∀ j, j < c + s → 0 ≤ d j) (hG : 0 < G) {m : Int} (m0 : ∃ i, i < s ∧ d (c + i) = m) (m1 : ∀ i, i < s → m ≤ d (c + i)) :
    ∃ t, t < s ∧ d (c + t) < (m / G + 1) * G ∧ ∀ j, j < t → (m / G + 1) * G ≤ d (c + j) := by
  obtain ⟨i, hi, e⟩ := m0
  have h0 : 0 ≤ m := by rw [← e]; exact h _ (by omega)
  have dm := Int.emod_add_mul_ediv m G
  have ml := Int.emod_lt_of_pos m hG
  have hx : m < (m / G + 1) * G := by
    have : (m / G + 1) * G = G * (m / G) + G := by rw [Int.add_mul, Int.one_mul, Int.mul_comm]
    omega
  obtain ⟨t, h1, h2, h3⟩ := least_below (P := fun j => d (c + j) < (m / G + 1) * G) (n := s) ⟨i, hi, by rw [e]; exact hx⟩
  exact ⟨t, h1, h2, fun j hj => Int.not_lt.mp (h3 j hj)⟩
theorem first_is {d : Nat → Int} {s c : Nat} {G : Int} (s0 : 0 < s) (Q : QP d s (-G) c) (h : ∀ j, j < c + s → 0 ≤ d j) (hG : 0 < G) {m : Int} (h0 : 0 ≤ m) (m1 : ∀ i, i < s → m ≤ d (c + i)) {t : Nat} (ht : t < s) (h2 : d (c + t) < (m / G + 1) * G) (h3 : ∀ j, j < t → (m / G + 1) * G ≤ d (c + j)) :
    d (c + t + (m / G + 1).toNat * s) < 0 ∧ ∀ j, j < c + t + (m / G + 1).toNat * s → 0 ≤ d j := by
  have r0 : 0 ≤ m / G := Int.ediv_nonneg h0 (by omega)
  have er : ((m / G + 1).toNat : Int) = m / G + 1 := by omega
  have mlow : (m / G) * G ≤ m := by rw [Int.mul_comm]; have := Int.emod_add_mul_ediv m G; have := Int.emod_nonneg m (show G ≠ 0 by omega); omega
  generalize hR : (m / G + 1).toNat = R at *
  have neg : ∀ k : Nat, (k : Int) * (-G) = -((k : Int) * G) := fun k => Int.mul_neg ..
  refine ⟨?_, fun j hj => ?_⟩
  · rw [Q.mul (j := c + t) (by omega) R, neg, er]
    omega
  · by_cases l : j < c
    · exact h j (by omega)
    · obtain ⟨k, i, e, hi⟩ := dec_add s0 (show c ≤ j by omega)
      have mm := Q.mul (j := c + i) (by omega) k
      rw [← e, neg] at mm
      rcases Nat.lt_or_ge k R with c1 | c1
      · have a := m1 i hi
        have b : (k : Int) * G ≤ (m / G) * G := Int.mul_le_mul_of_nonneg_right (by omega) (by omega)
        omega
      · rcases Nat.lt_or_ge R k with c2 | c2
        · exfalso
          have : (R + 1) * s ≤ k * s := Nat.mul_le_mul_right _ c2
          rw [Nat.succ_mul] at this
          omega
        · have : k = R := by omega
          subst this
          have a := h3 i (by omega)
          rw [er] at mm
          omega
/-- one above is seen ahead of some bound -/
theorem seen {d : Nat → Int} {s c : Nat} {G gap : Int} (s0 : 0 < s) (Q : QP d s G c) (g0 : ∀ j, j < c + s → -gap ≤ d j) (p0 : 0 ≤ gap) {j : Nat} (hj : 0 < d j) :
    ∃ t, 0 < d t ∧ t < c + s + (if 0 < G then s * (gap / G + 1).toNat else 0) := by
  by_cases l : j < c + s
  · exact ⟨j, hj, by omega⟩
  · obtain ⟨k, i, e, hi⟩ := dec_add s0 (show c ≤ j by omega)
    have mm := Q.mul (j := c + i) (by omega) k
    rw [← e] at mm
    by_cases hG : 0 < G
    · rw [if_pos hG]
      refine ⟨c + i + (gap / G + 1).toNat * s, ?_, ?_⟩
      · rw [Q.mul (j := c + i) (by omega)]
        have r0 : 0 ≤ gap / G := Int.ediv_nonneg p0 (by omega)
        have er : ((gap / G + 1).toNat : Int) = gap / G + 1 := by omega
        rw [er]
        have a := g0 (c + i) (by omega)
        have dm := Int.emod_add_mul_ediv gap G
        have ml := Int.emod_lt_of_pos gap hG
        have : (gap / G + 1) * G = G * (gap / G) + G := by rw [Int.add_mul, Int.one_mul, Int.mul_comm]
        omega
      · rw [Nat.mul_comm s]
        omega
    · rw [if_neg hG]
      refine ⟨c + i, ?_, by omega⟩
      have : (k : Int) * G ≤ 0 := Int.mul_nonpos_of_nonneg_of_nonpos (by omega) (by omega)
      omega
theorem QP.to {f : Nat → Int} {q : Nat} {r : Int} {b c : Nat} (h : QP f q r b) (l : b ≤ c) : QP f q r c := fun j hj => h j (by omega)
theorem QP.up {f : Nat → Int} {q : Nat} {r : Int} {b : Nat} (h : QP f q r b) (k : Nat) : QP f (k * q) (k * r) b := fun j hj => h.mul hj k
theorem QP.sub {f g : Nat → Int} {q : Nat} {r r' : Int} {b : Nat} (h : QP f q r b) (h' : QP g q r' b) : QP (fun j => f j - g j) q (r - r') b := fun j hj => by
  have := h j hj
  have := h' j hj
  show f (j + q) - g (j + q) = f j - g j + (r - r')
  omega
end MF
end

section
set_option Elab.async false
set_option linter.all false
set_option maxRecDepth 100000
set_option maxHeartbeats 4000000
namespace WW
open PySem L2 WO WG RZ WQ WT WC
abbrev sFno : Stmt := top 26
abbrev sTwo : Stmt := top 40
abbrev sPer : Stmt := top 41
abbrev sGai : Stmt := top 42
abbrev sGap : Stmt := top 43
section
variable {P : Program} {w : World} {K : PySem.W.Frag} {mg : Str → Option Value} {base : Heap}
abbrev nFno : List Str := ["curve"]
theorem scFno : FnScope nFno ["curve"] (defScope sFno) := ⟨rfl, rfl, rfl, by decide +kernel, rfl, by decide +kernel, by decide +kernel⟩
def spFno (K : PySem.W.Frag) (C : Addr) : Sp := fun vs H Q _ => ∃ (x : Addr) (v : List V) (q r : Int), vs = [.ref x] ∧ CurveAt H C x v q r ∧ 0 < v.length ∧ Q (.int ((v.length - 1 : Nat) : Int)) H
theorem ok_fno {f fI fE C : Addr} {fd : FuncData} (F : Fun K "first_none" "first_none" sFno f fd) (T : CurG mg) (U : CurT K mg C fI fE) : FnOk P w K mg base CX0 1 f fd ["curve"] (spFno K C) := by
  refine F.ok scFno (fun vs H Q E h => ?_) (fun cdv A outer s H vs Q E hr h => ?_)
  · obtain ⟨x, v, p, r, rfl, _⟩ := h
    rfl
  · obtain ⟨x, v, p, r, rfl, ⟨dx, t, h1, h2⟩, hp, k⟩ := h
    refine ⟨_, (pss_one
 (ps_ret (pe_op op_sub (pe_callB call_len_seq (by rfl) T.len PySem.boot_len (pa_cons (pe_fld (pv 0) rfl) pa_nil)) pe_int))), ?_⟩
    refine ⟨_, rfl, x, C, dx, _, .ref t, rfl, h1, U.cl, U.nS, rfl, t, v, rfl, .inr (SqT.of h2), _, _, rfl, rfl, ?_⟩
    rw [← show (v.length : Int) - 1 = ((v.length - 1 : Nat) : Int) by omega] at k
    exact k
def HasCur (H : Hp) (C a : Addr) : Prop := ∃ (v : List V) (q r : Int), CurveAt H C a v q r
abbrev nTwo : List Str := ["curve", "other"]
theorem scTwo : FnScope nTwo ["curve", "other"] (defScope sTwo) := ⟨rfl, rfl, rfl, by decide +kernel, rfl, by decide +kernel, by decide +kernel⟩
def spTwo (K : PySem.W.Frag) (C CB : Addr) : Sp := fun vs H Q E => ∃ x y : V, vs = [x, y] ∧
  ((∃ a b : Addr, x = .ref a ∧ y = .ref b ∧ HasCur H C a ∧ HasCur H C b ∧ Q .non H) ∨
   ((NoCur K H C x ∨ ((∃ a : Addr, x = .ref a ∧ HasCur H C a) ∧ NoCur K H C y)) ∧ ∀ d H', Raised H "part" .non d H' → E (.ref CB) (some d) H'))
theorem ok_two {f C CB : Addr} {fd : FuncData} (F : Fun K "need_two" "need_two" sTwo f fd)
    (c_ncu : Cal P w K mg base (L2.CX P w) 3 "need_curve" ["thing"] (spNeedCur K C CB)) :
    FnOk P w K mg base (L2.CX P w) 4 f fd ["curve", "other"] (spTwo K C CB) := by
  refine F.okX scTwo (fun vs H Q E h => ?_) (fun cdv A outer s H vs Q E hr h => ?_)
  · obtain ⟨x, y, rfl, _⟩ := h
    rfl
  · obtain ⟨x, y, rfl, h⟩ := h
    refine ⟨_, (pss_cons (ps_expr (pe_callC c_ncu (hr.mono (by decide)) rfl (passX (E := E) (takes_of rfl rfl rfl rfl) fun _ _ _ _ h => h) (pa_cons (pv 0) pa_nil)))
 (pss_one
 (ps_expr (pe_callC c_ncu (hr.mono (by decide)) rfl (passX (E := E) (takes_of rfl rfl rfl rfl) fun _ _ _ _ h => h) (pa_cons (pv 1) pa_nil))))), ?_⟩
    rcases h with ⟨a, b, rfl, rfl, ⟨v, q, r, ca⟩, ⟨v', q', r', cb⟩, k⟩ | ⟨no | ⟨⟨a, rfl, ⟨v, q, r, ca⟩⟩, no⟩, k⟩
    · exact ⟨_, rfl, _, rfl, .inl ⟨a, _, _, _, rfl, ca, _, rfl, _, rfl, .inl ⟨b, _, _, _, rfl, cb, k⟩⟩⟩
    · exact ⟨_, rfl, _, rfl, .inr ⟨no, k⟩⟩
    · exact ⟨_, rfl, _, rfl, .inl ⟨a, _, _, _, rfl, ca, _, rfl, _, rfl, .inr ⟨no, k⟩⟩⟩
abbrev nPer : List Str := ["curve", "other", "step"]
theorem scPer : FnScope nPer ["curve", "other"] (defScope sPer) := ⟨rfl, rfl, rfl, by decide +kernel, rfl, by decide +kernel, by decide +kernel⟩
def spPer (K : PySem.W.Frag) (C CT : Addr) : Sp := fun vs H Q E => ∃ (x y : Addr) (v v' : List V) (q q' : Nat) (r r' : Int), vs = [.ref x, .ref y] ∧ CurveAt H C x v q r ∧ CurveAt H C y v' q' r' ∧ q ≤ 1000000 ∧ q' ≤ 1000000 ∧
  (Nat.lcm q q' ≤ 4000 → Q (.int ((Nat.lcm q q' : Nat) : Int)) H) ∧ (4000 < Nat.lcm q q' → ∀ d H', Raised H "most" (.int 4000) d H' → E (.ref CT) (some d) H')
theorem ok_per {f fI fE fT C CT : Addr} {fd dT : FuncData} (F : Fun K "common_period" "common_period" sPer f fd) (MM : ∃ t, mg "MOST_MADE" = some (.int 4000 t)) (ilcm : mg "lcm" = some (.builtin "math.lcm")) (U : CurT K mg C fI fE) (B_TooMany : ErrT P w K mg base "TooMany" "most" CT fT dT) :
    FnOk P w K mg base (L2.CX P w) 3 f fd ["curve", "other"] (spPer K C CT) := by
  refine F.okX scPer (fun vs H Q E h => ?_) (fun cdv A outer s H vs Q E hr h => ?_)
  · obtain ⟨x, y, v, v', q, q', r, r', rfl, _⟩ := h
    rfl
  · obtain ⟨x, y, v, v', q, q', r, r', rfl, ⟨dx, t, x1, x2⟩, ⟨dy, u, y1, y2⟩, hq, hq', k1, k2⟩ := h
    obtain ⟨tmm, mMOST_MADE⟩ := MM
    refine ⟨_, (pss_cons (ps_set (i := 2) scPer.nd rfl (Or.inl rfl) (pe_callBfun LM.cr_lcm (by rfl) ilcm (pa_cons (pe_fld (pv 0) rfl) (pa_cons (pe_fld (pv 1) rfl) pa_nil))))
 (pss_cons (ps_if (pt_cmpR op_gt (pv 2) (pe_glob (v := .int 4000) rfl mMOST_MADE ⟨_, rfl⟩) (nomark _)) (pss_one
 (ps_raise rfl (takes_of rfl rfl rfl rfl) (pmk_oex B_TooMany.ox B_TooMany.iC B_TooMany.tI B_TooMany.fn (hr.mono (by decide)) B_TooMany.bd .nil pass0 rfl B_TooMany.gC (pa_cons (pe_glob (v := .int 4000) rfl mMOST_MADE ⟨_, rfl⟩) pa_nil)))) pss_nil)
 (pss_one
 (ps_ret (pv 2))))), ?_⟩
    refine ⟨_, rfl, x, C, dx, _, .int q, rfl, x1, U.cl, U.nP, rfl, _, rfl, y, C, dy, _, .int q', rfl, y1, U.cl, U.nP, rfl, q, q', rfl, by omega, by omega, ?_⟩
    by_cases c : Nat.lcm q q' ≤ 4000
    · exact ⟨_, rfl, _, _, rfl, rfl, false, bF (by omega), iteF ⟨_, rfl, k1 c⟩⟩
    · exact ⟨_, rfl, _, _, rfl, rfl, true, bT (by omega), iteT (mkO_post B_TooMany (k2 (by omega)))⟩
abbrev nGai : List Str := ["curve", "other", "step"]
theorem scGai : FnScope nGai ["curve", "other", "step"] (defScope sGai) := ⟨rfl, rfl, rfl, by decide +kernel, rfl, by decide +kernel, by decide +kernel⟩
def spGai (K : PySem.W.Frag) (C : Addr) : Sp := fun vs H Q _ => ∃ (x y : Addr) (v v' : List V) (q q' s : Nat) (r r' : Int), vs = [.ref x, .ref y, .int s] ∧ CurveAt H C x v q r ∧ CurveAt H C y v' q' r' ∧ 0 < q ∧ 0 < q' ∧ q ≤ 1000000 ∧ q' ≤ 1000000 ∧ s ≤ 1000000 ∧ Q (.int (((s / q : Nat) : Int) * r - ((s / q' : Nat) : Int) * r')) H
theorem ok_gai {f fI fE C : Addr} {fd : FuncData} (F : Fun K "gain_in" "gain_in" sGai f fd) (U : CurT K mg C fI fE) : FnOk P w K mg base CX0 1 f fd ["curve", "other", "step"] (spGai K C) := by
  refine F.ok scGai (fun vs H Q E h => ?_) (fun cdv A outer s H vs Q E hr h => ?_)
  · obtain ⟨x, y, v, v', q, q', s, r, r', rfl, _⟩ := h
    rfl
  · obtain ⟨x, y, v, v', q, q', st, r, r', rfl, ⟨dx, t, x1, x2⟩, ⟨dy, u, y1, y2⟩, hq, hq', hq2, hq3, hst, k⟩ := h
    refine ⟨_, (pss_one
 (ps_ret (pe_op op_sub (pe_op op_mul (pe_op op_fdivN (pv 2) (pe_fld (pv 0) rfl)) (pe_fld (pv 0) rfl)) (pe_op op_mul (pe_op op_fdivN (pv 2) (pe_fld (pv 1) rfl)) (pe_fld (pv 1) rfl))))), ?_⟩
    have e : ∀ q : Nat, Int.fdiv (st : Int) (q : Int) = ((st / q : Nat) : Int) := fun q => by
      rw [Int.fdiv_eq_ediv_of_nonneg _ (by omega)]
      rfl
    have d1 : st / q ≤ st := Nat.div_le_self _ _
    have d2 : st / q' ≤ st := Nat.div_le_self _ _
    have e1 := e q
    have e2 := e q'
    have p1 : 0 ≤ Int.fdiv (st : Int) (q : Int) := by rw [e1]; exact Int.natCast_nonneg _
    have p2 : 0 ≤ Int.fdiv (st : Int) (q' : Int) := by rw [e2]; exact Int.natCast_nonneg _
    rw [← e q, ← e q'] at k
    refine ⟨_, rfl, _, rfl, x, C, dx, _, .int q, rfl, x1, U.cl, U.nP, rfl, _, _, rfl, rfl, ⟨by omega, by omega⟩, ?_⟩
    refine ⟨_, rfl, x, C, dx, _, .int r, rfl, x1, U.cl, U.nG, rfl, _, _, rfl, rfl, .inl ⟨by omega, by omega⟩, ?_⟩
    refine ⟨_, rfl, _, rfl, y, C, dy, _, .int q', rfl, y1, U.cl, U.nP, rfl, _, _, rfl, rfl, ⟨by omega, by omega⟩, ?_⟩
    exact ⟨_, rfl, y, C, dy, _, .int r', rfl, y1, U.cl, U.nG, rfl, _, _, rfl, rfl, .inl ⟨by omega, by omega⟩, _, _, rfl, rfl, k⟩
abbrev nGap : List Str := ["row", "other_row", "one", "two"]
theorem scGap : FnScope nGap ["row", "other_row"] (defScope sGap) := ⟨rfl, rfl, rfl, by decide +kernel, rfl, by decide +kernel, by decide +kernel⟩
def spGap (K : PySem.W.Frag) : Sp := fun vs H Q _ => ∃ (a b : Addr) (n : Nat) (f g : Nat → Int), vs = [.ref a, .ref b] ∧ H a = some (.lst ((List.range n).map fun j => V.int (f j))) ∧ H b = some (.lst ((List.range n).map fun j => V.int (g j))) ∧ n ≤ 100000 ∧
  ∀ (z : Addr) (H' : Hp), H z = none → H' z = some (.lst ((List.range n).map fun j => V.int (f j - g j))) → Same H H' → Q (.ref z) H'
theorem ok_gap {f : Addr} {fd : FuncData} (F : Fun K "gaps_of" "gaps_of" sGap f fd) (T : CurG mg) : FnOk P w K mg base CX0 1 f fd ["row", "other_row"] (spGap K) := by
  refine F.ok scGap (fun vs H Q E h => ?_) (fun cdv A outer s H vs Q E hr h => ?_)
  · obtain ⟨a, b, n, f, g, rfl, _⟩ := h
    rfl
  · obtain ⟨a, b, n, f, g, rfl, ha, hb, hn, k⟩ := h
    refine ⟨_, (pss_one
 (ps_ret (pe_lc (own := [("one", 2), ("two", 3)]) (g := (gTup K 2 (gCons (gName 2) (gCons (gName 3) gNil)))) (tt := tYes) rfl scGap.nd (pi_zip (by rfl) T.zip (pa_cons (pv 0) (pa_cons (pv 1) pa_nil))) (blkOk_by (N := nGap) (sc := defScope sGap) (by decide +kernel)) (fun _ _ _ _ _ => (pg_tup rfl (pgs_cons (pg_name (i := 2) scGap.nd rfl (Or.inl rfl)) (pgs_cons (pg_name (i := 3) scGap.nd rfl (Or.inl rfl)) pgs_nil)))) (fun _ _ _ _ _ => pts_nil) (fun _ _ _ _ _ => (pe_op op_sub (pv 2) (pv 3)))))), ?_⟩
    have la : ((List.range n).map fun j => V.int (f j)).length = n := by rw [List.length_map, List.length_range]
    have lb : ((List.range n).map fun j => V.int (g j)).length = n := by rw [List.length_map, List.length_range]
    refine ⟨_, rfl, _, rfl, a, b, _, _, rfl, SqL.of ha, SqL.of hb, fun D hD => LM.lcM (walk_zip (xs := (List.range n).map fun j => V.int (f j)) (ys := (List.range n).map fun j => V.int (g j)) (n := n) (by rw [la, lb, Nat.min_self])) (fun i => V.int (f i - g i)) hD (by omega) (fun H2 s2 => ⟨SqL.of (s2 _ _ ha), SqL.of (s2 _ _ hb)⟩) ?_ fun H2 hd s2 => k D H2 hD hd s2⟩
    rintro i x H2 H3 hi s2 ⟨T, x1, y1, rfl, hT, rfl, gx, gy⟩ R N kk
    dsimp only at gx gy
    rw [List.getElem?_map, List.getElem?_range hi] at gx gy
    cases gx
    cases gy
    exact ⟨T, _, rfl, SqT.of upd_same, rfl, _, _, rfl, _, _, rfl, rfl, rfl, _, rfl, _, rfl, _, _, rfl, rfl, kk _ (LM.sNew hT)⟩
end
end WW
end

section
set_option Elab.async false
set_option linter.all false
set_option maxRecDepth 100000
set_option maxHeartbeats 4000000
namespace WW
open PySem L2 WO WG RZ WQ WT WC
/-! ### one curve above another -/
def KCur (H : Hp) (C x : Addr) (L : Nat → V) (q : Nat) : Prop := ∃ (v : List V) (r : Int), CurveAt H C x v q r ∧ FormG L v q r ∧ Calm v q r ∧ v.length ≤ 4000
theorem KCur.same {H H' : Hp} {C x : Addr} {L : Nat → V} {q : Nat} (h : KCur H C x L q) (s : Same H H') : KCur H' C x L q := by
  obtain ⟨v, r, h1, h2, h3, h4⟩ := h
  exact ⟨v, r, h1.same s, h2, h3, h4⟩
def ival : V → Int
  | .int i => i
  | _ => 0
def Ab (a b : V) : Prop := (a = .non ∧ b ≠ .non) ∨ ∃ i k : Int, a = .int i ∧ b = .int k ∧ k < i
def IsFst (L M : Nat → V) (d : V) : Prop := (d = .non ∧ ∀ j, ¬ Ab (L j) (M j)) ∨ ∃ t : Nat, d = .int t ∧ Ab (L t) (M t) ∧ ∀ j, j < t → ¬ Ab (L j) (M j)
theorem IsFst.uniq {L M : Nat → V} {d e : V} (h : IsFst L M d) (h' : IsFst L M e) : d = e := by
  rcases h with ⟨rfl, h⟩ | ⟨t, rfl, h1, h2⟩ <;> rcases h' with ⟨rfl, k⟩ | ⟨u, rfl, k1, k2⟩
  · rfl
  · exact absurd k1 (h u)
  · exact absurd h1 (k t)
  · have a : ¬ u < t := fun l => h2 u l k1
    have b : ¬ t < u := fun l => k2 t l h1
    have : t = u := by omega
    rw [this]
theorem FormG.flatL {L : Nat → V} {v : List V} {q : Nat} {r : Int} (h : FormG L v q r) (j : Nat) : L j = .non ∨ L j = .int (ival (L j)) := by
  rcases h.cases' with ⟨f, b, e, _, _⟩ | ⟨s, e, _⟩
  · rw [e]; exact .inr rfl
  · rw [e]
    by_cases c : j < s.length
    · rw [fn_low c]; exact .inr rfl
    · rw [fn_high (by omega)]; exact .inl rfl
theorem ab_int {a b : V} (ha : a = .int (ival a)) (hb : b = .int (ival b)) : Ab a b ↔ ival b - ival a < 0 := by
  obtain ⟨i, rfl⟩ : ∃ i, a = .int i := ⟨_, ha⟩
  obtain ⟨k, rfl⟩ : ∃ k, b = .int k := ⟨_, hb⟩
  show _ ↔ k - i < 0
  constructor
  · rintro (⟨z, _⟩ | ⟨i', k', h1, h2, h3⟩)
    · cases z
    · have h1 := V.int.inj h1
      have h2 := V.int.inj h2
      omega
  · intro h
    exact .inr ⟨_, _, rfl, rfl, by omega⟩
/-- the end of a curve -/
theorem FormG.ends {L : Nat → V} {v : List V} {q : Nat} {r : Int} (h : FormG L v q r) : 0 < v.length ∧ ∃ lv, v[v.length - 1]? = some lv ∧
    ((lv = .non ∧ (∀ j, L j = .non ↔ v.length - 1 ≤ j)) ∨ (lv ≠ .non ∧ ∀ j, L j ≠ .non)) := by
  rcases h.cases' with ⟨f, b, e, hf, rfl⟩ | ⟨s, e, rfl, rfl, rfl⟩
  · have := hf.pos
    refine ⟨by rw [List.length_map, List.length_range]; omega, .int (f (b + q - 1)), ?_, .inr ⟨fun z => (by cases z), fun j z => (by rw [e] at z; cases z)⟩⟩
    rw [List.length_map, List.length_range, List.getElem?_map, List.getElem?_range (by omega)]
    rfl
  · refine ⟨by rw [List.length_append]; show 0 < _ + 1; omega, .non, ?_, .inl ⟨rfl, fun j => ?_⟩⟩
    · rw [List.length_append, List.length_map, List.getElem?_append_right (by rw [List.length_map]; show _ ≤ _ + 1 - 1; omega), List.length_map]
      show ([V.non] : List V)[s.length + 1 - 1 - s.length]? = _
      rw [show s.length + 1 - 1 - s.length = 0 by omega]
      rfl
    · rw [List.length_append, List.length_map, e]
      show _ ↔ s.length + 1 - 1 ≤ j
      by_cases c : j < s.length
      · rw [fn_low c]; exact ⟨fun z => (by cases z), fun z => (by omega)⟩
      · rw [fn_high (by omega)]; exact ⟨fun _ => by omega, fun _ => rfl⟩
/-- where the first of two ends -/
def IsEnd (L M : Nat → V) (m : Nat) : Prop := (L m = .non ∨ M m = .non) ∧ ∀ j, j < m → L j ≠ .non ∧ M j ≠ .non
section
variable {P : Program} {w : World} {K : PySem.W.Frag} {mg : Str → Option Value} {base : Heap}
end
end WW
end

section
set_option Elab.async false
set_option linter.all false
set_option maxRecDepth 100000
set_option maxHeartbeats 4000000
namespace WW
open PySem L2 WO WG RZ WQ WT
section
variable {P : Program} {w : World} {K : PySem.W.Frag} {mg : Str → Option Value} {base : Heap}
theorem pss_never {X : Cx} {st : List Stmt} : PSs X st (fun _ _ _ => False) := ⟨fun _ _ _ _ _ _ h => h.elim⟩
/-- a promise that asks more -/
theorem FnOk.weaken {CX : CXT} {n : Nat} {f : Addr} {fd : FuncData} {ps : List Str} {sp sp' : Sp} (F : FnOk P w K mg base CX n f fd ps sp) (h : ∀ vs H Q E, sp' vs H Q E → sp vs H Q E) : FnOk P w K mg base CX n f fd ps sp' :=
  ⟨fun vs H Q E q => F.len vs H Q E (h _ _ _ _ q), fun A outer s H args us vs Q E hr e0 hb hv hs => F.run A outer s H args us vs Q E hr e0 hb hv (h _ _ _ _ hs)⟩
end
end WW
end

section
set_option Elab.async false
set_option linter.all false
set_option maxRecDepth 100000
set_option maxHeartbeats 4000000
namespace WW
open PySem L2 WO WG RZ WQ WT WC
abbrev sMadeC : Stmt := top 23
section
variable {P : Program} {w : World} {K : PySem.W.Frag} {mg : Str → Option Value} {base : Heap}
theorem make0 : MakeOk [V.int 0] 1 0 where
  st := ⟨by decide, by decide, fun i x h => by
      match i, h with
      | 0, h => cases h; exact .inr ⟨0, rfl, by decide, by decide⟩, fun i x y h h2 => by
      match i, h, h2 with
      | 0, _, h2 => cases h2⟩
  fo := .mkI [0] 1 0 (by decide) (by decide) (by decide) (by decide) (by decide)
  p1 := by decide
  p2 := by decide
  p3 := by decide
  g0 := by decide
  g1 := by decide
  fa := ⟨.int 0, .int 0, rfl, rfl, .inl ⟨0, 0, rfl, rfl, by decide⟩⟩
abbrev nMadeC : List Str := ["row", "period", "growth", "start", "step", "rise", "curve"]
theorem scMadeC : FnScope nMadeC ["row", "period", "growth"] (defScope sMadeC) := ⟨rfl, rfl, rfl, by decide +kernel, rfl, by decide +kernel, by decide +kernel⟩
def spMadeC (K : PySem.W.Frag) (C CT : Addr) : Sp := fun vs H Q E => ∃ (a : Addr) (xs : List V) (p : Nat) (g : Int), vs = [.ref a, .int p, .int g] ∧ H a = some (.lst xs) ∧ FormIn xs p g ∧
  (∀ (vals : List V) (q r : Int) (x : Addr) (H' : Hp), FormV xs p g vals q r → vals.length ≤ 4000 → H x = none → CurveAt H' C x vals q r → Same H H' → Q (.ref x) H') ∧
  (∀ (vals : List V) (q r : Int), FormV xs p g vals q r → 4000 < vals.length → ∀ d H', Raised H "most" (.int 4000) d H' → E (.ref CT) (some d) H')
theorem ok_madeC {f fI fE fT C CB CT : Addr} {fd dI dT : FuncData} (F : Fun K "made" "made" sMadeC f fd) (T : CurG mg) (MM : ∃ t, mg "MOST_MADE" = some (.int 4000 t)) (U : CurT K mg C fI fE) (B_TooMany : ErrT P w K mg base "TooMany" "most" CT fT dT)
    (GI : FnOk P w K mg base (L2.CX P w) 4 fI dI ["self", "start", "period", "growth"] (spInit K C CB)) (bI : Binds K dI ["self", "start", "period", "growth"] [])
    (c_frm : Cal P w K mg base CX0 2 "least_form" ["row", "period", "growth"] (spForm K)) :
    FnOk P w K mg base (L2.CX P w) 6 f fd ["row", "period", "growth"] (spMadeC K C CT) := by
  refine F.okX scMadeC (fun vs H Q E h => ?_) (fun cdv A outer s H vs Q E hr h => ?_)
  · obtain ⟨a, xs, p, g, rfl, _⟩ := h
    rfl
  · obtain ⟨a, xs, p, g, rfl, ha, fi, k1, k2⟩ := h
    obtain ⟨tmm, mMOST_MADE⟩ := MM
    refine ⟨_, (pss_cons (ps_asg (pe_callC c_frm (hr.mono (by decide)) rfl pass0 (pa_cons (pv 0) (pa_cons (pv 1) (pa_cons (pv 2) pa_nil)))) (pg_tup rfl (pgs_cons (pg_name (i := 3) scMadeC.nd rfl (Or.inl rfl)) (pgs_cons (pg_name (i := 4) scMadeC.nd rfl (Or.inl rfl)) (pgs_cons (pg_name (i := 5) scMadeC.nd rfl (Or.inl rfl)) pgs_nil)))))
 (pss_cons (ps_if (pt_cmpR op_gt (pe_callB call_len_seq (by rfl) T.len PySem.boot_len (pa_cons (pv 3) pa_nil)) (pe_glob (v := .int 4000) rfl mMOST_MADE ⟨_, rfl⟩) (nomark _)) (pss_one
 (ps_raise rfl (takes_of rfl rfl rfl rfl) (pmk_oex B_TooMany.ox B_TooMany.iC B_TooMany.tI B_TooMany.fn (hr.mono (by decide)) B_TooMany.bd .nil pass0 rfl B_TooMany.gC (pa_cons (pe_glob (v := .int 4000) rfl mMOST_MADE ⟨_, rfl⟩) pa_nil)))) pss_nil)
 (pss_cons (ps_set (i := 6) scMadeC.nd rfl (Or.inl rfl) (pe_make U.mkC GI (hr.mono (by decide)) rfl U.mC bI .nil (passX (E := E) (takes_of rfl rfl rfl rfl) fun _ _ _ _ h => h) (pa_cons (pe_tup (pa_cons pe_int pa_nil)) (pa_cons pe_int (pa_cons pe_int pa_nil)))))
 (pss_cons (ps_asg (pv 3) (pg_attr (pv 6)))
 (pss_cons (ps_asg (pv 4) (pg_attr (pv 6)))
 (pss_cons (ps_asg (pv 5) (pg_attr (pv 6)))
 (pss_one
 (ps_ret (pv 6))))))))), ?_⟩
    refine ⟨_, rfl, _, rfl, _, rfl, a, xs, p, g, rfl, ha, fi, fun vals q r t T' H1 fv ht hT s1 => ?_⟩
    refine ⟨T', _, rfl, SqT.of hT, rfl, _, _, rfl, _, _, rfl, _, _, rfl, rfl, ?_⟩
    by_cases c : vals.length ≤ 4000
    · refine ⟨_, rfl, t, _, rfl, .inr (SqT.of ht), _, _, rfl, rfl, false, bF (by omega), iteF ?_⟩
      refine ⟨(by show 1 ≤ sizeLine; decide), fun u hu => ?_⟩
      generalize g2 : upd H1 u _ = H2
      obtain ⟨s2, f2⟩ := alloc g2 hu
      refine fun x dx hx hdx ne => ?_
      generalize g3 : upd H2 dx _ = H3
      obtain ⟨s3, f3⟩ := alloc g3 hdx
      have hx3 : H3 x = none := by rw [← g3, upd_ne (Ne.symm ne)]; exact hx
      generalize g4 : upd H3 x _ = H4
      obtain ⟨s4, f4⟩ := alloc g4 hx3
      refine ⟨x, dx, _, _, _, rfl, f4, .inl ⟨u, _, 1, 0, rfl, rfl, rfl, .inr (SqT.of (s4 _ _ (s3 _ _ f2))), make0, fun vals0 q0 r0 H5 fv0 cu kp => ⟨rfl, ?_⟩⟩⟩
      have sx : ∀ (b : Addr) (o : HO), H2 b = some o → H5 b = some o := fun b o e => kp b o (s4 _ _ (s3 _ _ e)) (ne_of_none e hx)
      obtain ⟨dx', t', h1, h2⟩ := cu
      have ht5 : H5 t = some (.tup vals) := sx _ _ (s2 _ _ ht)
      have xt : x ≠ t := fun z => by rw [← z, h1] at ht5; cases ht5
      refine ⟨_, rfl, _, rfl, x, C, dx', _, rfl, h1, U.cl, U.nS, (by show 3 < 1000; decide), ?_⟩
      refine ⟨_, rfl, _, rfl, x, C, dx', _, rfl, upd_same, U.cl, U.nP, (by show 3 < 1000; decide), ?_⟩
      refine ⟨_, rfl, _, rfl, x, C, dx', _, rfl, upd_same, U.cl, U.nG, (by show 3 < 1000; decide), ?_⟩
      refine ⟨_, rfl, k1 vals q r x _ fv c (s1.free (s2.free hx)) ⟨dx', t, upd_same, by rw [upd_ne xt.symm, upd_ne xt.symm, upd_ne xt.symm]; exact ht5⟩ fun b o e => ?_⟩
      have e2 := s2 _ _ (s1 _ _ e)
      have bx : b ≠ x := ne_of_none e2 hx
      rw [upd_ne bx, upd_ne bx, upd_ne bx]
      exact sx _ _ e2
    · refine ⟨_, rfl, t, _, rfl, .inr (SqT.of ht), _, _, rfl, rfl, true, bT (by omega), iteT ?_⟩
      exact mkO_post B_TooMany fun d H' r' => k2 vals q r fv (by omega) d H' (Raised.same s1 r')
theorem flat_in {x : V} (hx : x = .non ∨ ∃ i : Int, x = .int i ∧ 0 ≤ i ∧ i ≤ 1000000000) : FormIn [x] 1 0 ∧ RowF [x] 1 0 (fun _ => x) := by
  rcases hx with rfl | ⟨i, rfl, i0, i1⟩
  · have e : (fun _ => V.non) = FN [] := by
      funext j
      rw [fn_high (Nat.zero_le _)]
    rw [e]
    exact ⟨.mkN [] 0 1 0 (by decide), .mkN [] 0 1 0⟩
  · have f1 := in_int (f := fun _ => i) (n := 1) (p := 1) (g := 0) (by decide) (by decide) (by decide) (by decide) (by decide)
    exact ⟨f1, row_int (f := fun _ => i) (n := 1) (p := 1) (g := 0) (by decide) (by decide) (by decide) (fun j _ => (Int.add_zero i).symm)⟩
/-- three numbers, one of them wrong: the first one's part -/
def Bad3 (K : PySem.W.Frag) (H : Hp) (x y z : V) (n1 : Str) (h1 : Int) (part : Str) : Prop :=
  (part = n1 ∧ badFrom K H x 0 h1) ∨ (part = "steps" ∧ (∃ i : Int, x = .int i ∧ 0 ≤ i ∧ i ≤ h1) ∧ badFrom K H y 0 1000000000) ∨
  (part = "beats" ∧ (∃ i : Int, x = .int i ∧ 0 ≤ i ∧ i ≤ h1) ∧ (∃ i : Int, y = .int i ∧ 0 ≤ i ∧ i ≤ 1000000000) ∧ badFrom K H z 1 60)
def lineF (b s : Int) (p : Nat) (j : Nat) : Int := if j = 0 then 0 else b + Int.fdiv (s * j) p
theorem line_qp {b s : Int} {p : Nat} (p0 : 0 < p) : MF.QP (lineF b s p) p s 1 := fun j hj => by
  unfold lineF
  rw [if_neg (by omega), if_neg (by omega)]
  have e : s * ((j + p : Nat) : Int) = s * (j : Int) + s * (p : Int) := by rw [Int.natCast_add, Int.mul_add]
  rw [e, Int.add_mul_fdiv_right _ _ (by omega)]
  omega
def lateF (w s : Int) (p : Nat) (j : Nat) : Int := if (j : Int) < w then 0 else Int.fdiv (s * (j - w)) p
theorem late_qp {n : Nat} {s : Int} {p : Nat} (p0 : 0 < p) : MF.QP (lateF n s p) p s n := fun j hj => by
  unfold lateF
  rw [if_neg (by omega), if_neg (by omega)]
  have e : s * (((j + p : Nat) : Int) - n) = s * ((j : Int) - n) + s * (p : Int) := by
    rw [← Int.mul_add]
    congr 1
    omega
  rw [e, Int.add_mul_fdiv_right _ _ (by omega)]
end
end WW
end

section
set_option Elab.async false
set_option linter.all false
set_option maxRecDepth 100000
set_option maxHeartbeats 8000000
namespace WW
open PySem L2 WO WG RZ WQ WT WC
theorem row_ival2 {L : Nat → V} {v : List V} {q : Nat} {r : Int} (h : FormG L v q r) {n : Nat} (hn : ∀ j, j < n → L j ≠ .non) : (List.range n).map L = (List.range n).map fun j => V.int (ival (L j)) := by
  refine List.map_congr_left fun j hj => ?_
  rcases h.flatL j with e | e
  · exact absurd e (hn j (List.mem_range.mp hj))
  · exact e
/-- two values joined: none if one is -/
def joinV (h : Int → Int → Int) : V → V → V
  | .int i, .int j => .int (h i j)
  | _, _ => .non
theorem joinV_int {h : Int → Int → Int} {a b : V} (ha : a = .int (ival a)) (hb : b = .int (ival b)) : joinV h a b = .int (h (ival a) (ival b)) := by
  obtain ⟨i, rfl⟩ : ∃ i, a = .int i := ⟨_, ha⟩
  obtain ⟨j, rfl⟩ : ∃ j, b = .int j := ⟨_, hb⟩
  rfl
theorem joinV_non {h : Int → Int → Int} {a b : V} (n : a = .non ∨ b = .non) : joinV h a b = .non := by
  rcases n with rfl | rfl
  · rfl
  · cases a <;> rfl
/-- a row that ends -/
theorem ends_row {J : Nat → V} {t n p : Nat} {g : Int} (h1 : ∀ j, j < t → J j = .int (ival (J j))) (h2 : ∀ j, t ≤ j → J j = .non) (tn : t < n) (n4 : n ≤ 100000) : FormIn ((List.range n).map J) p g ∧ RowF ((List.range n).map J) p g J := by
  have e : J = FN ((List.range t).map fun j => ival (J j)) := by
    have l2 : ((List.range t).map fun j => ival (J j)).length = t := by rw [List.length_map, List.length_range]
    funext j
    by_cases c : j < t
    · rw [fn_low (by rw [l2]; exact c), List.getD_eq_getElem?_getD, List.getElem?_map, List.getElem?_range c]
      exact h1 j c
    · rw [fn_high (by rw [l2]; omega)]
      exact h2 j (by omega)
  have l2 : ((List.range t).map fun j => ival (J j)).length < n := by rw [List.length_map, List.length_range]; exact tn
  rw [e]
  rw [← e]
  exact ⟨by rw [e]; exact in_non l2 n4, by
    have r := row_non (s := (List.range t).map fun j => ival (J j)) (n := n) (p := p) (g := g) l2
    rw [← e] at r
    exact r⟩
theorem int_row {J : Nat → V} {n p : Nat} {g : Int} (p0 : 0 < p) (pn : p ≤ n) (n4 : n ≤ 100000) (g0 : 0 ≤ g) (g1 : g ≤ 1000000000000000000) (h : ∀ j, J j = .int (ival (J j))) (Q : MF.QP (fun j => ival (J j)) p g (n - p)) : FormIn ((List.range n).map J) p g ∧ RowF ((List.range n).map J) p g J := by
  have e : J = fun j => V.int (ival (J j)) := funext h
  have R := row_int (n := n) p0 pn (by omega) Q
  have I := in_int (f := fun j => ival (J j)) (n := n) p0 pn n4 g0 g1
  rw [← e] at R I
  exact ⟨I, R⟩
/-- a short curve -/
def KCn (kn : Nat) (H : Hp) (C x : Addr) (L : Nat → V) (q : Nat) : Prop := ∃ (v : List V) (r : Int), CurveAt H C x v q r ∧ FormG L v q r ∧ Calm v q r ∧ v.length ≤ kn
abbrev KC := KCn 400
theorem KCn.kcur {kn : Nat} {H : Hp} {C x : Addr} {L : Nat → V} {q : Nat} (h : KCn kn H C x L q) (hkn : kn ≤ 4000 := by decide) : KCur H C x L q := by
  obtain ⟨v, r, h1, h2, h3, h4⟩ := h
  exact ⟨v, r, h1, h2, h3, by omega⟩
theorem KCn.same {kn : Nat} {H H' : Hp} {C x : Addr} {L : Nat → V} {q : Nat} (h : KCn kn H C x L q) (s : Same H H') : KCn kn H' C x L q := by
  obtain ⟨v, r, h1, h2⟩ := h
  exact ⟨v, r, h1.same s, h2⟩
theorem KCn.has {kn : Nat} {H : Hp} {C x : Addr} {L : Nat → V} {q : Nat} (h : KCn kn H C x L q) : HasCur H C x := by
  obtain ⟨v, r, h1, _⟩ := h
  exact ⟨v, q, r, h1⟩
abbrev BadTwo (K : PySem.W.Frag) (C CB : Addr) (H : Hp) (x y : V) (E : XK) : Prop := (NoCur K H C x ∨ ((∃ a : Addr, x = .ref a ∧ HasCur H C a) ∧ NoCur K H C y)) ∧ ∀ d H', Raised H "part" .non d H' → E (.ref CB) (some d) H'
section
variable {P : Program} {w : World} {K : PySem.W.Frag} {mg : Str → Option Value} {base : Heap}
def spRowJ (K : PySem.W.Frag) (h : Int → Int → Int) : Sp := fun vs H Q _ => ∃ (a b : Addr) (n : Nat) (f g : Nat → Int), vs = [.ref a, .ref b] ∧ H a = some (.lst ((List.range n).map fun j => V.int (f j))) ∧ H b = some (.lst ((List.range n).map fun j => V.int (g j))) ∧ n ≤ 100000 ∧
  ∀ (z : Addr) (H' : Hp), H z = none → H' z = some (.lst ((List.range n).map fun j => V.int (h (f j) (g j)))) → Same H H' → Q (.ref z) H'
/-! ### rows joined, made a curve -/
end
end WW
end

section
set_option Elab.async false
set_option linter.all false
set_option maxRecDepth 100000
set_option maxHeartbeats 8000000
namespace WW
open PySem L2 WO WG RZ WQ WT WC
abbrev sLat : Stmt := top 45
abbrev sRai : Stmt := top 46
/-- what isn't a curve, or no number beside a curve -/
abbrev BadNum (K : PySem.W.Frag) (C CB CN : Addr) (H : Hp) (x y : V) (hi : Int) (part : Str) (E : XK) : Prop :=
  (NoCur K H C x ∧ ∀ d H', Raised H "part" .non d H' → E (.ref CB) (some d) H') ∨ ((∃ a : Addr, x = .ref a ∧ HasCur H C a) ∧ badFrom K H y 0 hi ∧ ∀ d H', Raised H "part" (.str part) d H' → E (.ref CN) (some d) H')
theorem FormG.row {L : Nat → V} {v : List V} {q : Nat} {r : Int} (h : FormG L v q r) : v = (List.range v.length).map L := by
  rcases h.cases' with ⟨f, b, e, hf, rfl⟩ | ⟨s, e, rfl, rfl, rfl⟩
  · rw [List.length_map, List.length_range]
    exact List.map_congr_left fun j _ => (e j).symm
  · have := range_fn (s := s) (n := s.length + 1) (by omega)
    rw [show s.length + 1 - s.length = 1 by omega] at this
    rw [List.length_append, List.length_map]
    show _ = (List.range (s.length + 1)).map L
    have e2 : L = FN s := funext e
    rw [e2, this]
    rfl
section
variable {P : Program} {w : World} {K : PySem.W.Frag} {mg : Str → Option Value} {base : Heap}
theorem num_or_end {L : Nat → V} {v : List V} {q : Nat} {r : Int} (fo : FormG L v q r) : (∃ b, v.length = b + q ∧ (∀ j, L j = .int (ival (L j))) ∧ MF.QP (fun j => ival (L j)) q r b) ∨ (q = 1 ∧ r = 0 ∧ ∃ t, v.length = t + 1 ∧ (∀ j, j < t → L j = .int (ival (L j))) ∧ ∀ j, t ≤ j → L j = .non) := by
  rcases fo.cases' with ⟨f, b, e, hf, rfl⟩ | ⟨s, e, rfl, rfl, rfl⟩
  · refine .inl ⟨b, by rw [List.length_map, List.length_range], fun j => by rw [e]; rfl, fun j hj => ?_⟩
    show ival (L (j + q)) = ival (L j) + r
    rw [e, e]
    exact hf.qp j hj
  · refine .inr ⟨rfl, rfl, s.length, by rw [List.length_append, List.length_map]; rfl, fun j hj => ?_, fun j hj => by rw [e]; exact fn_high hj⟩
    rw [e, fn_low hj]
    rfl
abbrev nLat : List Str := ["curve", "beats"]
theorem scLat : FnScope nLat nLat (defScope sLat) := ⟨rfl, rfl, rfl, by decide +kernel, rfl, by decide +kernel, by decide +kernel⟩
def latV (L : Nat → V) (b : Nat) (j : Nat) : V := if j < b then .int 0 else L (j - b)
def spLat (K : PySem.W.Frag) (C CB CN : Addr) (kn : Nat := 400) : Sp := fun vs H Q E => ∃ x y : V, vs = [x, y] ∧
  ((∃ (a : Addr) (L : Nat → V) (q b : Nat), x = .ref a ∧ y = .int b ∧ KCn kn H C a L q ∧ b ≤ 4000 - kn ∧ ∀ (z : Addr) (H' : Hp), H z = none → IsCur H' C z (latV L b) → Same H H' → Q (.ref z) H') ∨ BadNum K C CB CN H x y 4000 "beats" E)
theorem ok_lat {kn : Nat} (hkn : kn ≤ 4000) {f fI fE C CB CN CT : Addr} {fd : FuncData} (F : Fun K "later" "later" sLat f fd) (T : CurG mg) (U : CurT K mg C fI fE) (MM : ∃ t, mg "MOST_MADE" = some (.int 4000 t))
    (c_ncu : Cal P w K mg base (L2.CX P w) 3 "need_curve" ["thing"] (spNeedCur K C CB)) (c_nnm : Cal P w K mg base (L2.CX P w) 4 "need_number" ["thing", "low", "high", "part"] (spNeedNum K CN)) (c_made : Cal P w K mg base (L2.CX P w) 6 "made" ["row", "period", "growth"] (spMadeC K C CT)) :
    FnOk P w K mg base (L2.CX P w) 7 f fd nLat (spLat K C CB CN kn) := by
  refine F.okX scLat (fun vs H Q E h => ?_) (fun cdv A outer s H vs Q E hr h => ?_)
  · obtain ⟨x, y, rfl, _⟩ := h
    rfl
  · obtain ⟨x, y, rfl, h⟩ := h
    obtain ⟨tmm, mMOST_MADE⟩ := MM
    refine ⟨_, (pss_cons (ps_expr (pe_callC c_ncu (hr.mono (by decide)) rfl (passX (E := E) (takes_of rfl rfl rfl rfl) fun _ _ _ _ h => h) (pa_cons (pv 0) pa_nil)))
 (pss_cons (ps_expr (pe_callC c_nnm (hr.mono (by decide)) rfl (passX (E := E) (takes_of rfl rfl rfl rfl) fun _ _ _ _ h => h) (pa_cons (pv 1) (pa_cons pe_int (pa_cons (pe_glob (v := .int 4000) rfl mMOST_MADE ⟨_, rfl⟩) (pa_cons pe_str pa_nil))))))
 (pss_one
 (ps_ret (pe_callC c_made (hr.mono (by decide)) rfl (passX (E := E) (takes_of rfl rfl rfl rfl) fun _ _ _ _ h => h) (pa_cons (pe_op op_cat (pe_op op_rep (pe_lst (pa_cons pe_int pa_nil)) (pv 1)) (pe_callTy call_list_of (by rfl) T.list (by decide +kernel) (pa_cons (pe_fld (pv 0) rfl) pa_nil))) (pa_cons (pe_fld (pv 0) rfl) (pa_cons (pe_fld (pv 0) rfl) pa_nil)))))))), ?_⟩
    rcases h with ⟨a, L, q, b, rfl, rfl, ⟨v, r, cx, fx, CMx, lx⟩, hb, k⟩ | ⟨no, k⟩ | ⟨⟨a, rfl, ⟨v, q, r, ca⟩⟩, bad, k⟩
    rotate_left
    · exact ⟨_, rfl, _, rfl, .inr ⟨no, k⟩⟩
    · exact ⟨_, rfl, _, rfl, .inl ⟨a, v, q, r, rfl, ca, _, rfl, _, _, _, _, rfl, .inr ⟨bad, k⟩⟩⟩
    have px := fx.len
    obtain ⟨dx, t, x1, x2⟩ := id cx
    refine ⟨_, rfl, _, rfl, .inl ⟨a, v, q, r, rfl, cx, _, rfl, _, _, _, _, rfl, .inl ⟨b, rfl, by omega, by omega, ?_⟩⟩⟩
    refine ⟨(by show 1 ≤ sizeLine; decide), fun u hu => ?_⟩
    generalize g2 : upd H u _ = H2
    obtain ⟨s2, f2⟩ := alloc g2 hu
    refine ⟨_, rfl, u, b, [.int 0], rfl, rfl, f2, by omega, by omega, (by show 1 * _ ≤ sizeLine; exact line_le (by omega)), fun z1 hz1 => ?_⟩
    generalize g3 : upd H2 z1 _ = H3
    obtain ⟨s3, f3⟩ := alloc g3 hz1
    have s13 := Same.trans s2 s3
    refine ⟨_, rfl, a, C, dx, _, .ref t, rfl, s13 _ _ x1, U.cl, U.nS, rfl, t, v, rfl, .inr (SqT.of (s13 _ _ x2)), fun z2 hz2 => ?_⟩
    generalize g4 : upd H3 z2 _ = H4
    obtain ⟨s4, f4⟩ := alloc g4 hz2
    have fl : ∀ m, (List.replicate m [V.int 0]).flatten = List.replicate m (V.int 0) := fun m => by
      induction m with
      | zero => rfl
      | succ m ih => rw [List.replicate_succ, List.flatten_cons, ih, List.replicate_succ]; rfl
    refine ⟨z1, z2, _, _, rfl, rfl, s4 _ _ f3, f4, (by rw [Int.toNat_natCast, fl, List.length_replicate]; exact line_le (by omega)), fun z3 hz3 => ?_⟩
    generalize g5 : upd H4 z3 _ = H5
    obtain ⟨s5, f5⟩ := alloc g5 hz3
    have sA : Same H H5 := Same.trans s13 (Same.trans s4 s5)
    have er : (List.replicate (b : Int).toNat [V.int 0]).flatten ++ v = (List.range (b + v.length)).map (latV L b) := by
      rw [Int.toNat_natCast, fl, List.range_add, List.map_append, List.map_map]
      congr 1
      · refine List.ext_getElem? fun i => ?_
        rw [List.getElem?_replicate, List.getElem?_map]
        by_cases c : i < b
        · rw [if_pos c, List.getElem?_range c]
          show _ = some (latV L b i)
          unfold latV
          rw [if_pos c]
        · rw [if_neg c, List.getElem?_eq_none (by rw [List.length_range]; omega)]
          rfl
      · refine Eq.trans fx.row (List.map_congr_left fun j _ => ?_)
        show L j = latV L b (b + j)
        unfold latV
        rw [if_neg (by omega), Nat.add_sub_cancel_left]
    rw [er] at f5
    have fr : FormIn ((List.range (b + v.length)).map (latV L b)) q r ∧ RowF ((List.range (b + v.length)).map (latV L b)) q r (latV L b) := by
      rcases num_or_end fx with ⟨c, lc, eL, Q1⟩ | ⟨_, _, t, lt, eL, eN⟩
      · refine int_row px.1 (by omega) (by omega) CMx.g0 (by have := CMx.g1; omega) (fun j => ?_) fun j hj => ?_
        · unfold latV
          split
          · rfl
          · exact eL _
        · show ival (latV L b (j + q)) = ival (latV L b j) + r
          unfold latV
          rw [if_neg (by omega), if_neg (by omega), show j + q - b = j - b + q by omega]
          exact Q1 _ (by omega)
      · refine ends_row (t := b + t) (fun j hj => ?_) (fun j hj => ?_) (by omega) (by omega)
        · unfold latV
          split
          · rfl
          · exact eL _ (by omega)
        · unfold latV
          rw [if_neg (by omega)]
          exact eN _ (by omega)
    obtain ⟨dy, ty, y1, y2⟩ := cx.same sA
    refine ⟨_, rfl, a, C, dy, _, .int q, rfl, y1, U.cl, U.nP, rfl, _, rfl, a, C, dy, _, .int r, rfl, y1, U.cl, U.nG, rfl, z3, _, q, r, rfl, f5, fr.1, fun vals q2 r2 z4 H9 fv l4 hz4 cu9 s9 => ?_, fun vals q2 r2 fv l4 => ?_⟩
    · obtain ⟨q3, rfl, fo⟩ := form_g fv fr.2
      exact k z4 H9 (sA.free hz4) ⟨vals, q3, r2, cu9, fo⟩ (Same.trans sA s9)
    · exfalso
      have := formV_len fv
      rw [List.length_map, List.length_range] at this
      omega
abbrev nRai : List Str := ["curve", "number", "row", "one"]
theorem scRai : FnScope nRai ["curve", "number"] (defScope sRai) := ⟨rfl, rfl, rfl, by decide +kernel, rfl, by decide +kernel, by decide +kernel⟩
def raiV (L : Nat → V) (c : Int) (j : Nat) : V := match L j with
  | .int i => .int (i + c)
  | _ => .non
def spRai (K : PySem.W.Frag) (C CB CN : Addr) (kn : Nat := 400) : Sp := fun vs H Q E => ∃ x y : V, vs = [x, y] ∧
  ((∃ (a : Addr) (L : Nat → V) (q : Nat) (c : Int), x = .ref a ∧ y = .int c ∧ KCn kn H C a L q ∧ 0 ≤ c ∧ c ≤ 900000000 ∧ ∀ (z : Addr) (H' : Hp), H z = none → IsCur H' C z (raiV L c) → Same H H' → Q (.ref z) H') ∨ BadNum K C CB CN H x y 1000000000 "number" E)
theorem ok_rai {kn : Nat} (hkn : kn ≤ 4000) {f fI fE C CB CN CT : Addr} {fd : FuncData} (F : Fun K "raised" "raised" sRai f fd) (T : CurG mg) (U : CurT K mg C fI fE)
    (c_ncu : Cal P w K mg base (L2.CX P w) 3 "need_curve" ["thing"] (spNeedCur K C CB)) (c_nnm : Cal P w K mg base (L2.CX P w) 4 "need_number" ["thing", "low", "high", "part"] (spNeedNum K CN)) (c_made : Cal P w K mg base (L2.CX P w) 6 "made" ["row", "period", "growth"] (spMadeC K C CT)) :
    FnOk P w K mg base (L2.CX P w) 7 f fd ["curve", "number"] (spRai K C CB CN kn) := by
  refine F.okX scRai (fun vs H Q E h => ?_) (fun cdv A outer s H vs Q E hr h => ?_)
  · obtain ⟨x, y, rfl, _⟩ := h
    rfl
  · obtain ⟨x, y, rfl, h⟩ := h
    obtain ⟨tm, mMOST⟩ := T.most
    refine ⟨_, (pss_cons (ps_expr (pe_callC c_ncu (hr.mono (by decide)) rfl (passX (E := E) (takes_of rfl rfl rfl rfl) fun _ _ _ _ h => h) (pa_cons (pv 0) pa_nil)))
 (pss_cons (ps_expr (pe_callC c_nnm (hr.mono (by decide)) rfl (passX (E := E) (takes_of rfl rfl rfl rfl) fun _ _ _ _ h => h) (pa_cons (pv 1) (pa_cons pe_int (pa_cons (pe_glob (v := .int 1000000000) rfl mMOST ⟨_, rfl⟩) (pa_cons pe_str pa_nil))))))
 (pss_cons (ps_setLc (i := 2) (own := [("one", 3)]) (g := (gName 3)) (tt := tYes) rfl scRai.nd rfl rfl (sw_true rfl rfl rfl (by decide +kernel)) (pi_tup (pe_fld (pv 0) rfl)) (blkOk_by (N := nRai) (sc := defScope sRai) (by decide +kernel)) (fun _ _ _ _ _ => (pg_name (i := 3) scRai.nd rfl (Or.inl rfl))) (fun _ _ _ _ _ => pts_nil) (fun _ _ _ _ _ => (pe_ifExp (pt_cmpR op_isN (pv 3) pe_non (nomark _)) pe_non (pe_op op_add (pv 3) (pv 1)))))
 (pss_one
 (ps_ret (pe_callC c_made (hr.mono (by decide)) rfl (passX (E := E) (takes_of rfl rfl rfl rfl) fun _ _ _ _ h => h) (pa_cons (pv 2) (pa_cons (pe_fld (pv 0) rfl) (pa_cons (pe_fld (pv 0) rfl) pa_nil))))))))), ?_⟩
    rcases h with ⟨a, L, q, c, rfl, rfl, ⟨v, r, cx, fx, CMx, lx⟩, c0, c1, k⟩ | ⟨no, k⟩ | ⟨⟨a, rfl, ⟨v, q, r, ca⟩⟩, bad, k⟩
    rotate_left
    · exact ⟨_, rfl, _, rfl, .inr ⟨no, k⟩⟩
    · exact ⟨_, rfl, _, rfl, .inl ⟨a, v, q, r, rfl, ca, _, rfl, _, _, _, _, rfl, .inr ⟨bad, k⟩⟩⟩
    have px := fx.len
    obtain ⟨dx, t, x1, x2⟩ := id cx
    refine ⟨_, rfl, _, rfl, .inl ⟨a, v, q, r, rfl, cx, _, rfl, _, _, _, _, rfl, .inl ⟨c, rfl, by omega, by omega, ?_⟩⟩⟩
    have vi : ∀ i, i < v.length → v[i]? = some (L i) := fun i hi => (fx.rowF (by omega)).get hi
    refine ⟨_, rfl, a, C, dx, _, .ref t, rfl, x1, U.cl, U.nS, rfl, t, rfl, ⟨_, SqT.of x2⟩, fun D hD => LM.lcM (walk_tup (xs := v)) (fun i => raiV L c i) hD (by omega) (fun H2 s2 => SqT.of (s2 _ _ x2)) ?_ ?_⟩
    · rintro i x H2 H3 hi s2 ⟨rfl, hx⟩ R N kk
      rw [vi i hi] at hx
      obtain rfl := Option.some.inj hx
      have kk := kk _ (Same.refl _)
      rcases fx.flatL i with z | z
      · have e : raiV L c i = .non := by unfold raiV; rw [z]
        rw [e] at kk
        exact ⟨rfl, _, rfl, rfl, true, bT z, iteT kk⟩
      · obtain ⟨w1, hw⟩ : ∃ w1, L i = .int w1 := ⟨_, z⟩
        have e : raiV L c i = .int (w1 + c) := by unfold raiV; rw [hw]
        rw [e] at kk
        rw [hw]
        exact ⟨rfl, _, rfl, rfl, false, rfl, iteF ⟨_, rfl, _, rfl, _, _, rfl, rfl, kk⟩⟩
    · intro H2 hd s2
      have fr : FormIn ((List.range v.length).map (raiV L c)) q (r) ∧ RowF ((List.range v.length).map (raiV L c)) q (r) (raiV L c) := by
        rcases num_or_end fx with ⟨b, lc, eL, Q1⟩ | ⟨_, _, t, lt, eL, eN⟩
        · have ej : ∀ j, raiV L c j = .int (ival (L j) + c) := fun j => by unfold raiV; rw [eL j]; rfl
          refine int_row px.1 px.2 (by omega) ?_ ?_ (fun j => by rw [ej]; rfl) fun j hj => ?_
          · exact CMx.g0
          · have := CMx.g1; omega
          · show ival (raiV L c (j + q)) = ival (raiV L c j) + _
            rw [ej, ej]
            show ival (L (j + q)) + c = ival (L j) + c + _
            have q1 : ival (L (j + q)) = ival (L j) + r := Q1 j (by omega)
            rw [q1]
            omega
        · refine ends_row (t := t) (fun j hj => ?_) (fun j hj => ?_) (by omega) (by omega)
          · unfold raiV
            rw [eL j hj]
            rfl
          · unfold raiV
            rw [eN j hj]
      obtain ⟨dy, ty, y1, y2⟩ := cx.same s2
      refine ⟨_, rfl, _, rfl, a, C, dy, _, .int q, rfl, y1, U.cl, U.nP, rfl, _, rfl, a, C, dy, _, .int r, rfl, y1, U.cl, U.nG, rfl, D, _, q, r, rfl, hd, fr.1, fun vals q2 r2 z4 H9 fv l4 hz4 cu9 s9 => ?_, fun vals q2 r2 fv l4 => ?_⟩
      · obtain ⟨q3, rfl, fo⟩ := form_g fv fr.2
        exact k z4 H9 (s2.free hz4) ⟨vals, q3, r2, cu9, fo⟩ (Same.trans s2 s9)
      · exfalso
        have := formV_len fv
        rw [List.length_map, List.length_range] at this
        omega
end
end WW
end

section
set_option Elab.async false
set_option linter.all false
set_option maxRecDepth 100000
set_option maxHeartbeats 8000000
namespace WW
open PySem L2 WO WG RZ WQ WT WC
abbrev sFne : Stmt := top 26
abbrev sLab : Stmt := top 44
theorem mx_mem {f : Nat → Int} {n : Nat} {m : Int} (h : m ∈ (List.range n).map f) : ∃ j, j < n ∧ f j = m := by
  obtain ⟨j, hj, e⟩ := List.mem_map.mp h
  exact ⟨j, List.mem_range.mp hj, e⟩
theorem mx_le {f : Nat → Int} {n : Nat} {m : Int} (h : ∀ y, y ∈ (List.range n).map f → y ≤ m) : ∀ j, j < n → f j ≤ m := fun j hj => h _ (List.mem_map.mpr ⟨j, List.mem_range.mpr hj, rfl⟩)
/-- the last place of a row that is above a number -/
theorem last_place {d : Nat → Int} {n : Nat} {m : Int} (h : ∃ i, i < n ∧ m < d i) : ∃ t, t < n ∧ m < d t ∧ ∀ j, t < j → j < n → d j ≤ m := by
  induction n with
  | zero => obtain ⟨i, hi, _⟩ := h; omega
  | succ n ih =>
    by_cases c : m < d n
    · exact ⟨n, by omega, c, fun j h1 h2 => by omega⟩
    · obtain ⟨i, hi, hd⟩ := h
      have : i ≠ n := fun z => by subst z; exact c hd
      obtain ⟨t, t1, t2, t3⟩ := ih ⟨i, by omega, hd⟩
      refine ⟨t, by omega, t2, fun j h1 h2 => ?_⟩
      by_cases e : j = n
      · subst e; omega
      · exact t3 j h1 (by omega)
def LastAb (d : Nat → Int) (n b : Nat) (G : Int) (r : V) : Prop := (r = .non ∧ ∀ j, j < n → d j ≤ 0) ∨ ∃ t k : Nat, r = .int ((b + t + k * n : Nat) : Int) ∧ t < n ∧ (k : Int) * G < d t ∧ (∀ j, t < j → j < n → d j ≤ (k : Int) * G) ∧ ∀ j, j < n → d j ≤ ((k + 1 : Nat) : Int) * G
section
variable {P : Program} {w : World} {K : PySem.W.Frag} {mg : Str → Option Value} {base : Heap}
abbrev nFne : List Str := ["curve"]
theorem scFne : FnScope nFne ["curve"] (defScope sFne) := ⟨rfl, rfl, rfl, by decide +kernel, rfl, by decide +kernel, by decide +kernel⟩
def spFne (K : PySem.W.Frag) (C : Addr) : Sp := fun vs H Q _ => ∃ (x : Addr) (v : List V) (q r : Int), vs = [.ref x] ∧ CurveAt H C x v q r ∧ 0 < v.length ∧ Q (.int ((v.length - 1 : Nat) : Int)) H
theorem ok_fne {f fI fE C : Addr} {fd : FuncData} (F : Fun K "first_none" "first_none" sFne f fd) (T : CurG mg) (U : CurT K mg C fI fE) : FnOk P w K mg base CX0 1 f fd ["curve"] (spFne K C) := by
  refine F.ok scFne (fun vs H Q E h => ?_) (fun cdv A outer s H vs Q E hr h => ?_)
  · obtain ⟨x, v, p, r, rfl, _⟩ := h
    rfl
  · obtain ⟨x, v, p, r, rfl, ⟨dx, t, h1, h2⟩, hp, k⟩ := h
    refine ⟨_, (pss_one
 (ps_ret (pe_op op_sub (pe_callB call_len_seq (by rfl) T.len PySem.boot_len (pa_cons (pe_fld (pv 0) rfl) pa_nil)) pe_int))), ?_⟩
    refine ⟨_, rfl, x, C, dx, _, .ref t, rfl, h1, U.cl, U.nS, rfl, t, v, rfl, .inr (SqT.of h2), _, _, rfl, rfl, ?_⟩
    rw [← show (v.length : Int) - 1 = ((v.length - 1 : Nat) : Int) by omega] at k
    exact k
abbrev nLab : List Str := ["row", "other_row", "begin", "gain", "gaps", "most", "rounds", "place"]
theorem scLab : FnScope nLab ["row", "other_row", "begin", "gain"] (defScope sLab) := ⟨rfl, rfl, rfl, by decide +kernel, rfl, by decide +kernel, by decide +kernel⟩
def spLab (K : PySem.W.Frag) : Sp := fun vs H Q _ => ∃ (a b : Addr) (n c : Nat) (f g : Nat → Int) (G : Int), vs = [.ref a, .ref b, .int c, .int G] ∧ H a = some (.lst ((List.range n).map fun j => V.int (f j))) ∧ H b = some (.lst ((List.range n).map fun j => V.int (g j))) ∧ 0 < n ∧ n ≤ 100000 ∧ 0 < G ∧ G < 2 ^ 60 ∧
  ∀ r, LastAb (fun j => f j - g j) n c G r → ∀ H', Same H H' → Q r H'
theorem ok_lab {f : Addr} {fd : FuncData} (F : Fun K "last_above" "last_above" sLab f fd) (T : CurG mg) (nmax : mg "max" = none)
    (c_gap : Cal P w K mg base CX0 1 "gaps_of" ["row", "other_row"] (spGap K)) : FnOk P w K mg base CX0 2 f fd ["row", "other_row", "begin", "gain"] (spLab K) := by
  refine F.ok scLab (fun vs H Q E h => ?_) (fun cdv A outer s H vs Q E hr h => ?_)
  · obtain ⟨a, b, n, c, f, g, G, rfl, _⟩ := h
    rfl
  · obtain ⟨a, b, n, c, f, g, G, rfl, ha, hb, n0, hn, G0, G1, k⟩ := h
    refine ⟨_, (C8.pss_cut (ps_set (i := 4) scLab.nd rfl (Or.inl rfl) (pe_callC c_gap (hr.mono (by decide)) rfl pass0 (pa_cons (pv 0) (pa_cons (pv 1) pa_nil))))
 (C8.pss_cut (ps_set (i := 5) scLab.nd rfl (Or.inl rfl) (pe_callB (cr_max rfl) (by rfl) nmax (by decide +kernel) (pa_cons (pv 4) pa_nil)))
 (C8.pss_cut (ps_if (pt_cmpR op_le (pv 5) pe_int (nomark _)) (pss_one
 (ps_ret pe_non)) pss_nil)
 (C8.pss_cut (ps_set (i := 6) scLab.nd rfl (Or.inl rfl) (pe_op op_fdivW (pe_op op_sub (pv 5) pe_int) (pv 3)))
 (C8.pss_cut (ps_set (i := 7) scLab.nd rfl (Or.inl rfl) (pe_op op_sub (pe_callB call_len_seq (by rfl) T.len PySem.boot_len (pa_cons (pv 4) pa_nil)) pe_int))
 (C8.pss_cut (ps_while PassesOwn.never (pt_cmpR op_le (pe_ix ix_list (pv 4) (pv 7) (fun _ _ => rfl)) (pe_op op_mul (pv 6) (pv 3)) (nomark _)) (pss_one
 (ps_aug (i := 7) scLab.nd rfl (Or.inl rfl) pe_int ip_sub)))
 (pss_one
 (ps_ret (pe_op op_add (pe_op op_add (pv 2) (pv 7)) (pe_op op_mul (pv 6) (pe_callB call_len_seq (by rfl) T.len PySem.boot_len (pa_cons (pv 4) pa_nil)))))))))))), ?_⟩
    generalize hd : (fun j => f j - g j) = d at *
    refine ⟨fun σ H' => ∃ z, σ = [some (.ref a), some (.ref b), some (.int c), some (.int G), some (.ref z), none, none, none] ∧ H' z = some (.lst ((List.range n).map fun j => V.int (d j))) ∧ Same H H', ?_, ?_⟩
    · refine ⟨_, rfl, _, rfl, a, b, n, f, g, rfl, ha, hb, hn, fun z H1 hz ez s1 => ⟨z, rfl, ?_, s1⟩⟩
      rw [← hd]
      exact ez
    rintro σ H1 ⟨z, rfl, hz, s1⟩
    have gm : ∀ j, j < n → ((List.range n).map fun j => V.int (d j))[j]? = some (V.int (d j)) := fun j hj => by
      rw [List.getElem?_map, List.getElem?_range hj]
      rfl
    have lz : ((List.range n).map fun j => V.int (d j)).length = n := by rw [List.length_map, List.length_range]
    refine ⟨fun σ H' => ∃ m : Int, σ = [some (.ref a), some (.ref b), some (.int c), some (.int G), some (.ref z), some (.int m), none, none] ∧ H' = H1 ∧ (∃ i, i < n ∧ d i = m) ∧ ∀ j, j < n → d j ≤ m, ?_, ?_⟩
    · refine ⟨_, rfl, z, (List.range n).map d, rfl, ?_, ?_, fun m hm hle => ⟨m, rfl, rfl, mx_mem hm, mx_le hle⟩⟩
      · rw [List.map_map]
        exact SqL.of hz
      · rw [List.length_map, List.length_range]
        exact n0
    rintro σ H2 ⟨m, rfl, rfl, ⟨i0, i1, i2⟩, mle⟩
    refine ⟨fun σ H' => σ = [some (.ref a), some (.ref b), some (.int c), some (.int G), some (.ref z), some (.int m), none, none] ∧ H' = H2 ∧ 0 < m, ?_, ?_⟩
    · refine ⟨_, rfl, _, _, rfl, rfl, ?_⟩
      by_cases m0 : m ≤ 0
      · exact ⟨true, bT m0, iteT (k _ (.inl ⟨rfl, fun j hj => Int.le_trans (mle j hj) m0⟩) H2 s1)⟩
      · exact ⟨false, bF m0, iteF ⟨rfl, rfl, by omega⟩⟩
    rintro σ H3 ⟨rfl, rfl, m0⟩
    have k0 : 0 ≤ (m - 1) / G := Int.ediv_nonneg (by omega) (by omega)
    have dm := Int.emod_add_mul_ediv (m - 1) G
    have dl := Int.emod_lt_of_pos (m - 1) G0
    have dn := Int.emod_nonneg (m - 1) (show G ≠ 0 by omega)
    have cm : (m - 1) / G * G = G * ((m - 1) / G) := Int.mul_comm ..
    obtain ⟨t, t1, t2, t3⟩ := last_place (d := d) (n := n) (m := (m - 1) / G * G) ⟨i0, i1, by omega⟩
    refine ⟨fun σ H' => σ = [some (.ref a), some (.ref b), some (.int c), some (.int G), some (.ref z), some (.int m), some (.int ((m - 1) / G)), none] ∧ H' = H3, ?_, ?_⟩
    · exact ⟨_, rfl, _, _, rfl, rfl, _, rfl, _, _, rfl, rfl, wide_div (b := 64) G0 (by omega) (by decide) (by decide), rfl, rfl⟩
    rintro σ H4 ⟨rfl, rfl⟩
    generalize hR : (m - 1) / G = R at *
    refine ⟨fun σ H' => σ = [some (.ref a), some (.ref b), some (.int c), some (.int G), some (.ref z), some (.int m), some (.int R), some (.int ((n - 1 : Nat) : Int))] ∧ H' = H4, ?_, ?_⟩
    · refine ⟨_, rfl, z, _, rfl, .inl (SqL.of hz), _, _, rfl, rfl, ?_, rfl⟩
      rw [lz]
      show [_, _, _, _, _, _, _, some (V.int ((n : Int) - 1))] = _
      rw [show (n : Int) - 1 = ((n - 1 : Nat) : Int) by omega]
    rintro σ H5 ⟨rfl, rfl⟩
    refine ⟨fun σ H' => σ = [some (.ref a), some (.ref b), some (.int c), some (.int G), some (.ref z), some (.int m), some (.int R), some (.int (t : Int))] ∧ H' = H5, ?_, ?_⟩
    · refine while_by (fun σ H' => ∃ e : Nat, σ = [some (.ref a), some (.ref b), some (.int c), some (.int G), some (.ref z), some (.int m), some (.int R), some (.int e)] ∧ t ≤ e ∧ e < n ∧ H' = H5)
        (fun σ _ => match σ with
          | [_, _, _, _, _, _, _, some (.int e)] => e.toNat
          | _ => 0) ⟨n - 1, rfl, by omega, by omega, rfl⟩ ?_ ?_
      · rintro σ H6 ⟨e, rfl, te, en, rfl⟩
        refine ⟨_, rfl, _, rfl, z, _, _, _, rfl, rfl, SqL.of hz, atI_nat (gm e en), _, rfl, _, rfl, _, _, rfl, rfl, .inr ⟨by omega, by omega⟩, _, _, rfl, rfl, ?_⟩
        by_cases c : d e ≤ R * G
        · have ne : e ≠ t := fun z => by subst z; omega
          refine ⟨true, bT c, iteT ⟨_, rfl, _, _, rfl, rfl, ⟨e - 1, ?_, by omega, by omega, rfl⟩, ?_⟩⟩
          · show [_, _, _, _, _, _, _, some (V.int ((e : Int) - 1))] = _
            rw [show (e : Int) - 1 = ((e - 1 : Nat) : Int) by omega]
          · show ((e : Int) - 1).toNat < (e : Int).toNat
            omega
        · have : e = t := Classical.byContradiction fun ne => c (t3 e (by omega) en)
          subst this
          exact ⟨false, bF c, iteF ⟨rfl, rfl⟩⟩
      · intro σ H Q Q' m h
        obtain ⟨w1, f1, w2, f2, pp, xs, ii, vv, k1, k2, k3, k4, w4, f4, w5, f5, i1, j1, g1, g2, cc, i2, j2, g3, g4, b, eb, hQ⟩ := h
        exact ⟨w1, f1, w2, f2, pp, xs, ii, vv, k1, k2, k3, k4, w4, f4, w5, f5, i1, j1, g1, g2, cc, i2, j2, g3, g4, b, eb, m _ _ hQ⟩
    rintro σ H6 ⟨rfl, rfl⟩
    refine ⟨_, rfl, _, rfl, _, _, rfl, rfl, _, rfl, _, rfl, z, _, rfl, .inl (SqL.of hz), _, _, rfl, rfl, .inr ⟨by rw [lz]; omega, by rw [lz]; omega⟩, _, _, rfl, rfl, ?_⟩
    have er : (R.toNat : Int) = R := by omega
    have ev : (c : Int) + (t : Int) + R * (n : Int) = ((c + t + R.toNat * n : Nat) : Int) := by
      rw [Int.natCast_add, Int.natCast_add, Int.natCast_mul, er]
    refine k _ (.inr ⟨t, R.toNat, ?_, t1, ?_, fun j h1 h2 => ?_, fun j hj => ?_⟩) H6 s1
    · rw [lz]
      show V.int ((c : Int) + (t : Int) + R * (n : Int)) = _
      rw [ev]
    · rw [er]; exact t2
    · rw [er]; exact t3 j h1 h2
    · rw [show ((R.toNat + 1 : Nat) : Int) = R + 1 by omega, Int.add_mul, Int.one_mul]
      have := mle j hj
      omega
end
end WW
end

section
set_option Elab.async false
set_option linter.all false
set_option maxRecDepth 100000
set_option maxHeartbeats 4000000
namespace WW
open PySem L2 WO WG RZ WQ WT WC
end WW
end

section
set_option Elab.async false
set_option linter.all false
set_option maxRecDepth 100000
set_option maxHeartbeats 4000000
/-! Lists and tuples alike: walks (beside Sq). -/
namespace WQ
open PySem PySem.Spec PyProof.Rows L2 RZ
def rSlC (K : PySem.W.Frag) : V → Option Int → Option Int → Hp → VK → Prop := fun x lo hi H Q => ∃ a xs, x = .ref a ∧ SeqA K H a xs ∧
  ∀ (H' : Hp) (p : Addr), Same H H' → SeqA K H' p (cutV xs lo hi) → (∀ ys, SqT K H a ys → SqT K H' p (cutV xs lo hi)) → (∀ ys, SqL K H a ys → SqL K H' p (cutV xs lo hi)) → Q (.ref p) H'
section
variable {X : Cx}
theorem not_both {pins : List (Addr × Obj)} {σ : L2.St} {H : Hp} {s : Shared} {a : Addr} {xs ys : List V} (I : Inv X pins σ H s) (h1 : SqL X.K H a xs) (h2 : SqT X.K H a ys) : False := by
  obtain ⟨its, rv, pl1, _⟩ := I.list h1
  obtain ⟨its2, rv2, pt, _⟩ := I.tuple h2
  obtain ⟨o, e1, e2, _⟩ := pt
  obtain ⟨o', e1', e2', _⟩ := pl1.isList
  rw [e1] at e1'
  cases e1'
  rw [e2] at e2'
  exact absurd (Value.type.inj e2') (by decide)
theorem sl_seqC : SlR X (rSlC X.K) := by
  intro pins s σ H x v vl vu lo hi sl Q I rx hs pl pu h
  obtain ⟨a, xs, rfl, hx, q⟩ := h
  rcases hx with hx | hx
  · exact sl_list pins s σ H _ v vl vu lo hi sl Q I rx hs pl pu ⟨a, xs, rfl, hx, fun p hp => q _ p (new_same hp) (.inl (SqL.of upd_same)) (fun ys hy => (not_both I hx hy).elim) fun _ _ => SqL.of upd_same⟩
  · refine sl_tupA pins s σ H _ v vl vu lo hi sl Q I rx hs pl pu ⟨a, xs, rfl, hx, fun w => ?_, fun _ p hp => q _ p (new_same hp) (.inr (SqT.of upd_same)) (fun _ _ => SqT.of upd_same) fun ys hy => (not_both I hy hx).elim⟩
    have e := cut_whole w
    exact q H a (fun _ _ z => z) (by rw [e]; exact .inr hx) (fun _ _ => by rw [e]; exact hx) fun _ hy => (not_both I hy hx).elim
end
/-! ### walks -/
/-- a list stays a list, a tuple a tuple -/
def KeepS (K : PySem.W.Frag) (H H' : Hp) (a : Addr) (xs : List V) : Prop := (SqL K H a xs → SqL K H' a xs) ∧ (SqT K H a xs → SqT K H' a xs)
theorem KeepS.of {K : PySem.W.Frag} {H H' : Hp} (s : Same H H') (a : Addr) (xs : List V) : KeepS K H H' a xs := ⟨fun h => s.seq h, fun h => SqT.ext h s⟩
/-- behind the making of a list that is changed later on -/
theorem KeepS.past {K : PySem.W.Frag} {H1 H2 H3 : Hp} {l : Addr} {o : HO} (g : upd H1 l o = H2) (s : Same H1 H3) {a : Addr} {xs : List V} (h1 : o ≠ .lst xs) (h2 : o ≠ .tup xs) (h3 : ∀ ob u, o ≠ .frz ob u) : KeepS K H2 H3 a xs := by
  subst g
  have ne : ∀ {b u}, upd H1 l o b = some u → o ≠ u → H3 b = some u := fun {b u} e n => by
    have nb : b ≠ l := fun z => by
      rw [z, upd_same] at e
      exact n (Option.some.inj e)
    rw [upd_ne nb] at e
    exact s _ _ e
  constructor
  · rintro ((h | ⟨ob, h⟩) | h)
    · exact .inl (.inl (ne h h1))
    · exact .inl (.inr ⟨ob, ne h (h3 _ _)⟩)
    · exact .inr h
  · rintro ((h | ⟨ob, h⟩) | h)
    · exact .inl (.inl (ne h h2))
    · exact .inl (.inr ⟨ob, ne h (h3 _ _)⟩)
    · exact .inr h
/-- a list's or a tuple's walk, alike -/
def iSeq (K : PySem.W.Frag) (tl : TE) : TI := fun σ H R => tl σ H fun x H1 => ∃ a xs, x = .ref a ∧ SeqA K H1 a xs ∧
  ∀ (J : It) (G : Hp → Prop), Walk J xs.length G (YAt xs) → (∀ H', KeepS K H1 H' a xs → G H') → R J H1
section
variable {X : Cx} {tg : Expr}
theorem pi_seq {l : Expr} {tl : TE} (hl : PE X l tl) : PI X tg l (iSeq X.K tl) := by
  refine ⟨fun pins s σ H R I h => thn (hl.run pins s σ H _ I h) fun v s1 ⟨x, H1, I1, r1, a, xs, e, hq, q⟩ => ?_⟩
  subst e
  cases r1
  have one : ∀ b ∈ [s1.heap.objs.size], FpOk X pins H1 b := by
    intro b hb
    obtain rfl : b = s1.heap.objs.size := by simpa using hb
    exact I1.fpOk (Nat.le_refl _) (I1.hok.fresh (Nat.le_refl _))
  rcases hq with hq | hq
  · obtain ⟨its, rv, p, hz⟩ := I1.list hq
    exact wpAny_pyIter_list p.isList ⟨_, [_], _, _, H1, rfl, I1.kept (t' := s1.toks) fun b o e => Heap.get?_push_of_some _ e, turn_list a _, ⟨_, Heap.get?_push_size _ rfl, rfl, rfl⟩, one, q _ _ walk_list fun H' s => s.1 hq⟩
  · obtain ⟨its, rv, p, hz⟩ := I1.tuple hq
    exact wpAny_pyIter_tuple (show s1.heap.IsTuple a its.toArray from p) ⟨_, [_], _, _, H1, rfl, I1.kept (t' := s1.toks) fun b o e => Heap.get?_push_of_some _ e, turn_tuple a _, ⟨_, Heap.get?_push_size _ rfl, rfl, rfl⟩, one, q _ _ walk_tup fun H' s => s.2 hq⟩
end
theorem walk_zipT {K : PySem.W.Frag} {a b : Addr} {xs ys : List V} {n : Nat} (hn : n = min xs.length ys.length) : Walk (ItzT K a b) n (fun H => SqT K H a xs ∧ SqT K H b ys) (YPair (fun i => xs[i]?) (fun i => ys[i]?)) where
  goes := fun i H hi ⟨h1, h2⟩ => ⟨xs, ys, xs[i]'(by omega), ys[i]'(by omega), h1, h2, List.getElem?_eq_getElem _, List.getElem?_eq_getElem _⟩
  stops := fun H ⟨h1, h2⟩ => ⟨xs, ys, h1, h2, by omega⟩
  yields := fun i H x H' hi ⟨h1, h2⟩ ⟨T, x1, y1, e1, e2, e3, e4, e5⟩ => ⟨T, x1, y1, e1, e2, e3, e4 _ h1, e5 _ h2⟩
/-- two lists, or two tuples -/
def SeqP (K : PySem.W.Frag) (H : Hp) (a : Addr) (xs : List V) (b : Addr) (ys : List V) : Prop := (SqL K H a xs ∧ SqL K H b ys) ∨ (SqT K H a xs ∧ SqT K H b ys)
theorem SeqP.same {K : PySem.W.Frag} {H H' : Hp} {a b : Addr} {xs ys : List V} (h : SeqP K H a xs b ys) (s : Same H H') : SeqP K H' a xs b ys := by
  rcases h with ⟨h1, h2⟩ | ⟨h1, h2⟩
  · exact .inl ⟨s.seq h1, s.seq h2⟩
  · exact .inr ⟨SqT.ext h1 s, SqT.ext h2 s⟩
theorem SeqP.l {K : PySem.W.Frag} {H : Hp} {a b : Addr} {xs ys : List V} (h : SeqP K H a xs b ys) : SeqA K H a xs := by
  rcases h with ⟨h1, h2⟩ | ⟨h1, h2⟩
  · exact .inl h1
  · exact .inr h1
theorem SeqP.r {K : PySem.W.Frag} {H : Hp} {a b : Addr} {xs ys : List V} (h : SeqP K H a xs b ys) : SeqA K H b ys := by
  rcases h with ⟨h1, h2⟩ | ⟨h1, h2⟩
  · exact .inl h2
  · exact .inr h2
theorem SeqP.swap {K : PySem.W.Frag} {H : Hp} {a b : Addr} {xs ys : List V} (h : SeqP K H a xs b ys) : SeqP K H b ys a xs := by
  rcases h with ⟨h1, h2⟩ | ⟨h1, h2⟩
  · exact .inl ⟨h2, h1⟩
  · exact .inr ⟨h2, h1⟩
def iZipS (K : PySem.W.Frag) (ta : TA) : TI := fun σ H R => ta σ H fun vs H1 => ∃ a b xs ys, vs = [.ref a, .ref b] ∧ SeqP K H1 a xs b ys ∧
  ∀ (J : It) (G : Hp → Prop), Walk J (min xs.length ys.length) G (YPair (fun i => xs[i]?) (fun i => ys[i]?)) → (∀ H', KeepS K H1 H' a xs → KeepS K H1 H' b ys → G H') → R J H1
theorem pi_zipS {X : Cx} {e e2 : Expr} {ta : TA} {p pos tpos : Pos} {elts : List Expr} {kk : Nat} (hg : Gl X "zip") (hm : X.mg "zip" = none) (ha : PA X [e, e2] ta)
    (h1 : starEach [e, e2] X.env = (false, eval e X.env) :: starEach [e2] X.env := by rfl) (h2 : (backTo pos (starEach [e2] X.env)).any (·.1) = false := by rfl) :
    PI X (.Tuple elts kk tpos) (.Call (.Name "zip" p) [e, e2] [] pos) (iZipS X.K ta) := by
  refine ⟨fun pins s σ H R I h => Call_ (ld_blt I hg hm PyProof.Rows.boot_zip (PyProof.Rows.callWith_type1 (thn (ha.run pos pins s σ H _ I h) fun us s1 ⟨vs, H1, I1, r1, a, b, xs, ys, ex, hq, q⟩ => ?_) h1 h2))⟩
  subst ex
  cases r1 with
  | cons r rr =>
    cases rr with
    | cons r' rr =>
      cases rr
      cases r
      cases r'
      have five : ∀ c ∈ [s1.heap.objs.size + 4, s1.heap.objs.size + 2, s1.heap.objs.size + 3, s1.heap.objs.size, s1.heap.objs.size + 1], FpOk X pins H1 c := by
        intro c hc
        have le : s1.heap.objs.size ≤ c := by
          simp only [List.mem_cons, List.not_mem_nil, or_false] at hc
          rcases hc with z | z | z | z | z <;> rw [z] <;> first | exact Nat.le_add_right _ _ | exact Nat.le_refl _
        exact I1.fpOk le (I1.hok.fresh le)
      rcases hq with ⟨qx, qy⟩ | ⟨qx, qy⟩
      · obtain ⟨_, _, p1, _⟩ := I1.list qx
        obtain ⟨_, _, p2, _⟩ := I1.list qy
        refine call_zip_2 p1.isList p2.isList fun g hz hTI hTO i1 i2 _ hk => wpAny_pyIter_zip hz ?_
        exact ⟨_, [_, _, _, _, _], _, _, H1, rfl, I1.kept (t' := s1.toks) hk, turn_zip (PySem.W.ktu_apart s1.heap.objs.size a b p1.lt p2.lt), ⟨hz, hTI, ⟨_, _, hTO⟩, i1, i2⟩, five, q _ _ (walk_zip rfl) fun H' s t => ⟨s.1 qx, t.1 qy⟩⟩
      · obtain ⟨its1, _, p1, _⟩ := I1.tuple qx
        obtain ⟨its2, _, p2, _⟩ := I1.tuple qy
        obtain ⟨_, l1, _⟩ := id p1
        obtain ⟨_, l2, _⟩ := id p2
        refine call_zipT (show s1.heap.IsTuple a its1.toArray from p1) (show s1.heap.IsTuple b its2.toArray from p2) fun g hz hTI hTO i1 i2 _ hk => wpAny_pyIter_zip hz ?_
        exact ⟨_, [_, _, _, _, _], _, _, H1, rfl, I1.kept (t' := s1.toks) hk, turn_zipT (PySem.W.ktu_apart s1.heap.objs.size a b (Heap.lt_size l1) (Heap.lt_size l2)), ⟨hz, hTI, ⟨_, _, hTO⟩, i1, i2⟩, five,
          q _ _ (walk_zipT rfl) fun H' s t => ⟨s.2 qx, t.2 qy⟩⟩
/-! ### enumerate of a list or a tuple -/
def IteT (K : PySem.W.Frag) (a : Addr) (n : Nat) : It :=
  ⟨fun i H => ∃ (xs : List V) (x : V), SqT K H a xs ∧ xs.length = n ∧ xs[i]? = some x,
   fun i H v H' => ∃ T x, v = .ref T ∧ H T = none ∧ H' = upd H T (.tup [.int (i : Nat), x]) ∧ ∀ xs, SqT K H a xs → xs[i]? = some x,
   fun i H => ∃ xs : List V, SqT K H a xs ∧ xs.length = n ∧ n ≤ i⟩
theorem turn_enumT {P : Program} {w : World} {K : PySem.W.Frag} {elts : List Expr} {kk : Nat} {tpos : Pos} (a e it : Addr) (n : Nat) (hea : e ≠ a) (hia : a ≠ it) :
    Turn P w K (.Tuple elts kk tpos) (IteT K a n) [e, it] e (fun i h => ((∃ old, IsEnum h e it ((i : Nat) : Int) old) ∧ h.IsTupleIter it a i ∧ e ≠ it) ∧ i ≤ n) where
  mem := by simp
  obj := by
    rintro i h ⟨⟨⟨old, he⟩, ⟨o, ho, hc, hd⟩, _⟩, _⟩ b hb
    rcases (show b = e ∨ b = it by simpa using hb) with rfl | rfl
    · exact ⟨_, he, fun v q => nomatch q⟩
    · exact ⟨o, ho, fun v q => by rw [hd] at q; cases q⟩
  keep := by
    rintro i h h' ⟨⟨⟨old, he⟩, hi, hne⟩, hn⟩ k
    exact ⟨⟨⟨old, k e (by simp) _ he⟩, hi.at fun o q => k it (by simp) o q, hne⟩, hn⟩
  item := by
    rintro X rfl rfl rfl hc i pins s σ H E I hf ⟨⟨⟨old, he⟩, hit, hne⟩, hni⟩ ⟨xs, x, hq, hxn, hx⟩
    obtain ⟨its, rv, p, hz⟩ := I.tuple hq
    obtain ⟨u, hu, ru⟩ := rv.get hx
    have hel : e < s.heap.objs.size := Heap.lt_size he
    have hil : it < s.heap.objs.size := by obtain ⟨_, q, _⟩ := hit; exact Heap.lt_size q
    have pT : s.heap.IsTuple a its.toArray := p
    have il : i < its.toArray.size := by
      have := (List.getElem?_eq_some_iff.mp hu).1
      simpa using this
    refine wpAny_pyNext_enum_itemC (Draws.tuple (prog := X.prog) (w := X.w) (A := X.A.in1) (show X.A.in1.handled = none from I.ok.hd hc) it a hia its.toArray) he ⟨hit, pT⟩ il hne (by simp [hne, hea]) fun y h1 tk hy ho hst hT hsz hk => ?_
    have ey : y = u := by
      have hy' : its.toArray[i]? = some y := hy
      rw [List.getElem?_toArray, hu] at hy'
      exact (Option.some.inj hy').symm
    subst ey
    refine ⟨_, rfl, wpAny_letOwnedTupleGo_enum (s := { s with heap := h1, toks := tk + 1 }) ho fun h2 he2 sb => ?_⟩
    have hT2 : h2.get? s.heap.objs.size = some { cls := .type "tuple", data := .seq #[.int i tk, y] } := (sb.2 _ (Nat.ne_of_gt hel)).trans hT
    have new : ObjOk X.prog X.w (upd H s.heap.objs.size (.tup [.int (i : Nat), x])) h2 s.heap.objs.size (.tup [.int (i : Nat), x]) :=
      ⟨by show 2 ≤ sizeLine; decide, [.int i tk, y], .cons ⟨_, rfl⟩ (.cons ru .nil), ⟨_, hT2, rfl, _, rfl⟩⟩
    have I1 : Inv X pins σ (upd H s.heap.objs.size (.tup [.int (i : Nat), x])) { s with heap := h2, toks := tk + 1 } :=
      I.turnedNew (ch := [e, it]) (fun b ob hb q => (sb.2 b (fun z => hb (by simp [z]))).trans (hk b ob (fun z => hb (by simp [z])) (fun z => hb (by simp [z])) q)) hf (Nat.le_refl _) new
    refine ⟨.ref s.heap.objs.size, _, I1, rfl, ⟨_, x, rfl, I.hok.fresh (Nat.le_refl _), rfl, fun ys hy => by rw [I.tuple_inj hy hq]; exact hx⟩, ⟨⟨⟨y, ?_⟩, hst.1.at fun o q => (sb.2 it (Ne.symm hne)).trans q, hne⟩, ?_⟩, fun b hb => ?_⟩
    · rw [show ((i + 1 : Nat) : Int) = (i : Int) + 1 by omega]
      exact he2
    · have := (List.getElem?_eq_some_iff.mp hx).1
      omega
    · have lt : b < s.heap.objs.size := by
        rcases (show b = e ∨ b = it by simpa using hb) with rfl | rfl
        · exact hel
        · exact hil
      rw [upd_ne (Nat.ne_of_lt lt)]
      exact (hf b hb).1
  done := by
    rintro X rfl rfl rfl hc i pins s σ H E I hf ⟨⟨⟨old, he⟩, hit, hne⟩, hni⟩ ⟨xs, hq, hxn, hx⟩
    obtain ⟨its, rv, p, hz⟩ := I.tuple hq
    obtain ⟨f0, f1, f2, f3, f4, f5⟩ := hf it (by simp)
    have pT : s.heap.IsTuple a its.toArray := p
    have hl := rv.length
    have ei : i = its.toArray.size := by rw [List.size_toArray]; omega
    rw [ei] at hit
    exact wpAny_pyNext_enum_endD (Draws.tuple (prog := X.prog) (w := X.w) (A := X.A.in1) (show X.A.in1.handled = none from I.ok.hd hc) it a hia its.toArray) he ⟨hit, pT⟩
      fun h1 eb => ⟨rfl, I.turned (t' := s.toks) (fun b o hb q => eb b o hb q) f0 f1 f3 f4 f5⟩
  self := fun A i s Q E st h => let ⟨⟨⟨_, he⟩, _⟩, _⟩ := st; wpAny_pyIter_enum he h
theorem new_enumT (t : Addr) (items : Array Value) :
    Meets (Builtin.«enumerate.__new__» ⟨[.type "enumerate", .ref t], []⟩) (fun _ R s => s.heap.IsTuple t items ∧
      R (.ok (.ret (.ref (s.heap.objs.size + 1)))) { s with heap := (s.heap.push { cls := .type "tuple_iterator", data := .fields #[.ref t, .int 0 0] }).push { cls := .type "enumerate", data := .fields #[.none, .bool false, .ref s.heap.objs.size, rawInt 0, .none, .none] } }) :=
  .of_wp fun prog w A R s h => by
    obtain ⟨hp, g, d, tk, os⟩ := s
    obtain ⟨hl, h⟩ := h
    have e1 : (hp.push { cls := .type "tuple_iterator", data := .fields #[.ref t, .int 0 0] }).objs.size = hp.objs.size + 1 := Heap.size_push ..
    rw [← e1] at h
    have hsub := sub_enumerate
    obtain ⟨o, ho, ho2⟩ := id hl
    wp_walk using AutoSeq1.wpAny_loadPart' ho
    refine wpAny_stack_any fun st => wpAny_pure ?_
    split
    · rename_i c _ _ _ _ _
      cases (c == Value.type "enumerate")
      · wp_walk using wpAny_pyIter_tuple hl
        exact ⟨_, rfl, h⟩
      · wp_walk using wpAny_pyIter_tuple hl
        exact ⟨_, rfl, h⟩
    · wp_walk using wpAny_pyIter_tuple hl
      exact ⟨_, rfl, h⟩
theorem call_enumT {prog : Program} {w : World} {A : Around} {E : Value → Shared → Prop} {s : Shared} {t : Addr} {items : Array Value} {Q : Value → Shared → Prop} (hL : s.heap.IsTuple t items)
    (h : ∀ h', IsEnum h' (s.heap.objs.size + 1) s.heap.objs.size 0 .none → h'.IsTupleIter s.heap.objs.size t 0 → (∀ b o, s.heap.get? b = some o → h'.get? b = some o) → Q (.ref (s.heap.objs.size + 1)) { s with heap := h' }) :
    wpAny (model prog w) A (call (.type "enumerate") [.ref t]) Q E s := by
  refine callType_new F.called_enumerate (by decide) (F.typeCall_enumerate_1 _) (F.newCall_enumerate_1 _) (fun obj => F.args_object_init_2 obj _) F.entry_enumerate_new (new_enumT t items) ⟨hL, ?_⟩
  have e1 : (s.heap.push { cls := .type "tuple_iterator", data := .fields #[.ref t, .int 0 0] }).objs.size = s.heap.objs.size + 1 := Heap.size_push ..
  have he : IsEnum ((s.heap.push { cls := .type "tuple_iterator", data := .fields #[.ref t, .int 0 0] }).push { cls := .type "enumerate", data := .fields #[.none, .bool false, .ref s.heap.objs.size, rawInt 0, .none, .none] })
      (s.heap.objs.size + 1) s.heap.objs.size 0 .none := by
    have z := Heap.get?_push_size (s.heap.push { cls := .type "tuple_iterator", data := .fields #[.ref t, .int 0 0] }) (o := { cls := .type "enumerate", data := .fields #[.none, .bool false, .ref s.heap.objs.size, rawInt 0, .none, .none] }) rfl
    rw [e1] at z
    exact z
  exact ⟨⟨_, he, rfl⟩, h _ he ⟨_, Heap.get?_push_of_some _ (Heap.get?_push_size _ rfl), rfl, rfl⟩ fun b o x => Heap.get?_push_of_some _ (Heap.get?_push_of_some _ x)⟩
theorem walk_enumT {K : PySem.W.Frag} {a : Addr} {xs : List V} : Walk (IteT K a xs.length) xs.length (fun H => SqT K H a xs) (YPair (fun i => some (.int (i : Nat))) (fun i => xs[i]?)) := by
  refine ⟨fun i _ hi q => ⟨xs, xs[i], q, rfl, by simp [hi]⟩, fun _ q => ⟨xs, q, rfl, Nat.le_refl _⟩, fun i H v H' _ q y => ?_⟩
  obtain ⟨T, x, h1, h2, h3, h4⟩ := y
  exact ⟨T, .int (i : Nat), x, h1, h2, h3, rfl, h4 xs q⟩
def iEnumS (K : PySem.W.Frag) (ta : TA) : TI := fun σ H R => ta σ H fun vs H1 => ∃ a xs, vs = [.ref a] ∧ SeqA K H1 a xs ∧
  ∀ (J : It) (G : Hp → Prop), Walk J xs.length G (YPair (fun i => some (.int (i : Nat))) (fun i => xs[i]?)) → (∀ H', KeepS K H1 H' a xs → G H') → R J H1
theorem pi_enumS {X : Cx} {e : Expr} {ta : TA} {p pos tpos : Pos} {elts : List Expr} {kk : Nat} (hg : Gl X "enumerate") (hm : X.mg "enumerate" = none) (ha : PA X [e] ta) (hs : starEach [e] X.env = [(false, eval e X.env)] := by rfl) :
    PI X (.Tuple elts kk tpos) (.Call (.Name "enumerate" p) [e] [] pos) (iEnumS X.K ta) := by
  refine ⟨fun pins s σ H R I h => ?_⟩
  refine Call_ (ld_blt I hg hm boot_enumerate (PyProof.Rows.callWith_type1 (thn (ha.run pos pins s σ H _ I h) fun us s1 ⟨vs, H1, I1, r1, a, xs, ex, hq, q⟩ => ?_) hs rfl))
  subst ex
  cases r1 with
  | cons r rr =>
    cases rr
    cases r
    have two : ∀ b ∈ [s1.heap.objs.size + 1, s1.heap.objs.size], FpOk X pins H1 b := by
      intro b hb
      have le : s1.heap.objs.size ≤ b := by
        rcases (show b = s1.heap.objs.size + 1 ∨ b = s1.heap.objs.size by simpa using hb) with z | z
        · rw [z]; exact Nat.le_succ _
        · rw [z]; exact Nat.le_refl _
      exact I1.fpOk le (I1.hok.fresh le)
    rcases hq with hq | hq
    · obtain ⟨its, rv, p', hz⟩ := I1.list hq
      refine call_enumerate_list p'.isList fun h' he hit hsz hk => wpAny_pyIter_enum he ?_
      exact ⟨s1.heap.objs.size + 1, [_, _], _, _, H1, rfl, I1.kept (t' := s1.toks) hk, turn_enum a (s1.heap.objs.size + 1) s1.heap.objs.size, ⟨⟨.none, he⟩, hit, Nat.succ_ne_self _⟩, two, q _ _ walk_enum fun H' s => s.1 hq⟩
    · obtain ⟨its, rv, p', hz⟩ := I1.tuple hq
      have pT : s1.heap.IsTuple a its.toArray := p'
      obtain ⟨o, ho, _⟩ := id pT
      have lt := Heap.lt_size ho
      refine call_enumT pT fun h' he hit hk => wpAny_pyIter_enum he ?_
      exact ⟨s1.heap.objs.size + 1, [_, _], _, _, H1, rfl, I1.kept (t' := s1.toks) hk, turn_enumT a (s1.heap.objs.size + 1) s1.heap.objs.size xs.length (Nat.ne_of_gt (Nat.lt_succ_of_lt lt)) (Nat.ne_of_lt lt),
        ⟨⟨⟨.none, he⟩, hit, Nat.succ_ne_self _⟩, Nat.zero_le _⟩, two, q _ _ walk_enumT fun H' s => s.2 hq⟩
/-! ### zip of a tuple and a list -/
def ItzM (K : PySem.W.Frag) (a b : Addr) : It :=
  ⟨fun i H => ∃ (xs ys : List V) (x y : V), SqT K H a xs ∧ SqL K H b ys ∧ xs[i]? = some x ∧ ys[i]? = some y,
    fun i H v H' => ∃ T x y, v = .ref T ∧ H T = none ∧ H' = upd H T (.tup [x, y]) ∧ (∀ xs, SqT K H a xs → xs[i]? = some x) ∧ ∀ ys, SqL K H b ys → ys[i]? = some y,
    fun i H => ∃ xs ys : List V, SqT K H a xs ∧ SqL K H b ys ∧ i = min xs.length ys.length⟩
theorem sep_new {I l1 l2 : Nat} (h1 : l1 < I) (h2 : l2 < I) : ZipSep2 (I + 4) (I + 2) (I + 3) I (I + 1) [I, l1] [I + 1, l2] := by
  have n1 : ∀ k, I + k ≠ l1 := fun k => PySem.W.neN (by omega)
  have n2 : ∀ k, I + k ≠ l2 := fun k => PySem.W.neN (by omega)
  constructor
  · exact PySem.W.neN (by omega)
  · exact PySem.W.neN (by omega)
  · exact PySem.W.neN (by omega)
  · exact PySem.W.neN (by omega)
  · exact List.mem_cons_self ..
  · intro h; rcases List.mem_cons.mp h with h | h
    · exact PySem.W.neN (by omega) h
    · exact n1 4 (List.mem_singleton.mp h)
  · intro h; rcases List.mem_cons.mp h with h | h
    · exact PySem.W.neN (by omega) h
    · exact n1 3 (List.mem_singleton.mp h)
  · exact PySem.W.neN (by omega)
  · exact List.mem_cons_self ..
  · intro h; rcases List.mem_cons.mp h with h | h
    · exact PySem.W.neN (by omega) h
    · exact n2 4 (List.mem_singleton.mp h)
  · intro h; rcases List.mem_cons.mp h with h | h
    · exact PySem.W.neN (by omega) h
    · exact n2 3 (List.mem_singleton.mp h)
  · intro h; rcases List.mem_cons.mp h with h | h
    · exact PySem.W.neN (by omega) h
    · exact n2 0 (List.mem_singleton.mp h)
  · intro h; rcases List.mem_cons.mp h with h | h
    · exact PySem.W.neN (by omega) h
    · exact n1 1 (List.mem_singleton.mp h)
theorem turn_zipM {P : Program} {w : World} {K : PySem.W.Frag} {elts : List Expr} {kk : Nat} {tpos : Pos} {a b z TI TO i1 i2 : Addr} (S : ZipSep2 z TI TO i1 i2 [i1, a] [i2, b]) (na : a ≠ i1) (nb : b ≠ i2) :
    Turn P w K (.Tuple elts kk tpos) (ItzM K a b) [z, TI, TO, i1, i2] z (fun i h => IsZip h z TI TO .none ∧ IsTupOf2 h TI (.ref i1) (.ref i2) ∧ (∃ x y, IsTupOf2 h TO x y) ∧ h.IsTupleIter i1 a i ∧ h.IsListIter i2 b i) where
  mem := by simp
  obj := fun i h st c hc => by
    obtain ⟨hz, hTI, ⟨x, y, hTO⟩, ⟨o1, e1, _, d1⟩, ⟨o2, e2, _, d2⟩⟩ := st
    have e' : c = z ∨ c = TI ∨ c = TO ∨ c = i1 ∨ c = i2 := by simpa using hc
    rcases e' with q | q | q | q | q
    · rw [q]; exact ⟨_, hz, fun v q => nomatch q⟩
    · rw [q]; exact ⟨_, hTI, fun v q => nomatch q⟩
    · rw [q]; exact ⟨_, hTO, fun v q => nomatch q⟩
    · rw [q]; exact ⟨o1, e1, fun v q => by rw [d1] at q; cases q⟩
    · rw [q]; exact ⟨o2, e2, fun v q => by rw [d2] at q; cases q⟩
  keep := fun i h h' st k => by
    obtain ⟨hz, hTI, ⟨x, y, hTO⟩, h1, h2⟩ := st
    exact ⟨k z (by simp) _ hz, k TI (by simp) _ hTI, ⟨x, y, k TO (by simp) _ hTO⟩, h1.at fun o q => k i1 (by simp) o q, h2.at fun o q => k i2 (by simp) o q⟩
  item := by
    intro X hP hw hK hc i pins s σ H E I hf st hg
    subst hP hw hK
    obtain ⟨hz, hTI, ⟨x0, y0, hTO⟩, h1, h2⟩ := st
    obtain ⟨xs, ys, x, y, hqx, hqy, hx, hy⟩ := hg
    obtain ⟨its, rv, p, _⟩ := I.tuple hqx
    obtain ⟨its2, rv2, p2, _⟩ := I.list hqy
    obtain ⟨u, hu, ru⟩ := rv.get hx
    obtain ⟨u2, hu2, ru2⟩ := rv2.get hy
    have pT : s.heap.IsTuple a its.toArray := p
    have hzl : z < s.heap.objs.size := Heap.lt_size hz
    have l1 : i < its.toArray.size := by simpa using (List.getElem?_eq_some_iff.mp hu).1
    have l2 : i < its2.toArray.size := by simpa using (List.getElem?_eq_some_iff.mp hu2).1
    have hd : X.A.in1.handled = none := I.ok.hd hc
    refine wpAny_pyNext_zipD2_item S (Draws.tuple (prog := X.prog) (w := X.w) (A := X.A.in1) hd i1 a na its.toArray) (Draws.list (prog := X.prog) (w := X.w) (A := X.A.in1) hd i2 b nb its2.toArray) hz hTI hTO ⟨h1, pT⟩ ⟨h2, p2.isList⟩ l1 l2 fun x1 x2 h' tk y1 y2 z' TO' d1 d2 hT hsz hk => ?_
    obtain rfl : x1 = u := by
      have y1' : its.toArray[i]? = some x1 := y1
      rw [List.getElem?_toArray, hu] at y1'
      exact (Option.some.inj y1').symm
    obtain rfl : x2 = u2 := by
      have y2' : its2.toArray[i]? = some x2 := y2
      rw [List.getElem?_toArray, hu2] at y2'
      exact (Option.some.inj y2').symm
    refine ⟨_, rfl, wpAny_letOwnedTupleGo_zip (s := { s with heap := h', toks := tk }) z' fun h'' z'' sb => ?_⟩
    have hT2 : h''.get? s.heap.objs.size = some { cls := .type "tuple", data := .seq #[x1, x2] } := (sb.2 _ (Nat.ne_of_gt hzl)).trans hT
    have new : ObjOk X.prog X.w (upd H s.heap.objs.size (.tup [x, y])) h'' s.heap.objs.size (.tup [x, y]) :=
      ⟨by show 2 ≤ sizeLine; decide, [x1, x2], .cons ru (.cons ru2 .nil), ⟨_, hT2, rfl, _, rfl⟩⟩
    have I1 : Inv X pins σ (upd H s.heap.objs.size (.tup [x, y])) { s with heap := h'', toks := tk } :=
      I.turnedNew (t' := tk) (ch := [z, TI, TO, i1, i2]) (fun c o hb q => (sb.2 c (fun q' => hb (by simp [q']))).trans (hk c o (fun q' => hb (by simp [q'])) (fun q' => hb (by simp [q'])) (fun q' => hb (by simp [q'])) (fun q' => hb (by simp [q'])) q)) hf (Nat.le_refl _) new
    refine ⟨.ref s.heap.objs.size, _, I1, rfl, ⟨_, x, y, rfl, I.hok.fresh (Nat.le_refl _), rfl, fun l hl => by rw [I.tuple_inj hl hqx]; exact hx, fun l hl => by rw [I.list_inj hl hqy]; exact hy⟩, ⟨z'', ?_, ⟨x1, x2, ?_⟩, ?_, ?_⟩, fun c hcm => ?_⟩
    · exact (sb.2 _ S.TIz).trans (hk _ _ S.TIz S.TITO S.TIi1 S.TIi2 hTI)
    · exact (sb.2 _ S.TOz).trans TO'
    · exact d1.1.at fun o q => (sb.2 _ S.zi1.symm).trans q
    · exact d2.1.at fun o q => (sb.2 _ S.zi2.symm).trans q
    · have hlt : c < s.heap.objs.size := by
        have e' : c = z ∨ c = TI ∨ c = TO ∨ c = i1 ∨ c = i2 := by simpa using hcm
        rcases e' with q | q | q | q | q
        · rw [q]; exact hzl
        · rw [q]; exact Heap.lt_size hTI
        · rw [q]; exact Heap.lt_size hTO
        · rw [q]; obtain ⟨_, e1, _⟩ := h1; exact Heap.lt_size e1
        · rw [q]; obtain ⟨_, e2, _⟩ := h2; exact Heap.lt_size e2
      rw [upd_ne (Nat.ne_of_lt hlt)]
      exact (hf c hcm).1
  done := by
    intro X hP hw hK hc i pins s σ H E I hf st hg
    subst hP hw hK
    obtain ⟨hz, hTI, ⟨x0, y0, hTO⟩, h1, h2⟩ := st
    obtain ⟨xs, ys, hqx, hqy, hend⟩ := hg
    obtain ⟨its, rv, p, _⟩ := I.tuple hqx
    obtain ⟨its2, rv2, p2, _⟩ := I.list hqy
    have pT : s.heap.IsTuple a its.toArray := p
    have l1 := rv.length
    have l2 := rv2.length
    have hd : X.A.in1.handled = none := I.ok.hd hc
    have z1 : its.toArray.size = xs.length := by rw [List.size_toArray]; omega
    have z2 : its2.toArray.size = ys.length := by rw [List.size_toArray]; omega
    exact wpAny_pyNext_zipD2_end S (Draws.tuple (prog := X.prog) (w := X.w) (A := X.A.in1) hd i1 a na its.toArray) (Draws.list (prog := X.prog) (w := X.w) (A := X.A.in1) hd i2 b nb its2.toArray) hz hTI hTO ⟨h1, pT⟩ ⟨h2, p2.isList⟩ (by omega) (by omega) (by omega)
      fun h' tk hk => ⟨rfl, I.turnedL (t' := tk) (ch := [z, TI, TO, i1, i2]) (fun c o hb q =>
        hk c o (fun q' => hb (by simp [q'])) (fun q' => hb (by simp [q'])) (fun q' => hb (by simp [q'])) (fun q' => hb (by simp [q'])) q) hf⟩
  self := fun A i s Q E st h => wpAny_pyIter_zip st.1 h
theorem walk_zipM {K : PySem.W.Frag} {a b : Addr} {xs ys : List V} {n : Nat} (hn : n = min xs.length ys.length) : Walk (ItzM K a b) n (fun H => SqT K H a xs ∧ SqL K H b ys) (YPair (fun i => xs[i]?) (fun i => ys[i]?)) where
  goes := fun i H hi ⟨h1, h2⟩ => ⟨xs, ys, xs[i]'(by omega), ys[i]'(by omega), h1, h2, List.getElem?_eq_getElem _, List.getElem?_eq_getElem _⟩
  stops := fun H ⟨h1, h2⟩ => ⟨xs, ys, h1, h2, hn⟩
  yields := fun i H x H' hi ⟨h1, h2⟩ ⟨T, x1, y1, e1, e2, e3, e4, e5⟩ => ⟨T, x1, y1, e1, e2, e3, e4 _ h1, e5 _ h2⟩
/-- a list or a tuple, and a list -/
def iZipM (K : PySem.W.Frag) (ta : TA) : TI := fun σ H R => ta σ H fun vs H1 => ∃ a b xs ys, vs = [.ref a, .ref b] ∧ SeqA K H1 a xs ∧ SqL K H1 b ys ∧
  ∀ (J : It) (G : Hp → Prop), Walk J (min xs.length ys.length) G (YPair (fun i => xs[i]?) (fun i => ys[i]?)) → (∀ H', KeepS K H1 H' a xs → KeepS K H1 H' b ys → G H') → R J H1
theorem pi_zipM {X : Cx} {e e2 : Expr} {ta : TA} {p pos tpos : Pos} {elts : List Expr} {kk : Nat} (hg : Gl X "zip") (hm : X.mg "zip" = none) (ha : PA X [e, e2] ta)
    (h1 : starEach [e, e2] X.env = (false, eval e X.env) :: starEach [e2] X.env := by rfl) (h2 : (backTo pos (starEach [e2] X.env)).any (·.1) = false := by rfl) :
    PI X (.Tuple elts kk tpos) (.Call (.Name "zip" p) [e, e2] [] pos) (iZipM X.K ta) := by
  refine ⟨fun pins s σ H R I h => Call_ (ld_blt I hg hm PyProof.Rows.boot_zip (PyProof.Rows.callWith_type1 (thn (ha.run pos pins s σ H _ I h) fun us s1 ⟨vs, H1, I1, r1, a, b, xs, ys, ex, hq, qy, q⟩ => ?_) h1 h2))⟩
  subst ex
  cases r1 with
  | cons r rr =>
    cases rr with
    | cons r' rr =>
      cases rr
      cases r
      cases r'
      have five : ∀ c ∈ [s1.heap.objs.size + 4, s1.heap.objs.size + 2, s1.heap.objs.size + 3, s1.heap.objs.size, s1.heap.objs.size + 1], FpOk X pins H1 c := by
        intro c hc
        have le : s1.heap.objs.size ≤ c := by
          simp only [List.mem_cons, List.not_mem_nil, or_false] at hc
          rcases hc with z | z | z | z | z <;> rw [z] <;> first | exact Nat.le_add_right _ _ | exact Nat.le_refl _
        exact I1.fpOk le (I1.hok.fresh le)
      rcases hq with qx | qx
      · obtain ⟨_, _, p1, _⟩ := I1.list qx
        obtain ⟨_, _, p2, _⟩ := I1.list qy
        refine call_zip_2 p1.isList p2.isList fun g hz hTI hTO i1 i2 _ hk => wpAny_pyIter_zip hz ?_
        exact ⟨_, [_, _, _, _, _], _, _, H1, rfl, I1.kept (t' := s1.toks) hk, turn_zip (PySem.W.ktu_apart s1.heap.objs.size a b p1.lt p2.lt), ⟨hz, hTI, ⟨_, _, hTO⟩, i1, i2⟩, five, q _ _ (walk_zip rfl) fun H' s t => ⟨s.1 qx, t.1 qy⟩⟩
      · obtain ⟨its1, _, p1, _⟩ := I1.tuple qx
        obtain ⟨its2, _, p2, _⟩ := I1.list qy
        obtain ⟨_, l1, _⟩ := id p1
        have ll1 := Heap.lt_size l1
        have ll2 : b < s1.heap.objs.size := p2.lt
        refine zip_begins2 (begins_tuple a its1.toArray) (begins_list b its2.toArray) (show s1.heap.IsTuple a its1.toArray from p1) p2.isList fun g hz hTI hTO g1 g2 _ hk => wpAny_pyIter_zip hz ?_
        exact ⟨_, [_, _, _, _, _], _, _, H1, rfl, I1.kept (t' := s1.toks) hk, turn_zipM (sep_new ll1 ll2) (Nat.ne_of_lt ll1) (Nat.ne_of_lt (Nat.lt_succ_of_lt ll2)), ⟨hz, hTI, ⟨_, _, hTO⟩, ⟨_, g1, rfl, rfl⟩, ⟨_, g2, rfl, rfl⟩⟩, five,
          q _ _ (walk_zipM rfl) fun H' s t => ⟨s.2 qx, t.1 qy⟩⟩
end WQ
end

section
set_option linter.all false
set_option autoImplicit false
/-! least sums of two functions that go on evenly -/
namespace MF
/-- the least of the first ones -/
def mn (d : Nat → Int) : Nat → Int
  | 0 => d 0
  | n + 1 => min (mn d n) (d (n + 1))
theorem mn_le {d : Nat → Int} : ∀ {n j : Nat}, j ≤ n → mn d n ≤ d j
  | 0, j, h => by
    obtain rfl : j = 0 := by omega
    exact Int.le_refl _
  | n + 1, j, h => by
    show min _ _ ≤ _
    by_cases e : j = n + 1
    · subst e; omega
    · have := mn_le (d := d) (n := n) (j := j) (by omega); omega
theorem mn_at {d : Nat → Int} : ∀ n : Nat, ∃ j, j ≤ n ∧ d j = mn d n
  | 0 => ⟨0, Nat.le_refl _, rfl⟩
  | n + 1 => by
    obtain ⟨j, h, e⟩ := mn_at (d := d) n
    by_cases c : d (n + 1) ≤ mn d n
    · exact ⟨n + 1, Nat.le_refl _, by show _ = min _ _; omega⟩
    · exact ⟨j, by omega, by show _ = min _ _; omega⟩
theorem mn_is {d : Nat → Int} {n : Nat} {m : Int} (h1 : ∃ j, j ≤ n ∧ d j = m) (h2 : ∀ j, j ≤ n → m ≤ d j) : m = mn d n := by
  obtain ⟨j, hj, rfl⟩ := h1
  obtain ⟨k, hk, e⟩ := mn_at (d := d) n
  have := mn_le (d := d) hj
  have := h2 k hk
  omega
theorem mn_congr {d d' : Nat → Int} : ∀ {n : Nat}, (∀ j, j ≤ n → d j = d' j) → mn d n = mn d' n
  | 0, h => h 0 (Nat.le_refl _)
  | n + 1, h => by
    show min (mn d n) (d (n + 1)) = min (mn d' n) (d' (n + 1))
    rw [mn_congr (n := n) fun j hj => h j (by omega), h (n + 1) (Nat.le_refl _)]
/-- the folding of two functions; its part with the first one's start, with the first one's tail -/
def fo (f F : Nat → Int) (t : Nat) : Int := mn (fun s => f s + F (t - s)) t
def ea (f F : Nat → Int) (T t : Nat) : Int := mn (fun s => f s + F (t - s)) (min t (T - 1))
def la (f F : Nat → Int) (T t : Nat) : Int := mn (fun i => f (T + i) + F (t - T - i)) (t - T)
theorem fo_comm (f F : Nat → Int) (t : Nat) : fo f F t = fo F f t := by
  refine mn_is ?_ fun j hj => ?_
  · obtain ⟨j, h, e⟩ := mn_at (d := fun s => f s + F (t - s)) t
    refine ⟨t - j, by omega, ?_⟩
    show F (t - j) + f (t - (t - j)) = _
    rw [show t - (t - j) = j by omega]
    show _ = fo f F t
    unfold fo
    rw [← e]
    show F (t - j) + f j = f j + F (t - j)
    omega
  · have := mn_le (d := fun s => f s + F (t - s)) (n := t) (j := t - j) (by omega)
    try dsimp only at this
    rw [show t - (t - j) = j by omega] at this
    show mn _ t ≤ F j + f (t - j)
    omega
theorem fo_low {f F : Nat → Int} {T t : Nat} (h : t < T) : fo f F t = ea f F T t := by
  unfold fo ea
  rw [show min t (T - 1) = t by omega]
theorem fo_zero {f F : Nat → Int} (t : Nat) : fo f F t = la f F 0 t := by
  unfold fo la
  refine mn_congr fun j hj => ?_
  rw [Nat.zero_add, Nat.sub_zero]
theorem fo_split {f F : Nat → Int} {T t : Nat} (T0 : 0 < T) (h : T ≤ t) : fo f F t = min (ea f F T t) (la f F T t) := by
  refine (mn_is (d := fun s => f s + F (t - s)) ?_ fun j hj => ?_).symm
  · obtain ⟨j, hj, e⟩ := mn_at (d := fun s => f s + F (t - s)) (min t (T - 1))
    obtain ⟨i, hi, e2⟩ := mn_at (d := fun i => f (T + i) + F (t - T - i)) (t - T)
    by_cases c : ea f F T t ≤ la f F T t
    · refine ⟨j, by omega, ?_⟩
      rw [show min (ea f F T t) (la f F T t) = ea f F T t by omega]
      exact e
    · refine ⟨T + i, by omega, ?_⟩
      rw [show min (ea f F T t) (la f F T t) = la f F T t by omega]
      try dsimp only at e2
      rw [show t - T - i = t - (T + i) by omega] at e2
      exact e2
  · by_cases c : j < T
    · have := mn_le (d := fun s => f s + F (t - s)) (n := min t (T - 1)) (j := j) (by omega)
      have : ea f F T t ≤ f j + F (t - j) := this
      show min _ _ ≤ f j + F (t - j)
      omega
    · have := mn_le (d := fun i => f (T + i) + F (t - T - i)) (n := t - T) (j := j - T) (by omega)
      try dsimp only at this
      rw [show T + (j - T) = j by omega, show t - T - (j - T) = t - j by omega] at this
      have : la f F T t ≤ f j + F (t - j) := this
      show min _ _ ≤ f j + F (t - j)
      omega
theorem ea_qp {f F : Nat → Int} {T T2 q : Nat} {G : Int} (T0 : 0 < T) (Q : QP F q G T2) : QP (ea f F T) q G (T + T2 - 1) := fun t ht => by
  unfold ea
  rw [show min (t + q) (T - 1) = T - 1 by omega, show min t (T - 1) = T - 1 by omega]
  have e : ∀ j, j ≤ T - 1 → f j + F (t + q - j) = f j + F (t - j) + G := fun j hj => by
    have := Q (t - j) (by omega)
    rw [show t - j + q = t + q - j by omega] at this
    omega
  refine (mn_is ?_ fun j hj => ?_).symm
  · obtain ⟨j, hj, e2⟩ := mn_at (d := fun s => f s + F (t - s)) (T - 1)
    exact ⟨j, hj, by show f j + F (t + q - j) = _; rw [e j hj, ← e2]⟩
  · have := mn_le (d := fun s => f s + F (t - s)) hj
    show _ ≤ f j + F (t + q - j)
    rw [e j hj]
    try dsimp only at this
    omega
/-- the tail's part goes on as the slower one does -/
theorem la_qp {f F : Nat → Int} {T T2 p q k l : Nat} {g G : Int} (p0 : 0 < p) (k0 : 0 < k) (Qf : QP f p g T) (QF : QP F q G T2) (e : k * p = l * q) (le : (k : Int) * g ≤ (l : Int) * G) : QP (la f F T) p g (T + T2 + k * p - 1) := fun t ht => by
  have S0 : p ≤ k * p := Nat.le_mul_of_pos_left p k0
  unfold la
  refine (mn_is ?_ fun j hj => ?_).symm
  · obtain ⟨i, hi, e2⟩ := mn_at (d := fun i => f (T + i) + F (t - T - i)) (t - T)
    refine ⟨i + p, by omega, ?_⟩
    have := Qf (T + i) (by omega)
    show f (T + (i + p)) + F (t + p - T - (i + p)) = _
    rw [show T + (i + p) = T + i + p by omega, show t + p - T - (i + p) = t - T - i by omega, ← e2]
    try dsimp only
    omega
  · show _ ≤ f (T + j) + F (t + p - T - j)
    by_cases c : p ≤ j
    · have := mn_le (d := fun i => f (T + i) + F (t - T - i)) (n := t - T) (j := j - p) (by omega)
      try dsimp only at this
      have q1 := Qf (T + (j - p)) (by omega)
      rw [show T + (j - p) + p = T + j by omega] at q1
      rw [show t - T - (j - p) = t + p - T - j by omega] at this
      omega
    · have := mn_le (d := fun i => f (T + i) + F (t - T - i)) (n := t - T) (j := j + k * p - p) (by omega)
      try dsimp only at this
      have m1 := Qf.mul (j := T + j) (by omega) k
      have q1 := Qf (T + (j + k * p - p)) (by omega)
      rw [show T + (j + k * p - p) + p = T + j + k * p by omega] at q1
      have m2 := QF.mul (j := t - T - (j + k * p - p)) (by omega) l
      rw [show t - T - (j + k * p - p) + l * q = t + p - T - j by omega] at m2
      omega
theorem fo_like {f F : Nat → Int} {T T2 p q k l : Nat} {g G : Int} (p0 : 0 < p) (k0 : 0 < k) (Qf : QP f p g T) (QF : QP F q G T2) (e : k * p = l * q) (le : (k : Int) * g = (l : Int) * G) : QP (fo f F) (k * p) ((k : Int) * g) (T + T2 + k * p - 1) := fun t ht => by
  have S0 : p ≤ k * p := Nat.le_mul_of_pos_left p k0
  have L := (la_qp p0 k0 Qf QF e (by omega)).up k
  by_cases T0 : T = 0
  · subst T0
    rw [fo_zero, fo_zero]
    exact L t ht
  · have E := (ea_qp (f := f) (show 0 < T by omega) QF).up l
    rw [← e, ← le] at E
    rw [fo_split (T := T) (by omega) (by omega), fo_split (T := T) (by omega) (by omega), L t ht, E t (by omega)]
    omega
/-- from where the tail's part leads on, the folding goes on as the slower one does -/
theorem fo_unlike {f F : Nat → Int} {T c p : Nat} {g : Int} (L : QP (la f F T) p g c) (Tc : T ≤ c) (h : 0 < T → ∀ t, c ≤ t → la f F T t ≤ ea f F T t) : QP (fo f F) p g c := fun t ht => by
  have e : ∀ t, c ≤ t → fo f F t = la f F T t := fun t ht => by
    by_cases T0 : T = 0
    · subst T0
      exact fo_zero t
    · rw [fo_split (T := T) (by omega) (by omega)]
      have := h (by omega) t ht
      omega
  rw [e t ht, e (t + p) (by omega)]
  exact L t ht
/-- where the start's part still leads, no form has come to its tail -/
theorem fo_far {f F : Nat → Int} {T c p M : Nat} {g : Int} (p0 : 0 < p) (L : QP (la f F T) p g c) (T0 : 0 < T) (Tc : T ≤ c) (cM : c ≤ M) (lt : ea f F T M < la f F T M) (hi : ∀ t, M < t → la f F T t ≤ ea f F T t) {q b : Nat} {r : Int} (I : IsForm (fo f F) q r b) : M < b := by
  refine Nat.not_le.mp fun hb => ?_
  have Q : QP (fo f F) p g (M + 1) := fo_unlike (L.to (by omega)) (by omega) fun _ t ht => hi t (by omega)
  have e := form_rise p0 Q I
  have m := I.qp.mul (j := M) hb p
  have m2 := L.mul (j := M) cM q
  have q0 := I.pos
  have pq : 0 < p * q := Nat.mul_pos p0 q0
  rw [Nat.mul_comm p q, fo_split T0 (by omega), fo_split T0 (by omega)] at m
  have := hi (M + q * p) (by rw [Nat.mul_comm]; omega)
  omega
/-- late sums, one after another -/
theorem la_step {f F : Nat → Int} {T p b : Nat} {g : Int} (Qf : QP f p g T) (p0 : 0 < p) (h : p ≤ b) : la f F T (T + b) = min (mn (fun i => f (T + i) + F (b - i)) (p - 1)) (la f F T (T + b - p) + g) := by
  unfold la
  rw [show T + b - T = b by omega, show T + b - p - T = b - p by omega]
  refine (mn_is (d := fun i => f (T + i) + F (b - i)) ?_ fun j hj => ?_).symm
  · obtain ⟨i, hi, e⟩ := mn_at (d := fun i => f (T + i) + F (b - i)) (p - 1)
    obtain ⟨i2, hi2, e2⟩ := mn_at (d := fun i => f (T + i) + F (b - p - i)) (b - p)
    by_cases c : mn (fun i => f (T + i) + F (b - i)) (p - 1) ≤ mn (fun i => f (T + i) + F (b - p - i)) (b - p) + g
    · exact ⟨i, by omega, by rw [e]; omega⟩
    · refine ⟨i2 + p, by omega, ?_⟩
      have := Qf (T + i2) (by omega)
      show f (T + (i2 + p)) + F (b - (i2 + p)) = _
      rw [show T + (i2 + p) = T + i2 + p by omega, show b - (i2 + p) = b - p - i2 by omega]
      try dsimp only at e2
      omega
  · show _ ≤ f (T + j) + F (b - j)
    by_cases c : j < p
    · have := mn_le (d := fun i => f (T + i) + F (b - i)) (n := p - 1) (j := j) (by omega)
      try dsimp only at this
      omega
    · have := mn_le (d := fun i => f (T + i) + F (b - p - i)) (n := b - p) (j := j - p) (by omega)
      try dsimp only at this
      have q1 := Qf (T + (j - p)) (by omega)
      rw [show T + (j - p) + p = T + j by omega] at q1
      rw [show b - p - (j - p) = b - j by omega] at this
      omega
end MF
end

section
set_option Elab.async false
set_option linter.all false
set_option maxRecDepth 100000
set_option maxHeartbeats 8000000
namespace WW
open PySem L2 WO WG RZ WQ WT WC
abbrev sLs2 : Stmt := top 57
abbrev sEar : Stmt := top 54
abbrev sLts : Stmt := top 55
abbrev sBot : Stmt := top 56
abbrev sUns : Stmt := top 52
theorem cutN {xs : List V} {l h : Nat} (lh : l ≤ h) (hx : h ≤ xs.length) : cutV xs (some (l : Int)) (some (h : Int)) = (xs.drop l).take (h - l) := by
  unfold cutV
  rw [six_nat (show l ≤ xs.length by omega), six_nat hx]
theorem cut_get {xs : List V} {l h i : Nat} (hi : i < h - l) : ((xs.drop l).take (h - l))[i]? = xs[l + i]? := by
  rw [List.getElem?_take, if_pos hi, List.getElem?_drop]
theorem setI {σ σ' : L2.St} {n : Nat} {x y : Int} (h : x = y) (e : σ.set n (some (V.int y)) = σ' := by rfl) : σ.set n (some (V.int x)) = σ' := by rw [h]; exact e
theorem get_r {F : Nat → V} {N u : Nat} (h : u < N) : ((List.range N).map F)[u]? = some (F u) := by
  rw [List.getElem?_map, List.getElem?_range h]
  rfl
theorem get_rI {F : Nat → V} {N u : Nat} {x : V} (h : ((List.range N).map F)[u]? = some x) : u < N ∧ x = F u := by
  have hu : u < N := by
    have := (List.getElem?_eq_some_iff.mp h).1
    rw [List.length_map, List.length_range] at this
    exact this
  rw [get_r hu] at h
  exact ⟨hu, (Option.some.inj h).symm⟩
/-- the least sum over a window -/
def lsW (f F : Nat → Int) (n w t : Nat) : Int := MF.mn (fun j => f (t - (w - 1) + j) + F (t - (t - (w - 1) + j))) (min (t + 1) n - (t - (w - 1)) - 1)
/-- a long row -/
theorem lsW_long {f F : Nat → Int} {n w t : Nat} (n0 : 0 < n) (h : t < w) : lsW f F n w t = MF.mn (fun s => f s + F (t - s)) (min t (n - 1)) := by
  unfold lsW
  rw [show t - (w - 1) = 0 by omega, show min (t + 1) n - 0 - 1 = min t (n - 1) by omega]
  refine MF.mn_congr fun j hj => ?_
  rw [Nat.zero_add]
section
variable {P : Program} {w : World} {K : PySem.W.Frag} {mg : Str → Option Value} {base : Heap}
abbrev nLs2 : List Str := ["row", "other_row", "many", "back", "last", "sums", "beat", "low", "high", "place", "mine", "its", "one", "two"]
theorem scLs2 : FnScope nLs2 ["row", "other_row", "many"] (defScope sLs2) := ⟨rfl, rfl, rfl, by decide +kernel, rfl, by decide +kernel, by decide +kernel⟩
def spLs2 (K : PySem.W.Frag) : Sp := fun vs H Q _ => ∃ (a b : Addr) (f F : Nat → Int) (n w m : Nat), vs = [.ref a, .ref b, .int m] ∧ H a = some (.lst ((List.range n).map fun j => V.int (f j))) ∧ H b = some (.lst ((List.range w).map fun j => V.int (F j))) ∧ 0 < n ∧ 0 < w ∧ m + 1 ≤ n + w ∧ n ≤ 20000 ∧ w ≤ 20000 ∧
  ∀ z H', H z = none → H' z = some (.lst ((List.range m).map fun t => V.int (lsW f F n w t))) → Same H H' → Q (.ref z) H'
theorem ok_ls2 {f : Addr} {fd : FuncData} (F : Fun K "least_sums" "least_sums" sLs2 f fd) (T : CurG mg) (nmax : mg "max" = none) : FnOk P w K mg base CX0 1 f fd ["row", "other_row", "many"] (spLs2 K) := by
  refine F.ok scLs2 (fun vs H Q E h => ?_) (fun cdv A outer s H vs Q E hr h => ?_)
  · obtain ⟨a, b, f, F, n, w, m, rfl, _⟩ := h
    rfl
  · obtain ⟨a, b, f, F, n, w, m, rfl, ha, hb, n0, w0, mn, n2, w2, k⟩ := h
    refine ⟨_, (C8.pss_cut (ps_set (i := 3) scLs2.nd rfl (Or.inl rfl) (pe_revL (pv 1)))
 (C8.pss_cut (ps_set (i := 4) scLs2.nd rfl (Or.inl rfl) (pe_op op_sub (pe_callB call_len_seq (by rfl) T.len PySem.boot_len (pa_cons (pv 1) pa_nil)) pe_int))
 (C8.pss_cut (ps_set (i := 5) scLs2.nd rfl (Or.inl rfl) (pe_lst pa_nil))
 (C8.pss_cut (ps_for PassesOwn.never rfl (pi_range1 rfl T.range (pa_cons (pv 2) pa_nil)) (pg_name (i := 6) scLs2.nd rfl (Or.inl rfl)) (C8.pss_cut (ps_set (i := 7) scLs2.nd rfl (Or.inl rfl) (pe_callB (call_max2 rfl) (by rfl) nmax (by decide +kernel) (pa_cons pe_int (pa_cons (pe_op op_sub (pv 6) (pv 4)) pa_nil))))
 (C8.pss_cut (ps_set (i := 8) scLs2.nd rfl (Or.inl rfl) (pe_callB (call_min2 rfl) (by rfl) T.min (by decide +kernel) (pa_cons (pe_op op_add (pv 6) pe_int) (pa_cons (pe_callB call_len_seq (by rfl) T.len PySem.boot_len (pa_cons (pv 0) pa_nil)) pa_nil))))
 (C8.pss_cut (ps_set (i := 9) scLs2.nd rfl (Or.inl rfl) (pe_op op_add (pe_op op_sub (pv 4) (pv 6)) (pv 7)))
 (C8.pss_cut (ps_set (i := 10) scLs2.nd rfl (Or.inl rfl) (pe_slice WQ.sl_seqC (pv 0) (po_some (pv 7)) (po_some (pv 8))))
 (C8.pss_cut (ps_set (i := 11) scLs2.nd rfl (Or.inl rfl) (pe_slice sl_list (pv 3) (po_some (pv 9)) (po_some (pe_op op_sub (pe_op op_add (pv 9) (pv 8)) (pv 7)))))
 (pss_one
 (ps_expr (pe_bm PySem.F.plainAttrs_list PySem.F.slot_list_append PySem.F.type_list_append mt_append (pv 5) (pa_cons (pe_callB (cr_min rfl) (by rfl) T.min (by decide +kernel) (pa_cons (pe_lc (own := [("one", 12), ("two", 13)]) (g := (gTup K 2 (gCons (gName 12) (gCons (gName 13) gNil)))) (tt := tYes) rfl scLs2.nd (WQ.pi_zipM (by rfl) T.zip (pa_cons (pv 10) (pa_cons (pv 11) pa_nil))) (blkOk_by (N := nLs2) (sc := defScope sLs2) (by decide +kernel)) (fun _ _ _ _ _ => (pg_tup rfl (pgs_cons (pg_name (i := 12) scLs2.nd rfl (Or.inl rfl)) (pgs_cons (pg_name (i := 13) scLs2.nd rfl (Or.inl rfl)) pgs_nil)))) (fun _ _ _ _ _ => pts_nil) (fun _ _ _ _ _ => (pe_op op_add (pv 12) (pv 13)))) pa_nil)) pa_nil))))))))))
 (pss_one
 (ps_ret (pv 5))))))), ?_⟩
    have lcm : ((List.range n).map fun j => V.int (f j)).length = n := by rw [List.length_map, List.length_range]
    have lwm : ((List.range w).map fun j => V.int (F j)).length = w := by rw [List.length_map, List.length_range]
    refine ⟨fun σ H' => ∃ q, σ = [some (.ref a), some (.ref b), some (.int m), some (.ref q), none, none, none, none, none, none, none, none, none, none] ∧ H' q = some (.lst ((List.range w).map fun j => V.int (F j)).reverse) ∧ Same H H', ?_, ?_⟩
    · exact ⟨_, rfl, b, _, rfl, SqL.of hb, fun q hq => ⟨q, rfl, upd_same, same_new hq⟩⟩
    rintro σ H1 ⟨q, rfl, h1, s1⟩
    refine ⟨fun σ H' => σ = [some (.ref a), some (.ref b), some (.int m), some (.ref q), some (.int ((w - 1 : Nat) : Int)), none, none, none, none, none, none, none, none, none] ∧ H1 = H', ?_, ?_⟩
    · refine ⟨_, rfl, b, _, rfl, .inl (SqL.of (s1 _ _ hb)), _, _, rfl, rfl, ?_, rfl⟩
      refine setI (n := 4) ?_
      rw [lwm]
      show ((w : Nat) : Int) - 1 = ((w - 1 : Nat) : Int)
      omega
    rintro σ H' ⟨rfl, rfl⟩
    refine ⟨fun σ H' => ∃ S, σ = [some (.ref a), some (.ref b), some (.int m), some (.ref q), some (.int ((w - 1 : Nat) : Int)), some (.ref S), none, none, none, none, none, none, none, none] ∧ H S = none ∧ H1 S = none ∧ H' S = some (.lst []) ∧ Same H1 H', ?_, ?_⟩
    · exact ⟨(by show 0 ≤ sizeLine; decide), fun S hS => ⟨S, rfl, s1.free hS, hS, upd_same, same_new hS⟩⟩
    rintro σ H2 ⟨S, rfl, hS, hS1, h2, s2⟩
    have s02 := Same.trans s1 s2
    have nq : q ≠ S := ne_of_none h1 hS1
    have h1 := s2 _ _ h1
    refine ⟨fun σ H' => (∃ v6 v7 v8 v9 v10 v11, σ = [some (.ref a), some (.ref b), some (.int m), some (.ref q), some (.int ((w - 1 : Nat) : Int)), some (.ref S), v6, v7, v8, v9, v10, v11, none, none]) ∧ H' S = some (.lst ((List.range m).map fun t => V.int (lsW f F n w t))) ∧ Same H H', ?_, ?_⟩
    · refine ⟨_, rfl, m, rfl, by omega, by omega, for_range (lo := 0) (n := m) (fun i σ H' => (∃ v6 v7 v8 v9 v10 v11, σ = [some (.ref a), some (.ref b), some (.int m), some (.ref q), some (.int ((w - 1 : Nat) : Int)), some (.ref S), v6, v7, v8, v9, v10, v11, none, none]) ∧ H' S = some (.lst ((List.range i).map fun t => V.int (lsW f F n w t))) ∧ H' q = some (.lst ((List.range w).map fun j => V.int (F j)).reverse) ∧ Same H H') ⟨⟨_, _, _, _, _, _, rfl⟩, h2, h1, s02⟩ ?_ (fun σ H' ⟨e, hh, _, s⟩ => ⟨e, hh, s⟩)⟩
      rintro i σ H3 hi ⟨⟨v6, v7, v8, v9, v10, v11, rfl⟩, h3, hq3, s3⟩
      have ei : (0 : Int) + (i : Int) = (i : Int) := by omega
      rw [ei]
      generalize elo : i - (w - 1) = lo
      generalize ehi : min (i + 1) n = hh
      have lh : lo < hh := by omega
      refine ⟨fun σ H' => σ = [some (.ref a), some (.ref b), some (.int m), some (.ref q), some (.int ((w - 1 : Nat) : Int)), some (.ref S), some (.int (i : Nat)), some (.int (lo : Nat)), v8, v9, v10, v11, none, none] ∧ H3 = H', ?_, ?_⟩
      · refine ⟨_, rfl, _, rfl, _, _, rfl, rfl, _, _, rfl, ?_, rfl⟩
        refine setI (n := 7) ?_
        split <;> omega
      rintro σ H' ⟨rfl, rfl⟩
      refine ⟨fun σ H' => σ = [some (.ref a), some (.ref b), some (.int m), some (.ref q), some (.int ((w - 1 : Nat) : Int)), some (.ref S), some (.int (i : Nat)), some (.int (lo : Nat)), some (.int (hh : Nat)), v9, v10, v11, none, none] ∧ H3 = H', ?_, ?_⟩
      · refine ⟨_, rfl, _, _, rfl, rfl, _, rfl, a, _, rfl, .inl (SqL.of (s3 _ _ ha)), _, _, rfl, ?_, rfl⟩
        refine setI (n := 8) ?_
        rw [lcm]
        split <;> omega
      rintro σ H' ⟨rfl, rfl⟩
      refine ⟨fun σ H' => σ = [some (.ref a), some (.ref b), some (.int m), some (.ref q), some (.int ((w - 1 : Nat) : Int)), some (.ref S), some (.int (i : Nat)), some (.int (lo : Nat)), some (.int (hh : Nat)), some (.int ((w - 1 - i : Nat) : Int)), v10, v11, none, none] ∧ H3 = H', ?_, ?_⟩
      · refine ⟨_, rfl, _, rfl, _, _, rfl, rfl, _, rfl, _, _, rfl, rfl, ?_, rfl⟩
        refine setI (n := 9) ?_
        omega
      rintro σ H' ⟨rfl, rfl⟩
      refine ⟨fun σ H' => ∃ p, σ = [some (.ref a), some (.ref b), some (.int m), some (.ref q), some (.int ((w - 1 : Nat) : Int)), some (.ref S), some (.int (i : Nat)), some (.int (lo : Nat)), some (.int (hh : Nat)), some (.int ((w - 1 - i : Nat) : Int)), some (.ref p), v11, none, none] ∧ SeqA K H' p ((((List.range n).map fun j => V.int (f j)).drop lo).take (hh - lo)) ∧ Same H3 H', ?_, ?_⟩
      · refine ⟨_, rfl, _, rfl, _, rfl, _, rfl, _, rfl, a, _, rfl, .inl (SqL.of (s3 _ _ ha)), fun H4 p s4 hp _ _ => ⟨p, rfl, ?_, s4⟩⟩
        rw [cutN (by omega) (by rw [lcm]; omega)] at hp
        exact hp
      rintro σ H4 ⟨p, rfl, hp, s4⟩
      refine ⟨fun σ H' => ∃ r, σ = [some (.ref a), some (.ref b), some (.int m), some (.ref q), some (.int ((w - 1 : Nat) : Int)), some (.ref S), some (.int (i : Nat)), some (.int (lo : Nat)), some (.int (hh : Nat)), some (.int ((w - 1 - i : Nat) : Int)), some (.ref p), some (.ref r), none, none] ∧ H' r = some (.lst ((((List.range w).map fun j => V.int (F j)).reverse.drop (w - 1 - i)).take (hh - lo))) ∧ Same H4 H', ?_, ?_⟩
      · refine ⟨_, rfl, _, rfl, _, rfl, _, rfl, _, rfl, _, _, rfl, rfl, _, rfl, _, _, rfl, rfl, _, rfl, q, _, rfl, SqL.of (s4 _ _ hq3), fun r hr => ⟨r, rfl, ?_, same_new hr⟩⟩
        rw [show ((w - 1 - i : Nat) : Int) + ((hh : Nat) : Int) - (lo : Int) = ((w - 1 - i + (hh - lo) : Nat) : Int) by omega, cutN (by omega) (by rw [List.length_reverse, lwm]; omega), Nat.add_sub_cancel_left]
        exact upd_same
      rintro σ H5 ⟨r, rfl, hr, s5⟩
      have s35 := Same.trans s4 s5
      have l1 : ((((List.range n).map fun j => V.int (f j)).drop lo).take (hh - lo)).length = hh - lo := by rw [List.length_take, List.length_drop, lcm]; omega
      have l2 : ((((List.range w).map fun j => V.int (F j)).reverse.drop (w - 1 - i)).take (hh - lo)).length = hh - lo := by rw [List.length_take, List.length_drop, List.length_reverse, lwm]; omega
      refine ⟨_, rfl, .inl ⟨rfl, _, SqL.of (s35 _ _ h3)⟩, _, rfl, _, rfl, p, r, _, _, rfl, hp.same s5, SqL.of hr, fun J G wk st D hD => LM.lcM (n := hh - lo) (by rw [l1, l2, Nat.min_self] at wk; exact wk) (fun j => V.int (f (lo + j) + F (i - (lo + j)))) hD (by omega) (fun H6 s6 => st _ (.of s6 _ _) (.of s6 _ _)) ?_ fun H6 h6 s6 => ?_⟩
      · rintro j v H6 H7 hj s6 ⟨t, x, y, rfl, ht, rfl, hx, hy⟩ R N kk
        dsimp only at hx hy
        rw [cut_get hj, get_r (by omega)] at hx
        rw [List.getElem?_take, if_pos hj, List.getElem?_drop, List.getElem?_reverse (by rw [lwm]; omega), lwm, show w - 1 - (w - 1 - i + j) = i - (lo + j) by omega, get_r (by omega)] at hy
        cases hx
        cases hy
        exact ⟨t, [_, _], rfl, SqT.of upd_same, rfl, _, _, rfl, _, _, rfl, rfl, rfl, _, rfl, _, rfl, _, _, rfl, rfl, kk _ (same_new ht)⟩
      · have e6 : ((List.range (hh - lo)).map fun j => f (lo + j) + F (i - (lo + j))).map V.int = (List.range (hh - lo)).map fun j => V.int (f (lo + j) + F (i - (lo + j))) := by rw [List.map_map]; rfl
        have s36 := Same.trans s35 s6
        have h3' := s36 _ _ h3
        refine ⟨D, _, rfl, by rw [e6]; exact SqL.of h6, by rw [List.length_map, List.length_range]; omega, fun z hz hle => ⟨S, _, _, rfl, rfl, h3', by rw [List.length_map, List.length_range]; exact line_lt (by omega), ?_⟩⟩
        have ez : z = lsW f F n w i := by
          unfold lsW
          rw [elo, ehi]
          refine MF.mn_is ?_ fun j hj => hle _ (List.mem_map.mpr ⟨j, List.mem_range.mpr (by omega), rfl⟩)
          obtain ⟨j, hj, e⟩ := List.mem_map.mp hz
          exact ⟨j, by have := List.mem_range.mp hj; omega, e⟩
        refine ⟨⟨_, _, _, _, _, _, rfl⟩, ?_, ?_, LM.sPut hS (Same.trans s3 s36)⟩
        · rw [upd_same, List.range_succ (n := i), List.map_append, List.map_singleton, ez]
        · rw [upd_ne nq]
          exact s36 _ _ hq3
    rintro σ H3 ⟨⟨v6, v7, v8, v9, v10, v11, rfl⟩, h3, s3⟩
    exact ⟨_, rfl, k S H3 hS h3 s3⟩
end
end WW
end

section
set_option Elab.async false
set_option linter.all false
set_option maxRecDepth 100000
set_option maxHeartbeats 8000000
namespace WW
open PySem L2 WO WG RZ WQ WT WC
/-- a curve that goes on, of known values -/
structure KcI (H : Hp) (C x : Addr) (f : Nat → Int) (q : Nat) (r : Int) (b : Nat) : Prop where
  cu : CurveAt H C x ((List.range (b + q)).map fun j => V.int (f j)) q r
  fo : MF.IsForm f q r b
  ca : Calm ((List.range (b + q)).map fun j => V.int (f j)) q r
  ln : b + q ≤ 4000
theorem KcI.same {H H' : Hp} {C x : Addr} {f : Nat → Int} {q : Nat} {r : Int} {b : Nat} (h : KcI H C x f q r b) (s : Same H H') : KcI H' C x f q r b := ⟨h.cu.same s, h.fo, h.ca, h.ln⟩
theorem KcI.row {H : Hp} {C x : Addr} {f : Nat → Int} {q : Nat} {r : Int} {b : Nat} (h : KcI H C x f q r b) : RowF ((List.range (b + q)).map fun j => V.int (f j)) q r (fun j => .int (f j)) := row_int h.fo.pos (by omega) (by have := h.ln; omega) (by rw [Nat.add_sub_cancel]; exact h.fo.qp)
theorem KcI.len {H : Hp} {C x : Addr} {f : Nat → Int} {q : Nat} {r : Int} {b : Nat} (h : KcI H C x f q r b) : ((List.range (b + q)).map fun j => V.int (f j)).length = b + q := by rw [List.length_map, List.length_range]
/-- sums with the tail -/
def lateV (f F : Nat → Int) (b t : Nat) : V := if t < b then .non else .int (MF.la f F b t)
def earL (f F : Nat → Int) (b m : Nat) : List V := if b = 0 then [] else (List.range m).map fun t => V.int (MF.ea f F b t)
section
variable {P : Program} {w : World} {K : PySem.W.Frag} {mg : Str → Option Value} {base : Heap}
theorem first_int {H : Hp} {C x : Addr} {f : Nat → Int} {q m : Nat} {r : Int} {b : Nat} {Q : VK} {E : XK} (h : KcI H C x f q r b) (hm : m ≤ 50000) (k : ∀ z H', H z = none → H' z = some (.lst ((List.range m).map fun j => V.int (f j))) → Same H H' → Q (.ref z) H') : spFirst K C [.ref x, .int m] H Q E :=
  ⟨x, _, q, m, r, _, rfl, h.cu, h.row, h.ca, by rw [h.len]; have := h.fo.pos; omega, by rw [h.len]; have := h.ln; omega, hm, k⟩
abbrev nUns : List Str := ["slow", "fast", "step"]
theorem scUns : FnScope nUns ["slow", "fast", "step"] (defScope sUns) := ⟨rfl, rfl, rfl, by decide +kernel, rfl, by decide +kernel, by decide +kernel⟩
def spUns (K : PySem.W.Frag) (C : Addr) : Sp := fun vs H Q _ => ∃ (x y : Addr) (f F : Nat → Int) (q q' : Nat) (r r' : Int) (b b' s : Nat), vs = [.ref x, .ref y, .int s] ∧ KcI H C x f q r b ∧ KcI H C y F q' r' b' ∧ 0 < s ∧ Q (.int ((b + b' + s - 1 : Nat) : Int)) H
theorem ok_uns {f C : Addr} {fd : FuncData} (F : Fun K "unsettled" "unsettled" sUns f fd) (c_reg : Cal P w K mg base CX0 1 "regular_from" ["curve"] (spRegular K C)) : FnOk P w K mg base CX0 2 f fd ["slow", "fast", "step"] (spUns K C) := by
  refine F.ok scUns (fun vs H Q E h => ?_) (fun cdv A outer s H vs Q E hr h => ?_)
  · obtain ⟨x, y, f, F, q, q', r, r', b, b', s, rfl, _⟩ := h
    rfl
  · obtain ⟨x, y, f, F, q, q', r, r', b, b', st, rfl, kx, ky, s0, k⟩ := h
    refine ⟨_, (pss_one
 (ps_ret (pe_op op_sub (pe_op op_add (pe_op op_add (pe_callC c_reg (hr.mono (by decide)) rfl pass0 (pa_cons (pv 0) pa_nil)) (pe_callC c_reg (hr.mono (by decide)) rfl pass0 (pa_cons (pv 1) pa_nil))) (pv 2)) pe_int))), ?_⟩
    refine ⟨_, rfl, x, _, q, r, rfl, kx.cu, by rw [kx.len]; omega, _, rfl, y, _, q', r', rfl, ky.cu, by rw [ky.len]; omega, _, _, rfl, rfl, _, rfl, _, _, rfl, rfl, _, _, rfl, rfl, ?_⟩
    rw [kx.len, ky.len]
    show Q (.int (((b + q - q : Nat) : Int) + ((b' + q' - q' : Nat) : Int) + (st : Int) - 1)) _
    rw [show ((b + q - q : Nat) : Int) + ((b' + q' - q' : Nat) : Int) + (st : Int) - 1 = ((b + b' + st - 1 : Nat) : Int) by omega]
    exact k
abbrev nEar : List Str := ["slow", "fast", "many", "early"]
theorem scEar : FnScope nEar ["slow", "fast", "many"] (defScope sEar) := ⟨rfl, rfl, rfl, by decide +kernel, rfl, by decide +kernel, by decide +kernel⟩
def spEar (K : PySem.W.Frag) (C : Addr) : Sp := fun vs H Q _ => ∃ (x y : Addr) (f F : Nat → Int) (q q' : Nat) (r r' : Int) (b b' m : Nat), vs = [.ref x, .ref y, .int m] ∧ KcI H C x f q r b ∧ KcI H C y F q' r' b' ∧ 0 < m ∧ m ≤ 20000 ∧
  ∀ z H', H z = none → H' z = some (.lst (earL f F b m)) → Same H H' → Q (.ref z) H'
theorem ok_ear {f fI fE C : Addr} {fd : FuncData} (F : Fun K "early_sums" "early_sums" sEar f fd) (T : CurG mg) (U : CurT K mg C fI fE) (c_reg : Cal P w K mg base CX0 1 "regular_from" ["curve"] (spRegular K C))
    (c_fir : Cal P w K mg base CX0 3 "first_values" ["curve", "many"] (spFirst K C)) (c_ls2 : Cal P w K mg base CX0 1 "least_sums" ["row", "other_row", "many"] (spLs2 K)) : FnOk P w K mg base CX0 4 f fd ["slow", "fast", "many"] (spEar K C) := by
  refine F.ok scEar (fun vs H Q E h => ?_) (fun cdv A outer s H vs Q E hr h => ?_)
  · obtain ⟨x, y, f, F, q, q', r, r', b, b', m, rfl, _⟩ := h
    rfl
  · obtain ⟨x, y, f, F, q, q', r, r', b, b', m, rfl, kx, ky, m0, m2, k⟩ := h
    refine ⟨_, (C8.pss_cut (ps_set (i := 3) scEar.nd rfl (Or.inl rfl) (pe_callTy call_list_of (by rfl) T.list (by decide +kernel) (pa_cons (pe_slice LM.sl_tupN (pe_fld (pv 0) rfl) po_none (po_some (pe_callC c_reg (hr.mono (by decide)) rfl pass0 (pa_cons (pv 0) pa_nil)))) pa_nil)))
 (C8.pss_cut (ps_if (pt_not (pt_truth (pv 3) (by intro _; rfl))) (pss_one
 (ps_ret (pe_lst pa_nil))) pss_nil)
 (pss_one
 (ps_ret (pe_callC c_ls2 (hr.mono (by decide)) rfl pass0 (pa_cons (pv 3) (pa_cons (pe_callC c_fir (hr.mono (by decide)) rfl pass0 (pa_cons (pv 1) (pa_cons (pv 2) pa_nil))) (pa_cons (pv 2) pa_nil)))))))), ?_⟩
    have lb := kx.ln
    refine ⟨fun σ H' => ∃ a, σ = [some (.ref x), some (.ref y), some (.int m), some (.ref a)] ∧ Same H H' ∧ H a = none ∧ H' a = some (.lst ((List.range b).map fun j => V.int (f j))), ?_, ?_⟩
    · obtain ⟨dx, t, x1, x2⟩ := id kx.cu
      refine ⟨_, rfl, x, C, dx, _, .ref t, rfl, x1, U.cl, U.nS, rfl, _, rfl, x, _, q, r, rfl, kx.cu, by rw [kx.len]; omega, ((b + q - q : Nat) : Int), by rw [kx.len], t, _, rfl, SqT.of x2, fun p1 H3 h3 s3 => ?_⟩
      rw [show b + q - q = b by omega, cutR (by rw [kx.len]; omega), ← List.map_take, List.take_range, Nat.min_eq_left (by omega)] at h3
      refine ⟨p1, _, rfl, .inr h3, fun a ha => ?_⟩
      generalize g2 : upd H3 a _ = H4
      obtain ⟨s4, f4⟩ := alloc g2 ha
      exact ⟨a, rfl, Same.trans s3 s4, s3.free ha, f4⟩
    rintro σ H1 ⟨a, rfl, s1, ha, h1⟩
    refine ⟨fun σ H' => σ = [some (.ref x), some (.ref y), some (.int m), some (.ref a)] ∧ H' = H1 ∧ 0 < b, ?_, ?_⟩
    · refine ⟨_, rfl, !((List.range b).map fun j => V.int (f j)).isEmpty, .inl ⟨_, SqL.of h1, rfl⟩, ?_⟩
      by_cases c : b = 0
      · subst c
        refine iteT ⟨(by show 0 ≤ sizeLine; decide), fun z hz => ?_⟩
        exact k z _ (s1.free hz) (by rw [upd_same]; rfl) (Same.trans s1 (same_new hz))
      · have e : ((List.range b).map fun j => V.int (f j)).isEmpty = false := by
          rw [List.isEmpty_eq_false_iff]
          intro z
          have := congrArg List.length z
          rw [List.length_map, List.length_range] at this
          exact c this
        rw [e]
        exact iteF ⟨rfl, rfl, by omega⟩
    rintro σ H1 ⟨rfl, rfl, b0⟩
    refine ⟨_, rfl, _, rfl, _, rfl, y, _, q', m, r', _, rfl, (ky.same s1).cu, (ky.same s1).row, (ky.same s1).ca, by rw [ky.len]; have := ky.fo.pos; omega, by rw [ky.len]; have := ky.ln; omega, by omega, fun z H2 hz h2 s2 => ⟨_, rfl, ?_⟩⟩
    refine ⟨a, z, f, F, b, m, m, rfl, s2 _ _ h1, h2, b0, m0, by omega, by omega, by omega, fun z3 H3 hz3 h3 s3 => ?_⟩
    refine k z3 H3 (s1.free (s2.free hz3)) ?_ (Same.trans s1 (Same.trans s2 s3))
    rw [h3]
    unfold earL
    rw [if_neg (by omega)]
    congr 2
    exact List.map_congr_left fun t ht => by rw [lsW_long b0 (List.mem_range.mp ht)]; rfl
abbrev nLts : List Str := ["slow", "fast", "many", "begin", "ring", "row", "beat"]
theorem scLts : FnScope nLts ["slow", "fast", "many"] (defScope sLts) := ⟨rfl, rfl, rfl, by decide +kernel, rfl, by decide +kernel, by decide +kernel⟩
def spLts (K : PySem.W.Frag) (C : Addr) : Sp := fun vs H Q _ => ∃ (x y : Addr) (f F : Nat → Int) (q q' : Nat) (r r' : Int) (b b' m : Nat), vs = [.ref x, .ref y, .int m] ∧ KcI H C x f q r b ∧ KcI H C y F q' r' b' ∧ b < m ∧ m ≤ 20000 ∧
  ∀ z H', H z = none → H' z = some (.lst ((List.range m).map (lateV f F b))) → Same H H' → Q (.ref z) H'
theorem ok_lts {f fI fE C : Addr} {fd : FuncData} (F : Fun K "late_sums" "late_sums" sLts f fd) (T : CurG mg) (U : CurT K mg C fI fE) (nmax : mg "max" = none) (c_reg : Cal P w K mg base CX0 1 "regular_from" ["curve"] (spRegular K C))
    (c_fir : Cal P w K mg base CX0 3 "first_values" ["curve", "many"] (spFirst K C)) (c_ls2 : Cal P w K mg base CX0 1 "least_sums" ["row", "other_row", "many"] (spLs2 K)) : FnOk P w K mg base CX0 4 f fd ["slow", "fast", "many"] (spLts K C) := by
  refine F.ok scLts (fun vs H Q E h => ?_) (fun cdv A outer s H vs Q E hr h => ?_)
  · obtain ⟨x, y, f, F, q, q', r, r', b, b', m, rfl, _⟩ := h
    rfl
  · obtain ⟨x, y, f, F, q, q', r, r', b, b', m, rfl, kx, ky, m0, m2, k⟩ := h
    refine ⟨_, (C8.pss_cut (ps_set (i := 3) scLts.nd rfl (Or.inl rfl) (pe_callC c_reg (hr.mono (by decide)) rfl pass0 (pa_cons (pv 0) pa_nil)))
 (C8.pss_cut (ps_set (i := 4) scLts.nd rfl (Or.inl rfl) (pe_callTy call_list_of (by rfl) T.list (by decide +kernel) (pa_cons (pe_slice LM.sl_tupN (pe_fld (pv 0) rfl) (po_some (pv 3)) po_none) pa_nil)))
 (C8.pss_cut (ps_set (i := 5) scLts.nd rfl (Or.inl rfl) (pe_callC c_ls2 (hr.mono (by decide)) rfl pass0 (pa_cons (pv 4) (pa_cons (pe_callC c_fir (hr.mono (by decide)) rfl pass0 (pa_cons (pv 1) (pa_cons (pv 2) pa_nil))) (pa_cons (pe_callB (call_max2 rfl) (by rfl) nmax (by decide +kernel) (pa_cons pe_int (pa_cons (pe_op op_sub (pv 2) (pv 3)) pa_nil))) pa_nil)))))
 (C8.pss_cut (ps_for PassesOwn.never rfl (pi_range2 (by rfl) T.range (pa_cons (pe_fld (pv 0) rfl) (pa_cons (pe_callB call_len_seq (by rfl) T.len PySem.boot_len (pa_cons (pv 5) pa_nil)) pa_nil))) (pg_name (i := 6) scLts.nd rfl (Or.inl rfl)) (pss_one
 (ps_asg (pe_callB (call_min2 rfl) (by rfl) T.min (by decide +kernel) (pa_cons (pe_ix ix_list (pv 5) (pv 6) (fun _ _ => rfl)) (pa_cons (pe_op op_add (pe_ix ix_list (pv 5) (pe_op op_sub (pv 6) (pe_fld (pv 0) rfl)) (fun _ _ => rfl)) (pe_fld (pv 0) rfl)) pa_nil))) (pg_sub (pv 5) (pv 6) set_list))))
 (pss_one
 (ps_ret (pe_slice sl_list (pe_op op_cat (pe_op op_rep (pe_lst (pa_cons pe_non pa_nil)) (pv 3)) (pv 5)) po_none (po_some (pv 2))))))))), ?_⟩
    have lb := kx.ln
    have q0 := kx.fo.pos
    refine ⟨fun σ H' => σ = [some (.ref x), some (.ref y), some (.int m), some (.int b), none, none, none] ∧ H' = H, ?_, ?_⟩
    · refine ⟨_, rfl, x, _, q, r, rfl, kx.cu, by rw [kx.len]; omega, ?_, rfl⟩
      rw [kx.len, show b + q - q = b by omega]
      rfl
    rintro σ H ⟨rfl, rfl⟩
    refine ⟨fun σ H' => ∃ a, σ = [some (.ref x), some (.ref y), some (.int m), some (.int b), some (.ref a), none, none] ∧ Same H H' ∧ H' a = some (.lst ((List.range q).map fun j => V.int (f (b + j)))), ?_, ?_⟩
    · obtain ⟨dx, t, x1, x2⟩ := id kx.cu
      refine ⟨_, rfl, x, C, dx, _, .ref t, rfl, x1, U.cl, U.nS, rfl, _, rfl, (b : Int), rfl, t, _, rfl, SqT.of x2, fun p1 H3 h3 s3 => ?_⟩
      rw [cutL (by rw [kx.len]; omega), ← List.map_drop, List.range_add, List.drop_append, List.length_range, Nat.sub_self, List.drop_of_length_le (by rw [List.length_range]; exact Nat.le_refl _), List.nil_append, List.drop_zero, List.map_map] at h3
      refine ⟨p1, _, rfl, .inr h3, fun a ha => ?_⟩
      generalize g2 : upd H3 a _ = H4
      obtain ⟨s4, f4⟩ := alloc g2 ha
      exact ⟨a, rfl, Same.trans s3 s4, f4⟩
    rintro σ H1 ⟨a, rfl, s1, h1⟩
    -- the ring's own sums
    obtain ⟨R, eR⟩ : ∃ R : Nat → Int, R = fun t => MF.mn (fun i => f (b + i) + F (t - i)) (min t (q - 1)) := ⟨_, rfl⟩
    refine ⟨fun σ H' => ∃ z, σ = [some (.ref x), some (.ref y), some (.int m), some (.int b), some (.ref a), some (.ref z), none] ∧ Same H1 H' ∧ H1 z = none ∧ H' z = some (.lst ((List.range (m - b)).map fun t => V.int (R t))), ?_, ?_⟩
    · refine ⟨_, rfl, _, rfl, _, rfl, y, _, q', m, r', _, rfl, (ky.same s1).cu, (ky.same s1).row, (ky.same s1).ca, by rw [ky.len]; have := ky.fo.pos; omega, by rw [ky.len]; have := ky.ln; omega, by omega, fun z H2 hz h2 s2 => ⟨_, rfl, _, rfl, _, _, rfl, rfl, _, _, rfl, ?_⟩⟩
      refine ⟨a, z, fun j => f (b + j), F, q, m, m - b, ?_, s2 _ _ h1, h2, q0, by omega, by omega, by omega, by omega, fun z3 H3 hz3 h3 s3 => ⟨z3, rfl, Same.trans s2 s3, s2.free hz3, ?_⟩⟩
      · show [V.ref a, V.ref z, V.int (if ((m : Int) - (b : Int)) > 0 then ((m : Int) - (b : Int)) else 0)] = _
        rw [show (if ((m : Int) - (b : Int)) > 0 then ((m : Int) - (b : Int)) else 0) = ((m - b : Nat) : Int) by split <;> omega]
      · rw [h3, eR]
        congr 2
        exact List.map_congr_left fun t ht => by rw [lsW_long q0 (by have := List.mem_range.mp ht; omega)]
    rintro σ H2 ⟨z, rfl, s2, hz, h2⟩
    have s02 := Same.trans s1 s2
    have kx2 := kx.same s02
    have lr : ∀ (n : Nat) (F : Nat → V), ((List.range n).map F).length = n := fun n F => by rw [List.length_map, List.length_range]
    refine ⟨fun σ H' => ∃ v6, σ = [some (.ref x), some (.ref y), some (.int m), some (.int b), some (.ref a), some (.ref z), v6] ∧ Same H1 H' ∧ H' z = some (.lst ((List.range (m - b)).map fun t => V.int (MF.la f F b (b + t)))), ?_, ?_⟩
    · obtain ⟨dx, t, x1, x2⟩ := id kx2.cu
      have start : ∀ t, t < q → R t = MF.la f F b (b + t) := fun t ht => by
        rw [eR]
        show MF.mn (fun i => f (b + i) + F (t - i)) (min t (q - 1)) = MF.mn (fun i => f (b + i) + F (b + t - b - i)) (b + t - b)
        rw [show min t (q - 1) = t by omega, show b + t - b = t by omega]
      refine ⟨_, rfl, x, C, dx, _, .int q, rfl, x1, U.cl, U.nP, rfl, _, rfl, z, _, rfl, .inl (SqL.of h2), (q : Int), ((m - b : Nat) : Int), by rw [lr], ⟨by omega, by omega, by omega, by omega⟩, for_range (lo := (q : Int)) (n := (((m - b : Nat) : Int) - (q : Int)).toNat) (fun i σ H' => ∃ v6, σ = [some (.ref x), some (.ref y), some (.int m), some (.int b), some (.ref a), some (.ref z), v6] ∧ Same H1 H' ∧ H' z = some (.lst ((List.range (m - b)).map fun t => V.int (if t < q + i then MF.la f F b (b + t) else R t)))) ⟨_, rfl, s2, ?_⟩ ?_ ?_⟩
      · rw [h2]
        congr 2
        refine List.map_congr_left fun t ht => ?_
        by_cases c : t < q + 0
        · rw [if_pos c, start t (by omega)]
        · rw [if_neg c]
      · rintro i σ H3 hi ⟨v6, rfl, s3, h3⟩
        have kx3 := kx.same (Same.trans s1 s3)
        obtain ⟨dy, ty, y1, y2⟩ := id kx3.cu
        have eb : (q : Int) + (i : Int) = ((q + i : Nat) : Int) := by omega
        have hm : q + i < m - b := by omega
        refine ⟨_, rfl, _, rfl, z, _, _, .int (R (q + i)), rfl, rfl, SqL.of h3, ?_, _, rfl, _, rfl, _, rfl, x, C, dy, _, .int q, rfl, y1, U.cl, U.nP, rfl, _, _, rfl, rfl, z, _, _, .int (MF.la f F b (b + i)), rfl, rfl, SqL.of h3, ?_, _, rfl, x, C, dy, _, .int r, rfl, y1, U.cl, U.nG, rfl, _, _, rfl, rfl, _, _, rfl, ?_⟩
        · rw [eb]
          refine atI_nat ?_
          rw [get_r (F := fun t => V.int (if t < q + i then MF.la f F b (b + t) else R t)) hm, if_neg (by omega)]
        · show atI _ ((q : Int) + (i : Int) - (q : Int)) = _
          rw [show (q : Int) + (i : Int) - (q : Int) = ((i : Nat) : Int) by omega]
          refine atI_nat ?_
          rw [get_r (F := fun t => V.int (if t < q + i then MF.la f F b (b + t) else R t)) (by omega), if_pos (by omega)]
        · refine ⟨_, rfl, _, rfl, z, _, _, q + i, rfl, rfl, h3, ?_, ⟨_, rfl, ?_, ?_⟩⟩
          · rw [lr, eb]
            unfold ixN
            rw [if_pos (by omega), if_pos (by omega), Int.toNat_natCast]
          · exact fun u o e => by rw [upd_ne (ne_of_none e hz)]; exact s3 u o e
          · rw [upd_same]
            congr 1
            congr 1
            refine List.ext_getElem (by rw [List.length_set, lr, lr]) fun t h1 h2 => ?_
            rw [lr] at h2
            rw [List.getElem_set, List.getElem_map, List.getElem_map, List.getElem_range]
            have st := MF.la_step (f := f) (F := F) (b := q + i) kx.fo.qp q0 (by omega)
            rw [show b + (q + i) - q = b + i by omega] at st
            have eRi : R (q + i) = MF.mn (fun j => f (b + j) + F (q + i - j)) (q - 1) := by
              rw [eR]
              show MF.mn _ (min (q + i) (q - 1)) = _
              rw [show min (q + i) (q - 1) = q - 1 by omega]
            by_cases c : q + i = t
            · subst c
              rw [if_pos rfl, if_pos (show q + i < q + (i + 1) by omega), st, ← eRi]
              congr 1
              split <;> omega
            · rw [if_neg c]
              by_cases c2 : t < q + i
              · rw [if_pos c2, if_pos (by omega)]
              · rw [if_neg c2, if_neg (by omega)]
      · rintro σ H3 ⟨v6, rfl, s3, h3⟩
        refine ⟨_, rfl, s3, ?_⟩
        rw [h3]
        congr 2
        refine List.map_congr_left fun t ht => ?_
        have := List.mem_range.mp ht
        by_cases c : t < q
        · rw [if_pos (by omega)]
        · rw [if_pos (by omega)]
    rintro σ H3 ⟨v6, rfl, s3, h3⟩
    have s03 := Same.trans s1 s3
    refine ⟨(by show 1 ≤ sizeLine; decide), fun u hu => ?_⟩
    generalize g4 : upd H3 u _ = H4
    obtain ⟨s4, f4⟩ := alloc g4 hu
    refine ⟨_, rfl, u, b, [.non], rfl, rfl, f4, by omega, by omega, (by show 1 * _ ≤ sizeLine; exact line_le (by omega)), fun z5 hz5 => ?_⟩
    generalize g5 : upd H4 z5 _ = H5
    obtain ⟨s5, f5⟩ := alloc g5 hz5
    have fln : ∀ n, (List.replicate n [V.non]).flatten = (List.range n).map fun _ => V.non := fun n => by
      induction n with
      | zero => rfl
      | succ n ih => rw [List.replicate_succ', List.flatten_append, ih, List.range_succ, List.map_append]; rfl
    rw [Int.toNat_natCast, fln] at f5
    refine ⟨_, rfl, z5, z, _, _, rfl, rfl, f5, s5 _ _ (s4 _ _ h3), ?_, fun z6 hz6 => ?_⟩
    · rw [lr, lr]
      exact line_le (show b + (m - b) ≤ 200000 by omega)
    generalize g6 : upd H5 z6 _ = H6
    obtain ⟨s6, f6⟩ := alloc g6 hz6
    refine ⟨_, rfl, (m : Int), rfl, z6, _, rfl, SqL.of f6, fun z7 hz7 => ?_⟩
    generalize g7 : upd H6 z7 _ = H7
    obtain ⟨s7, f7⟩ := alloc g7 hz7
    have s47 := Same.trans s4 (Same.trans s5 (Same.trans s6 s7))
    refine k z7 H7 (s03.free (s4.free (s5.free (s6.free hz7)))) ?_ (Same.trans s03 s47)
    rw [f7, cutR (by rw [List.length_append, lr, lr]; omega), List.take_of_length_le (by rw [List.length_append, lr, lr]; omega)]
    congr 2
    refine List.ext_getElem (by rw [List.length_append, lr, lr, lr]; omega) fun t h1 h2 => ?_
    rw [lr] at h2
    rw [List.getElem_map, List.getElem_range]
    unfold lateV
    by_cases c : t < b
    · rw [List.getElem_append_left (by rw [lr]; exact c), List.getElem_map, if_pos c]
    · rw [List.getElem_append_right (by rw [lr]; omega), List.getElem_map, List.getElem_range, if_neg c, lr, show b + (t - b) = t by omega]
end
end WW
end

section
set_option Elab.async false
set_option linter.all false
set_option maxRecDepth 100000
set_option maxHeartbeats 8000000
namespace WW
open PySem L2 WO WG RZ WQ WT WC
abbrev sUnl : Stmt := top 53
theorem lab_last {f : Nat → Int} {p c : Nat} {g : Int} {r : V} (p0 : 0 < p) (g0 : 0 < g) (Q : MF.QP f p g c) (h : LastAb (fun j => 0 - f (c + j)) p c g r) :
    (r = .non ∧ ∀ j, c ≤ j → 0 ≤ f j) ∨ ∃ t : Nat, r = .int (t : Nat) ∧ c ≤ t ∧ f t < 0 ∧ ∀ j, t < j → 0 ≤ f j := by
  rcases h with ⟨rfl, h⟩ | ⟨t, k, rfl, t1, t2, t3, t4⟩
  · refine .inl ⟨rfl, fun j hj => ?_⟩
    obtain ⟨kk, i, e, hi⟩ := MF.dec_add p0 hj
    have m := Q.mul (j := c + i) (by omega) kk
    rw [← e] at m
    have h' : 0 - f (c + i) ≤ 0 := h i hi
    have : 0 ≤ (kk : Int) * g := Int.mul_nonneg (by omega) (by omega)
    omega
  · have t2 : (k : Int) * g < 0 - f (c + t) := t2
    refine .inr ⟨c + t + k * p, rfl, by omega, ?_, fun j hj => ?_⟩
    · have m := Q.mul (j := c + t) (by omega) k
      omega
    · obtain ⟨kk, i, e, hi⟩ := MF.dec_add p0 (show c ≤ j by omega)
      have m := Q.mul (j := c + i) (by omega) kk
      rw [← e] at m
      have t4 : 0 - f (c + i) ≤ ((k + 1 : Nat) : Int) * g := t4 i hi
      rcases Nat.lt_or_ge k kk with z | z
      · have : ((k + 1 : Nat) : Int) * g ≤ (kk : Int) * g := Int.mul_le_mul_of_nonneg_right (by omega) (by omega)
        omega
      · rcases Nat.lt_or_ge kk k with z2 | z2
        · exfalso
          have : (kk + 1) * p ≤ k * p := Nat.mul_le_mul_right _ z2
          rw [Nat.succ_mul] at this
          omega
        · have : kk = k := by omega
          subst this
          have t3 : 0 - f (c + i) ≤ (kk : Int) * g := t3 i (by omega) hi
          omega
section
variable {P : Program} {w : World} {K : PySem.W.Frag} {mg : Str → Option Value} {base : Heap}
abbrev nBot : List Str := ["early", "late_ones", "one", "two"]
theorem scBot : FnScope nBot ["early", "late_ones"] (defScope sBot) := ⟨rfl, rfl, rfl, by decide +kernel, rfl, by decide +kernel, by decide +kernel⟩
def spBot (K : PySem.W.Frag) : Sp := fun vs H Q _ => ∃ (a c : Addr) (f F : Nat → Int) (b m : Nat), vs = [.ref a, .ref c] ∧ H a = some (.lst (earL f F b m)) ∧ H c = some (.lst ((List.range m).map (lateV f F b))) ∧ 0 < m ∧ m ≤ 20000 ∧
  ∀ z H', H' z = some (.lst ((List.range m).map fun t => V.int (MF.fo f F t))) → Same H H' → Q (.ref z) H'
theorem ok_bot {f : Addr} {fd : FuncData} (F : Fun K "both_sums" "both_sums" sBot f fd) (T : CurG mg) : FnOk P w K mg base CX0 1 f fd ["early", "late_ones"] (spBot K) := by
  refine F.ok scBot (fun vs H Q E h => ?_) (fun cdv A outer s H vs Q E hr h => ?_)
  · obtain ⟨a, c, f, F, b, m, rfl, _⟩ := h
    rfl
  · obtain ⟨a, c, f, F, b, m, rfl, ha, hc, m0, m2, k⟩ := h
    refine ⟨_, (C8.pss_cut (ps_if (pt_not (pt_truth (pv 0) (by intro _; rfl))) (pss_one
 (ps_ret (pv 1))) pss_nil)
 (pss_one
 (ps_ret (pe_lc (own := [("one", 2), ("two", 3)]) (g := (gTup K 2 (gCons (gName 2) (gCons (gName 3) gNil)))) (tt := tYes) rfl scBot.nd (pi_zip (by rfl) T.zip (pa_cons (pv 0) (pa_cons (pv 1) pa_nil))) (blkOk_by (N := nBot) (sc := defScope sBot) (by decide +kernel)) (fun _ _ _ _ _ => (pg_tup rfl (pgs_cons (pg_name (i := 2) scBot.nd rfl (Or.inl rfl)) (pgs_cons (pg_name (i := 3) scBot.nd rfl (Or.inl rfl)) pgs_nil)))) (fun _ _ _ _ _ => pts_nil) (fun _ _ _ _ _ => (pe_ifExp (pt_cmpR op_isN (pv 3) pe_non (nomark _)) (pv 2) (pe_callB (call_min2 rfl) (by rfl) T.min (by decide +kernel) (pa_cons (pv 2) (pa_cons (pv 3) pa_nil))))))))), ?_⟩
    have lr : ∀ (n : Nat) (F : Nat → V), ((List.range n).map F).length = n := fun n F => by rw [List.length_map, List.length_range]
    refine ⟨fun σ H' => σ = [some (.ref a), some (.ref c), none, none] ∧ H' = H ∧ 0 < b, ?_, ?_⟩
    · refine ⟨_, rfl, !(earL f F b m).isEmpty, .inl ⟨_, SqL.of ha, rfl⟩, ?_⟩
      by_cases b0 : b = 0
      · subst b0
        refine iteT ⟨_, rfl, k c H ?_ (Same.refl _)⟩
        rw [hc]
        congr 2
        refine List.map_congr_left fun t _ => ?_
        unfold lateV
        rw [if_neg (Nat.not_lt_zero t), MF.fo_zero]
      · have e : (earL f F b m).isEmpty = false := by
          rw [List.isEmpty_eq_false_iff]
          intro z
          have := congrArg List.length z
          unfold earL at this
          rw [if_neg b0, lr] at this
          have : m = 0 := this
          omega
        rw [e]
        exact iteF ⟨rfl, rfl, by omega⟩
    rintro σ H ⟨rfl, rfl, b0⟩
    unfold earL at ha
    rw [if_neg (by omega)] at ha
    refine ⟨_, rfl, _, rfl, a, c, _, _, rfl, SqL.of ha, SqL.of hc, fun D hD => LM.lcM (walk_zip (xs := (List.range m).map fun t => V.int (MF.ea f F b t)) (ys := (List.range m).map (lateV f F b)) (n := m) (by rw [lr, lr, Nat.min_self])) (fun t => V.int (MF.fo f F t)) hD (by omega) (fun H2 s2 => ⟨SqL.of (s2 _ _ ha), SqL.of (s2 _ _ hc)⟩) ?_ fun H2 hd s2 => k D H2 hd s2⟩
    rintro t x H2 H3 ht s2 ⟨T, x1, y1, rfl, hT, rfl, gx, gy⟩ R N kk
    dsimp only at gx gy
    obtain ⟨_, rfl⟩ := get_rI gx
    obtain ⟨_, rfl⟩ := get_rI gy
    unfold lateV
    by_cases c : t < b
    · rw [MF.fo_low c] at kk
      rw [if_pos c]
      exact ⟨T, _, rfl, SqT.of upd_same, rfl, _, _, rfl, _, _, rfl, rfl, rfl, _, rfl, rfl, true, rfl, iteT ⟨_, rfl, kk _ (LM.sNew hT)⟩⟩
    · rw [MF.fo_split b0 (by omega), show min (MF.ea f F b t) (MF.la f F b t) = (if MF.la f F b t < MF.ea f F b t then MF.la f F b t else MF.ea f F b t) by split <;> omega] at kk
      rw [if_neg c]
      exact ⟨T, _, rfl, SqT.of upd_same, rfl, _, _, rfl, _, _, rfl, rfl, rfl, _, rfl, rfl, false, rfl, iteF ⟨_, rfl, _, rfl, _, _, rfl, kk _ (LM.sNew hT)⟩⟩
abbrev nUnl : List Str := ["slow", "fast", "step", "begin", "many", "early", "late_ones", "last", "enough"]
theorem scUnl : FnScope nUnl ["slow", "fast", "step"] (defScope sUnl) := ⟨rfl, rfl, rfl, by decide +kernel, rfl, by decide +kernel, by decide +kernel⟩
def spUnl (K : PySem.W.Frag) (C CT : Addr) : Sp := fun vs H Q E => ∃ (x y : Addr) (f F : Nat → Int) (q q' : Nat) (r r' : Int) (b b' s : Nat), vs = [.ref x, .ref y, .int s] ∧ KcI H C x f q r b ∧ KcI H C y F q' r' b' ∧ 0 < s ∧ s ≤ 4000 ∧ s / q * q = s ∧ s / q' * q' = s ∧ ((s / q : Nat) : Int) * r < ((s / q' : Nat) : Int) * r' ∧
  (∀ v p g z H', FormG (fun j => .int (MF.fo f F j)) v p g → v.length ≤ 4000 → H z = none → CurveAt H' C z v p g → Same H H' → Q (.ref z) H') ∧
  ((∀ v p g, FormG (fun j => .int (MF.fo f F j)) v p g → 4000 < v.length) → ∀ d H', Raised H "most" (.int 4000) d H' → E (.ref CT) (some d) H')
theorem ok_unl {f fI fE fT C CT : Addr} {fd dT : FuncData} (F : Fun K "folded_unlike" "folded_unlike" sUnl f fd) (T : CurG mg) (U : CurT K mg C fI fE) (MM : ∃ t, mg "MOST_MADE" = some (.int 4000 t)) (B_TooMany : ErrT P w K mg base "TooMany" "most" CT fT dT)
    (c_uns : Cal P w K mg base CX0 2 "unsettled" ["slow", "fast", "step"] (spUns K C)) (c_ear : Cal P w K mg base CX0 4 "early_sums" ["slow", "fast", "many"] (spEar K C)) (c_lat : Cal P w K mg base CX0 4 "late_sums" ["slow", "fast", "many"] (spLts K C)) (c_lab : Cal P w K mg base CX0 2 "last_above" ["row", "other_row", "begin", "gain"] (spLab K))
    (c_gai : Cal P w K mg base CX0 1 "gain_in" ["curve", "other", "step"] (spGai K C)) (c_bot : Cal P w K mg base CX0 1 "both_sums" ["early", "late_ones"] (spBot K)) (c_made : Cal P w K mg base (L2.CX P w) 6 "made" ["row", "period", "growth"] (spMadeC K C CT)) :
    FnOk P w K mg base (L2.CX P w) 7 f fd ["slow", "fast", "step"] (spUnl K C CT) := by
  refine F.okX scUnl (fun vs H Q E h => ?_) (fun cdv A outer s H vs Q E hr h => ?_)
  · obtain ⟨x, y, f, F, q, q', r, r', b, b', s, rfl, _⟩ := h
    rfl
  · obtain ⟨x, y, f, F, q, q', r, r', b, b', s, rfl, kx, ky, s0, s4, sq, sq', lt, k1, k2⟩ := h
    obtain ⟨tmm, mMOST_MADE⟩ := MM
    refine ⟨_, (C8.pss_cut (ps_set (i := 3) scUnl.nd rfl (Or.inl rfl) (pe_callC c_uns (hr.mono (by decide)) rfl pass0 (pa_cons (pv 0) (pa_cons (pv 1) (pa_cons (pv 2) pa_nil)))))
 (C8.pss_cut (ps_set (i := 4) scUnl.nd rfl (Or.inl rfl) (pe_op op_add (pv 3) (pv 2)))
 (C8.pss_cut (ps_set (i := 5) scUnl.nd rfl (Or.inl rfl) (pe_callC c_ear (hr.mono (by decide)) rfl pass0 (pa_cons (pv 0) (pa_cons (pv 1) (pa_cons (pv 4) pa_nil)))))
 (C8.pss_cut (ps_set (i := 6) scUnl.nd rfl (Or.inl rfl) (pe_callC c_lat (hr.mono (by decide)) rfl pass0 (pa_cons (pv 0) (pa_cons (pv 1) (pa_cons (pv 4) pa_nil)))))
 (C8.pss_cut (ps_set (i := 7) scUnl.nd rfl (Or.inl rfl) pe_non)
 (C8.pss_cut (ps_if (pt_truth (pv 5) (by intro _; rfl)) (pss_one
 (ps_set (i := 7) scUnl.nd rfl (Or.inl rfl) (pe_callC c_lab (hr.mono (by decide)) rfl pass0 (pa_cons (pe_slice sl_list (pv 6) (po_some (pv 3)) po_none) (pa_cons (pe_slice sl_list (pv 5) (po_some (pv 3)) po_none) (pa_cons (pv 3) (pa_cons (pe_callC c_gai (hr.mono (by decide)) rfl pass0 (pa_cons (pv 1) (pa_cons (pv 0) (pa_cons (pv 2) pa_nil)))) pa_nil))))))) pss_nil)
 (C8.pss_cut (ps_if (PW.pt (pw_and (pt_cmpR op_notN (pv 7) pe_non (nomark _)) (pw_and1 (pt_cmpR op_ge (pv 7) (pe_glob (v := .int 4000) rfl mMOST_MADE ⟨_, rfl⟩) (nomark _))))) (pss_one
 (ps_raise rfl (takes_of rfl rfl rfl rfl) (pmk_oex B_TooMany.ox B_TooMany.iC B_TooMany.tI B_TooMany.fn (hr.mono (by decide)) B_TooMany.bd .nil pass0 rfl B_TooMany.gC (pa_cons (pe_glob (v := .int 4000) rfl mMOST_MADE ⟨_, rfl⟩) pa_nil)))) pss_nil)
 (C8.pss_cut (ps_set (i := 8) scUnl.nd rfl (Or.inl rfl) (pe_op op_add (pe_fld (pv 0) rfl) (pe_ifExp (pt_cmpR op_isN (pv 7) pe_non (nomark _)) (pv 3) (pe_op op_add (pv 7) pe_int))))
 (C8.pss_cut (ps_if (pt_cmpR op_gt (pv 8) (pv 4) (nomark _)) (C8.pss_cut (ps_set (i := 5) scUnl.nd rfl (Or.inl rfl) (pe_callC c_ear (hr.mono (by decide)) rfl pass0 (pa_cons (pv 0) (pa_cons (pv 1) (pa_cons (pv 8) pa_nil)))))
 (pss_one
 (ps_set (i := 6) scUnl.nd rfl (Or.inl rfl) (pe_callC c_lat (hr.mono (by decide)) rfl pass0 (pa_cons (pv 0) (pa_cons (pv 1) (pa_cons (pv 8) pa_nil))))))) pss_nil)
 (pss_one
 (ps_ret (pe_callC c_made (hr.mono (by decide)) rfl (passX (E := E) (takes_of rfl rfl rfl rfl) fun _ _ _ _ h => h) (pa_cons (pe_slice sl_list (pe_callC c_bot (hr.mono (by decide)) rfl pass0 (pa_cons (pv 5) (pa_cons (pv 6) pa_nil))) po_none (po_some (pv 8))) (pa_cons (pe_fld (pv 0) rfl) (pa_cons (pe_fld (pv 0) rfl) pa_nil))))))))))))))), ?_⟩
    have lx := kx.ln
    have ly := ky.ln
    have q0 := kx.fo.pos
    have q0' := ky.fo.pos
    have kk0 : 0 < s / q := Nat.pos_of_ne_zero fun z => by rw [z, Nat.zero_mul] at sq; omega
    have lr : ∀ (n : Nat) (F : Nat → V), ((List.range n).map F).length = n := fun n F => by rw [List.length_map, List.length_range]
    obtain ⟨B, eB⟩ : ∃ B, B = b + b' + s - 1 := ⟨_, rfl⟩
    have LQ : MF.QP (MF.la f F b) q r B := by
      have := MF.la_qp (F := F) q0 kk0 kx.fo.qp ky.fo.qp (show s / q * q = s / q' * q' by rw [sq, sq']) (by omega)
      rw [sq] at this
      rw [eB]
      exact this
    -- the sums of the first beats
    refine ⟨fun σ H' => σ = [some (.ref x), some (.ref y), some (.int s), some (.int B), none, none, none, none, none] ∧ H' = H, ?_, ?_⟩
    · refine ⟨_, rfl, _, rfl, _, rfl, x, y, f, F, q, q', r, r', b, b', s, rfl, kx, ky, s0, ?_, rfl⟩
      rw [← eB]
      rfl
    rintro σ H ⟨rfl, rfl⟩
    refine ⟨fun σ H' => σ = [some (.ref x), some (.ref y), some (.int s), some (.int B), some (.int ((B + s : Nat) : Int)), none, none, none, none] ∧ H' = H, ?_, ?_⟩
    · refine ⟨_, rfl, _, rfl, _, _, rfl, rfl, ?_, rfl⟩
      rw [Int.natCast_add]
      rfl
    rintro σ H ⟨rfl, rfl⟩
    refine ⟨fun σ H' => ∃ a, σ = [some (.ref x), some (.ref y), some (.int s), some (.int B), some (.int ((B + s : Nat) : Int)), some (.ref a), none, none, none] ∧ Same H H' ∧ H' a = some (.lst (earL f F b (B + s))), ?_, ?_⟩
    · exact ⟨_, rfl, _, rfl, _, rfl, x, y, f, F, q, q', r, r', b, b', B + s, rfl, kx, ky, by omega, by omega, fun z H1 _ h1 s1 => ⟨z, rfl, s1, h1⟩⟩
    rintro σ H1 ⟨a, rfl, s1, h1⟩
    refine ⟨fun σ H' => ∃ c, σ = [some (.ref x), some (.ref y), some (.int s), some (.int B), some (.int ((B + s : Nat) : Int)), some (.ref a), some (.ref c), none, none] ∧ Same H1 H' ∧ H' c = some (.lst ((List.range (B + s)).map (lateV f F b))), ?_, ?_⟩
    · exact ⟨_, rfl, _, rfl, _, rfl, x, y, f, F, q, q', r, r', b, b', B + s, rfl, kx.same s1, ky.same s1, by omega, by omega, fun z H2 _ h2 s2 => ⟨z, rfl, s2, h2⟩⟩
    rintro σ H2 ⟨c, rfl, s2, h2⟩
    have h1 := s2 _ _ h1
    have s02 := Same.trans s1 s2
    refine ⟨fun σ H' => σ = [some (.ref x), some (.ref y), some (.int s), some (.int B), some (.int ((B + s : Nat) : Int)), some (.ref a), some (.ref c), some (.non), none] ∧ H' = H2, ⟨rfl, rfl⟩, ?_⟩
    rintro σ H2 ⟨rfl, rfl⟩
    -- from where on the tail leads
    refine ⟨fun σ H' => ∃ R, σ = [some (.ref x), some (.ref y), some (.int s), some (.int B), some (.int ((B + s : Nat) : Int)), some (.ref a), some (.ref c), some (R), none] ∧ Same H2 H' ∧ ((R = .non ∧ (0 < b → ∀ t, B ≤ t → MF.la f F b t ≤ MF.ea f F b t)) ∨ (∃ t : Nat, R = .int t ∧ 0 < b ∧ B ≤ t ∧ MF.ea f F b t < MF.la f F b t ∧ ∀ u, t < u → MF.la f F b u ≤ MF.ea f F b u)), ?_, ?_⟩
    · refine ⟨_, rfl, !(earL f F b (B + s)).isEmpty, .inl ⟨_, SqL.of h1, rfl⟩, ?_⟩
      by_cases b0 : b = 0
      · subst b0
        exact iteF ⟨_, rfl, Same.refl _, .inl ⟨rfl, fun z => absurd z (Nat.lt_irrefl 0)⟩⟩
      have e : (earL f F b (B + s)).isEmpty = false := by
        rw [List.isEmpty_eq_false_iff]
        intro z
        have := congrArg List.length z
        unfold earL at this
        rw [if_neg b0, lr] at this
        have : B + s = 0 := this
        omega
      rw [e]
      unfold earL at h1
      rw [if_neg b0] at h1
      refine iteT ⟨_, rfl, _, rfl, (B : Int), rfl, c, _, rfl, SqL.of h2, fun z1 hz1 => ?_⟩
      generalize g3 : upd H2 z1 _ = H3
      obtain ⟨s3, f3⟩ := alloc g3 hz1
      have dr : ∀ G : Nat → V, ((List.range (B + s)).map G).drop B = (List.range s).map fun u => G (B + u) := fun G => by
        rw [← List.map_drop, List.range_add, List.drop_append, List.length_range, Nat.sub_self, List.drop_of_length_le (by rw [List.length_range]; exact Nat.le_refl _), List.nil_append, List.drop_zero, List.map_map]
        rfl
      rw [cutL (by rw [lr]; omega), dr] at f3
      have el : ((List.range s).map fun u => lateV f F b (B + u)) = (List.range s).map fun u => V.int (MF.la f F b (B + u)) := List.map_congr_left fun u _ => by
        unfold lateV
        rw [if_neg (by omega)]
      rw [el] at f3
      refine ⟨_, rfl, _, rfl, (B : Int), rfl, a, _, rfl, SqL.of (s3 _ _ h1), fun z2 hz2 => ?_⟩
      generalize g4 : upd H3 z2 _ = H4
      obtain ⟨s4', f4⟩ := alloc g4 hz2
      rw [cutL (by rw [lr]; omega), dr] at f4
      have sA := Same.trans s02 (Same.trans s3 s4')
      refine ⟨_, rfl, _, rfl, _, rfl, _, rfl, y, x, _, _, q', q, s, r', r, rfl, (ky.same sA).cu, (kx.same sA).cu, q0', q0, by omega, by omega, by omega, ?_⟩
      have gx := kx.ca.g1
      have gy := ky.ca.g1
      have g0 := kx.ca.g0
      have g0' := ky.ca.g0
      have d1 : s / q ≤ s := Nat.div_le_self _ _
      have d2 : s / q' ≤ s := Nat.div_le_self _ _
      have m1 : 0 ≤ ((s / q : Nat) : Int) * r := Int.mul_nonneg (by omega) g0
      have m2 : ((s / q' : Nat) : Int) * r' ≤ 4000 * 2 ^ 30 := Int.mul_le_mul (by omega) (by omega) g0' (by decide)
      refine ⟨z1, z2, s, B, fun u => MF.la f F b (B + u), fun u => MF.ea f F b (B + u), ((s / q' : Nat) : Int) * r' - ((s / q : Nat) : Int) * r, rfl, s4' _ _ f3, f4, s0, by omega, by omega, by omega, fun R lr' H5 s5 => ?_⟩
      refine ⟨R, rfl, Same.trans s3 (Same.trans s4' s5), ?_⟩
      have EQ := (MF.ea_qp (f := f) (show 0 < b by omega) ky.fo.qp).up (s / q')
      have LU := LQ.up (s / q)
      rw [sq'] at EQ
      rw [sq] at LU
      have D := (EQ.to (show b + b' - 1 ≤ B by omega)).sub LU
      have ed : (fun j => MF.la f F b (B + j) - MF.ea f F b (B + j)) = fun j => 0 - (MF.ea f F b (B + j) - MF.la f F b (B + j)) := funext fun j => by omega
      dsimp only at lr'
      rw [ed] at lr'
      rcases lab_last (f := fun j => MF.ea f F b j - MF.la f F b j) s0 (by omega) D lr' with ⟨rfl, al⟩ | ⟨t, rfl, t1, t2, t3⟩
      · exact .inl ⟨rfl, fun _ t ht => by have := al t ht; omega⟩
      · exact .inr ⟨t, rfl, by omega, t1, by omega, fun u hu => by have := t3 u hu; omega⟩
    rintro σ H3 ⟨R, rfl, s3, hR⟩
    have s03 := Same.trans s02 s3
    have kx3 := kx.same s03
    have ky3 := ky.same s03
    refine ⟨fun σ H' => ∃ cc : Nat, σ = [some (.ref x), some (.ref y), some (.int s), some (.int B), some (.int ((B + s : Nat) : Int)), some (.ref a), some (.ref c), some (R), none] ∧ H' = H3 ∧ B ≤ cc ∧ cc ≤ 12000 ∧ ((R = .non ∧ cc = B) ∨ (∃ t : Nat, R = .int t ∧ cc = t + 1)) ∧ MF.QP (MF.fo f F) q r cc, ?_, ?_⟩
    · rcases hR with ⟨rfl, hl⟩ | ⟨t, rfl, b0, t1, t2, t3⟩
      · exact ⟨_, rfl, rfl, false, rfl, iteF (iteF ⟨B, rfl, rfl, Nat.le_refl _, by omega, .inl ⟨rfl, rfl⟩, MF.fo_unlike LQ (by omega) hl⟩)⟩
      · refine ⟨_, rfl, rfl, true, rfl, iteT ⟨_, rfl, _, _, rfl, rfl, ?_⟩⟩
        by_cases c4 : (t : Int) ≥ 4000
        · refine ⟨true, bT c4, iteT (mkO_post B_TooMany fun d H' rd => k2 (fun v p g fg => ?_) d H' (Raised.same s03 rd))⟩
          rcases fg.cases' with ⟨f', b'', e', hf', rfl⟩ | ⟨s', e', _⟩
          · have := MF.fo_far q0 LQ b0 (by omega) t1 t2 t3 (hf'.same fun j => (V.int.inj (e' j)).symm)
            have := hf'.pos
            rw [List.length_map, List.length_range]
            omega
          · have z := e' s'.length
            rw [fn_high (Nat.le_refl _)] at z
            cases z
        · exact ⟨false, bF c4, iteF ⟨t + 1, rfl, rfl, by omega, by omega, .inr ⟨t, rfl, rfl⟩, MF.fo_unlike (LQ.to (by omega)) (by omega) fun _ u hu => t3 u (by omega)⟩⟩
    rintro σ H3 ⟨cc, rfl, rfl, c1, c2, hcc, FQ⟩
    clear hR
    have bq : b < q + cc := by omega
    have bm : q + cc ≤ 20000 := by omega
    have bp : 0 < q + cc := by omega
    refine ⟨fun σ H' => σ = [some (.ref x), some (.ref y), some (.int s), some (.int B), some (.int ((B + s : Nat) : Int)), some (.ref a), some (.ref c), some (R), some (.int ((q + cc : Nat) : Int))] ∧ H' = H3, ?_, ?_⟩
    · obtain ⟨dx, t, x1, x2⟩ := id kx3.cu
      rcases hcc with ⟨rfl, rfl⟩ | ⟨t', rfl, rfl⟩
      · refine ⟨_, rfl, x, C, dx, _, .int q, rfl, x1, U.cl, U.nP, rfl, _, rfl, rfl, true, rfl, iteT ⟨_, rfl, _, _, rfl, rfl, ?_, rfl⟩⟩
        rw [Int.natCast_add]
        rfl
      · refine ⟨_, rfl, x, C, dx, _, .int q, rfl, x1, U.cl, U.nP, rfl, _, rfl, rfl, false, rfl, iteF ⟨_, rfl, _, _, rfl, rfl, _, _, rfl, rfl, ?_, rfl⟩⟩
        rw [Int.natCast_add, Int.natCast_add]
        rfl
    rintro σ H3 ⟨rfl, rfl⟩
    refine ⟨fun σ H' => ∃ a c m, σ = [some (.ref x), some (.ref y), some (.int s), some (.int B), some (.int ((B + s : Nat) : Int)), some (.ref a), some (.ref c), some (R), some (.int ((q + cc : Nat) : Int))] ∧ Same H H' ∧ H' a = some (.lst (earL f F b m)) ∧ H' c = some (.lst ((List.range m).map (lateV f F b))) ∧ 0 < m ∧ m ≤ 20000 ∧ q + cc ≤ m, ?_, ?_⟩
    · refine ⟨_, rfl, _, rfl, _, _, rfl, rfl, ?_⟩
      by_cases cm : ((q + cc : Nat) : Int) > ((B + s : Nat) : Int)
      · refine ⟨true, bT cm, iteT ?_⟩
        refine ⟨fun σ H' => ∃ a, σ = [some (.ref x), some (.ref y), some (.int s), some (.int B), some (.int ((B + s : Nat) : Int)), some (.ref a), some (.ref c), some (R), some (.int ((q + cc : Nat) : Int))] ∧ Same H3 H' ∧ H' a = some (.lst (earL f F b (q + cc))), ?_, ?_⟩
        · exact ⟨_, rfl, _, rfl, _, rfl, x, y, f, F, q, q', r, r', b, b', q + cc, rfl, kx3, ky3, bp, bm, fun z H4 _ h4 s4 => ⟨z, rfl, s4, h4⟩⟩
        rintro σ H4 ⟨a4, rfl, s4, h4⟩
        exact ⟨_, rfl, _, rfl, _, rfl, x, y, f, F, q, q', r, r', b, b', q + cc, rfl, kx3.same s4, ky3.same s4, bq, bm, fun z H5 _ h5 s5 => ⟨a4, z, q + cc, rfl, Same.trans s03 (Same.trans s4 s5), s5 _ _ h4, h5, bp, bm, Nat.le_refl _⟩⟩
      · exact ⟨false, bF cm, iteF ⟨a, c, B + s, rfl, s03, s3 _ _ h1, s3 _ _ h2, by omega, by omega, by omega⟩⟩
    rintro σ H4 ⟨a4, c4, m, rfl, s4, ha4, hc4, m0, m2, qm⟩
    refine ⟨_, rfl, _, rfl, a4, c4, f, F, b, m, rfl, ha4, hc4, m0, m2, fun z H5 h5 s5 => ⟨_, rfl, ((q + cc : Nat) : Int), rfl, z, _, rfl, SqL.of h5, fun z6 hz6 => ?_⟩⟩
    generalize g6 : upd H5 z6 _ = H6
    obtain ⟨s6, f6⟩ := alloc g6 hz6
    rw [cutR (by rw [lr]; exact qm), ← List.map_take, List.take_range, Nat.min_eq_left qm] at f6
    have sZ := Same.trans s4 (Same.trans s5 s6)
    obtain ⟨dx, t, x1, x2⟩ := (kx.same sZ).cu
    have RU := row_int (f := MF.fo f F) (n := q + cc) q0 (by omega) (by omega) (by rw [Nat.add_sub_cancel_left]; exact FQ)
    refine ⟨_, rfl, x, C, dx, _, .int q, rfl, x1, U.cl, U.nP, rfl, _, rfl, x, C, dx, _, .int r, rfl, x1, U.cl, U.nG, rfl, z6, _, q, r, rfl, f6, in_int q0 (by omega) (by omega) kx.ca.g0 (by have := kx.ca.g1; omega), fun vals p g y H' fv l4 hy cu s' => ?_, fun vals p g fv l4 d H' rd => ?_⟩
    · obtain ⟨p', rfl, fg⟩ := form_g fv RU
      exact k1 vals p' g y H' fg l4 (sZ.free hy) cu (Same.trans sZ s')
    · obtain ⟨p', rfl, fg⟩ := form_g fv RU
      exact k2 (fun v p g fg' => by rw [(fg'.uniq fg).1]; exact l4) d H' (Raised.same sZ rd)
end
end WW
end

section
set_option Elab.async false
set_option linter.all false
set_option maxRecDepth 100000
set_option maxHeartbeats 8000000
namespace WW
open PySem L2 WO WG RZ WQ WT WC
abbrev sEnd : Stmt := top 50
abbrev sEns : Stmt := top 49
/-! ### the least sum at a beat -/
def Sm (L M : Nat → V) (t s : Nat) (d : Int) : Prop := s ≤ t ∧ ∃ i k : Int, L s = .int i ∧ M (t - s) = .int k ∧ d = i + k
def FoA (L M : Nat → V) (t : Nat) (x : V) : Prop := (x = .non ∧ ∀ s d, ¬ Sm L M t s d) ∨ ∃ m : Int, x = .int m ∧ (∃ s, Sm L M t s m) ∧ ∀ s d, Sm L M t s d → m ≤ d
theorem FoA.uniq {L M : Nat → V} {t : Nat} {x y : V} (h : FoA L M t x) (h' : FoA L M t y) : x = y := by
  rcases h with ⟨rfl, h⟩ | ⟨m, rfl, ⟨s, a⟩, le⟩ <;> rcases h' with ⟨rfl, h'⟩ | ⟨m', rfl, ⟨s', a'⟩, le'⟩
  · rfl
  · exact absurd a' (h _ _)
  · exact absurd a (h' _ _)
  · rw [Int.le_antisymm (le s' m' a') (le' s m a)]
theorem Sm.swap {L M : Nat → V} {t s : Nat} {d : Int} (h : Sm L M t s d) : Sm M L t (t - s) d := by
  obtain ⟨hs, i, k, e1, e2, e⟩ := h
  exact ⟨by omega, k, i, e2, by rw [show t - (t - s) = s by omega]; exact e1, by omega⟩
theorem FoA.swap {L M : Nat → V} {t : Nat} {x : V} (h : FoA L M t x) : FoA M L t x := by
  rcases h with ⟨e, h⟩ | ⟨m, e, ⟨s, a⟩, le⟩
  · exact .inl ⟨e, fun s d z => h _ _ z.swap⟩
  · exact .inr ⟨m, e, ⟨_, a.swap⟩, fun s d z => le _ _ z.swap⟩
theorem foa_int {f F : Nat → Int} (t : Nat) : FoA (fun j => .int (f j)) (fun j => .int (F j)) t (.int (MF.fo f F t)) := by
  refine .inr ⟨_, rfl, ?_, ?_⟩
  · obtain ⟨j, hj, e⟩ := MF.mn_at (d := fun s => f s + F (t - s)) t
    exact ⟨j, hj, _, _, rfl, rfl, e.symm⟩
  · rintro s d ⟨hs, i, k, e1, e2, rfl⟩
    obtain rfl := V.int.inj e1
    obtain rfl := V.int.inj e2
    exact MF.mn_le (d := fun s => f s + F (t - s)) hs
/-- within a window -/
theorem foa_win {L M : Nat → V} {f F : Nat → Int} {n w t : Nat} (hL : ∀ j, j < n → L j = .int (f j)) (hM : ∀ j, j < w → M j = .int (F j)) (oL : ∀ j, n ≤ j → L j = .non) (oM : ∀ j, j ≤ t → w ≤ j → M j = .non) (n0 : 0 < n) (w0 : 0 < w) (ht : t + 1 < n + w) : FoA L M t (.int (lsW f F n w t)) := by
  refine .inr ⟨_, rfl, ?_, ?_⟩
  · obtain ⟨j, hj, e⟩ := MF.mn_at (d := fun j => f (t - (w - 1) + j) + F (t - (t - (w - 1) + j))) (min (t + 1) n - (t - (w - 1)) - 1)
    exact ⟨t - (w - 1) + j, by omega, _, _, hL _ (by omega), hM _ (by omega), e.symm⟩
  · rintro s d ⟨hs, i, k, e1, e2, rfl⟩
    have a1 : s < n := Nat.lt_of_not_le fun z => by rw [oL s z] at e1; cases e1
    have a2 : t - s < w := Nat.lt_of_not_le fun z => by rw [oM _ (by omega) z] at e2; cases e2
    rw [hL s a1] at e1
    rw [hM _ a2] at e2
    obtain rfl := V.int.inj e1
    obtain rfl := V.int.inj e2
    have := MF.mn_le (d := fun j => f (t - (w - 1) + j) + F (t - (t - (w - 1) + j))) (n := min (t + 1) n - (t - (w - 1)) - 1) (j := s - (t - (w - 1))) (by omega)
    try dsimp only at this
    rw [show t - (w - 1) + (s - (t - (w - 1))) = s by omega] at this
    exact this
theorem foa_non {L M : Nat → V} {t : Nat} (h : ∀ s, s ≤ t → L s = .non ∨ M (t - s) = .non) : FoA L M t .non := by
  refine .inl ⟨rfl, ?_⟩
  rintro s d ⟨hs, i, k, e1, e2, _⟩
  rcases h s hs with z | z
  · rw [z] at e1; cases e1
  · rw [z] at e2; cases e2
theorem map_getD {α β : Type} (f : α → β) (xs : List α) (d : α) : (List.range xs.length).map (fun i => f (xs.getD i d)) = xs.map f := by
  refine List.ext_getElem (by rw [List.length_map, List.length_range, List.length_map]) fun i h1 h2 => ?_
  rw [List.length_map] at h2
  rw [List.getElem_map, List.getElem_map, List.getElem_range, List.getD_eq_getElem?_getD, List.getElem?_eq_getElem h2]
  rfl
section
variable {P : Program} {w : World} {K : PySem.W.Frag} {mg : Str → Option Value} {base : Heap}
/-- what a maker of curves hands back: the curve of U, or TooMany -/
def Hands (C CT : Addr) (U : Nat → V) (H : Hp) (Q : VK) (E : XK) : Prop := (∀ v p g z H', FormG U v p g → v.length ≤ 4000 → H z = none → CurveAt H' C z v p g → Same H H' → Q (.ref z) H') ∧
  ((∀ v p g, FormG U v p g → 4000 < v.length) → ∀ d H', Raised H "most" (.int 4000) d H' → E (.ref CT) (some d) H')
theorem Hands.same {C CT : Addr} {U : Nat → V} {H H' : Hp} {Q : VK} {E : XK} (h : Hands C CT U H Q E) (s : Same H H') : Hands C CT U H' Q E :=
  ⟨fun v p g z H2 fg l hz cu s2 => h.1 v p g z H2 fg l (s.free hz) cu (Same.trans s s2), fun f d H2 rd => h.2 f d H2 (Raised.same s rd)⟩
/-- made, of a row of U -/
theorem made_hands {C CT a : Addr} {U : Nat → V} {xs : List V} {p : Nat} {g : Int} {H : Hp} {Q : VK} {E : XK} (h : Hands C CT U H Q E) (ha : H a = some (.lst xs)) (fi : FormIn xs p g) (R : RowF xs p g U) : spMadeC K C CT [.ref a, .int p, .int g] H Q E := by
  refine ⟨a, xs, p, g, rfl, ha, fi, fun vals q r y H' fv l4 hy cu s' => ?_, fun vals q r fv l4 d H' rd => ?_⟩
  · obtain ⟨q', rfl, fg⟩ := form_g fv R
    exact h.1 vals q' r y H' fg l4 hy cu s'
  · obtain ⟨q', rfl, fg⟩ := form_g fv R
    exact h.2 (fun v p g fg' => by rw [(fg'.uniq fg).1]; exact l4) d H' rd
theorem ends_len {s : List Int} : (s.map V.int ++ [V.non]).length = s.length + 1 := by rw [List.length_append, List.length_map]; rfl
theorem ends_take {s : List Int} : cutV (s.map V.int ++ [V.non]) none (some ((s.length : Nat) : Int)) = (List.range s.length).map fun j => V.int (s.getD j 0) := by
  rw [cutR (by rw [ends_len]; omega), List.take_append_of_le_length (by rw [List.length_map]; exact Nat.le_refl _), List.take_of_length_le (by rw [List.length_map]; exact Nat.le_refl _), map_getD V.int]
abbrev nEnd : List Str := ["ending", "going", "row", "many", "sums"]
theorem scEnd : FnScope nEnd ["ending", "going"] (defScope sEnd) := ⟨rfl, rfl, rfl, by decide +kernel, rfl, by decide +kernel, by decide +kernel⟩
def spEnd (K : PySem.W.Frag) (C CT : Addr) : Sp := fun vs H Q E => ∃ (x y : Addr) (s : List Int) (F : Nat → Int) (q' : Nat) (r' : Int) (b' : Nat) (W : Nat → V), vs = [.ref x, .ref y] ∧ CurveAt H C x (s.map V.int ++ [.non]) 1 0 ∧ s.length ≤ 4000 ∧ KcI H C y F q' r' b' ∧ (∀ t, FoA (FN s) (fun j => .int (F j)) t (W t)) ∧ Hands C CT W H Q E
theorem ok_end {f fI fE C CT : Addr} {fd : FuncData} (F : Fun K "folded_end" "folded_end" sEnd f fd) (T : CurG mg) (U : CurT K mg C fI fE)
    (c_fne : Cal P w K mg base CX0 1 "first_none" ["curve"] (spFne K C)) (c_fir : Cal P w K mg base CX0 3 "first_values" ["curve", "many"] (spFirst K C)) (c_ls2 : Cal P w K mg base CX0 1 "least_sums" ["row", "other_row", "many"] (spLs2 K)) (c_made : Cal P w K mg base (L2.CX P w) 6 "made" ["row", "period", "growth"] (spMadeC K C CT)) :
    FnOk P w K mg base (L2.CX P w) 7 f fd ["ending", "going"] (spEnd K C CT) := by
  refine F.okX scEnd (fun vs H Q E h => ?_) (fun cdv A outer s H vs Q E hr h => ?_)
  · obtain ⟨x, y, s, F, q', r', b', W, rfl, _⟩ := h
    rfl
  · obtain ⟨x, y, s, F, q', r', b', W, rfl, cx, ls, ky, hW, hk⟩ := h
    refine ⟨_, (C8.pss_cut (ps_set (i := 2) scEnd.nd rfl (Or.inl rfl) (pe_callTy call_list_of (by rfl) T.list (by decide +kernel) (pa_cons (pe_slice LM.sl_tupN (pe_fld (pv 0) rfl) po_none (po_some (pe_callC c_fne (hr.mono (by decide)) rfl pass0 (pa_cons (pv 0) pa_nil)))) pa_nil)))
 (C8.pss_cut (ps_if (pt_not (pt_truth (pv 2) (by intro _; rfl))) (pss_one
 (ps_ret (pe_callC c_made (hr.mono (by decide)) rfl (passX (E := E) (takes_of rfl rfl rfl rfl) fun _ _ _ _ h => h) (pa_cons (pe_lst (pa_cons pe_non pa_nil)) (pa_cons pe_int (pa_cons pe_int pa_nil)))))) pss_nil)
 (C8.pss_cut (ps_set (i := 3) scEnd.nd rfl (Or.inl rfl) (pe_op op_add (pe_op op_sub (pe_callB call_len_seq (by rfl) T.len PySem.boot_len (pa_cons (pv 2) pa_nil)) pe_int) (pe_callB call_len_seq (by rfl) T.len PySem.boot_len (pa_cons (pe_fld (pv 1) rfl) pa_nil))))
 (C8.pss_cut (ps_set (i := 4) scEnd.nd rfl (Or.inl rfl) (pe_callC c_ls2 (hr.mono (by decide)) rfl pass0 (pa_cons (pv 2) (pa_cons (pe_callC c_fir (hr.mono (by decide)) rfl pass0 (pa_cons (pv 1) (pa_cons (pv 3) pa_nil))) (pa_cons (pv 3) pa_nil)))))
 (pss_one
 (ps_ret (pe_callC c_made (hr.mono (by decide)) rfl (passX (E := E) (takes_of rfl rfl rfl rfl) fun _ _ _ _ h => h) (pa_cons (pv 4) (pa_cons (pe_fld (pv 1) rfl) (pa_cons (pe_fld (pv 1) rfl) pa_nil)))))))))), ?_⟩
    have ly := ky.ln
    have q0 := ky.fo.pos
    refine ⟨fun σ H' => ∃ a, σ = [some (.ref x), some (.ref y), some (.ref a), none, none] ∧ Same H H' ∧ H' a = some (.lst ((List.range s.length).map fun j => V.int (s.getD j 0))), ?_, ?_⟩
    · obtain ⟨dx, t, x1, x2⟩ := id cx
      refine ⟨_, rfl, x, C, dx, _, .ref t, rfl, x1, U.cl, U.nS, rfl, _, rfl, x, _, 1, 0, rfl, cx, by rw [ends_len]; omega, ((s.length : Nat) : Int), by rw [ends_len, Nat.add_sub_cancel], t, _, rfl, SqT.of x2, fun p1 H3 h3 s3 => ?_⟩
      rw [ends_take] at h3
      refine ⟨p1, _, rfl, .inr h3, fun a ha => ?_⟩
      generalize g2 : upd H3 a _ = H4
      obtain ⟨s4, f4⟩ := alloc g2 ha
      exact ⟨a, rfl, Same.trans s3 s4, f4⟩
    rintro σ H1 ⟨a, rfl, s1, h1⟩
    have lr : ∀ (n : Nat) (F : Nat → V), ((List.range n).map F).length = n := fun n F => by rw [List.length_map, List.length_range]
    refine ⟨fun σ H' => σ = [some (.ref x), some (.ref y), some (.ref a), none, none] ∧ H' = H1 ∧ 0 < s.length, ?_, ?_⟩
    · refine ⟨_, rfl, !((List.range s.length).map fun j => V.int (s.getD j 0)).isEmpty, .inl ⟨_, SqL.of h1, rfl⟩, ?_⟩
      by_cases c : s.length = 0
      · have e : ((List.range s.length).map fun j => V.int (s.getD j 0)).isEmpty = true := by rw [c]; rfl
        rw [e]
        refine iteT ⟨(by show 1 ≤ sizeLine; decide), fun u hu => ?_⟩
        generalize g2 : upd H1 u _ = H2
        obtain ⟨s2, f2⟩ := alloc g2 hu
        obtain ⟨fi, rf⟩ := flat_in (x := V.non) (.inl rfl)
        have eW : W = fun _ => V.non := funext fun t => (hW t).uniq (foa_non fun j _ => .inl (fn_high (by omega)))
        subst eW
        exact made_hands (K := K) (hk.same (Same.trans s1 s2)) f2 fi rf
      · have e : ((List.range s.length).map fun j => V.int (s.getD j 0)).isEmpty = false := by
          rw [List.isEmpty_eq_false_iff]
          intro z
          have := congrArg List.length z
          rw [lr] at this
          exact c this
        rw [e]
        exact iteF ⟨rfl, rfl, by omega⟩
    rintro σ H1 ⟨rfl, rfl, n0⟩
    have ky1 := ky.same s1
    obtain ⟨m, em⟩ : ∃ m, m = s.length - 1 + (b' + q') := ⟨_, rfl⟩
    refine ⟨fun σ H' => σ = [some (.ref x), some (.ref y), some (.ref a), some (.int m), none] ∧ H' = H1, ?_, ?_⟩
    · obtain ⟨dx, t, x1, x2⟩ := id ky1.cu
      refine ⟨_, rfl, a, _, rfl, .inl (SqL.of h1), _, _, rfl, rfl, _, rfl, y, C, dx, _, .ref t, rfl, x1, U.cl, U.nS, rfl, t, _, rfl, .inr (SqT.of x2), _, _, rfl, rfl, ?_, rfl⟩
      rw [lr, lr]
      show ([some (.ref x), some (.ref y), some (.ref a), some (.int (((s.length : Nat) : Int) - 1 + ((b' + q' : Nat) : Int))), none] : L2.St) = _
      rw [show ((s.length : Nat) : Int) - 1 + ((b' + q' : Nat) : Int) = ((m : Nat) : Int) by omega]
    rintro σ H1 ⟨rfl, rfl⟩
    have g : Nat → Int := fun j => s.getD j 0
    refine ⟨fun σ H' => ∃ z, σ = [some (.ref x), some (.ref y), some (.ref a), some (.int m), some (.ref z)] ∧ Same H1 H' ∧ H' z = some (.lst ((List.range m).map fun t => V.int (MF.ea (fun j => s.getD j 0) F s.length t))), ?_, ?_⟩
    · refine ⟨_, rfl, _, rfl, _, rfl, y, _, q', m, r', _, rfl, ky1.cu, ky1.row, ky1.ca, by rw [ky.len]; omega, by rw [ky.len]; omega, by omega, fun z H2 hz h2 s2 => ⟨_, rfl, ?_⟩⟩
      refine ⟨a, z, fun j => s.getD j 0, F, s.length, m, m, rfl, s2 _ _ h1, h2, n0, by omega, by omega, by omega, by omega, fun z3 H3 hz3 h3 s3 => ⟨z3, rfl, Same.trans s2 s3, ?_⟩⟩
      rw [h3]
      congr 2
      exact List.map_congr_left fun t ht => by rw [lsW_long n0 (List.mem_range.mp ht)]; rfl
    rintro σ H2 ⟨z, rfl, s2, h2⟩
    have eW : W = fun t => V.int (MF.ea (fun j => s.getD j 0) F s.length t) := funext fun t => (hW t).uniq (by
      have := foa_win (L := FN s) (M := fun j => V.int (F j)) (f := fun j => s.getD j 0) (F := F) (n := s.length) (w := t + 1) (t := t) (fun j hj => fn_low hj) (fun _ _ => rfl) (fun j hj => fn_high hj) (fun j h1 h2 => by omega) n0 (by omega) (by omega)
      rw [lsW_long n0 (by omega)] at this
      exact this)
    subst eW
    have s02 := Same.trans s1 s2
    have ky2 := ky.same s02
    obtain ⟨dx, t, x1, x2⟩ := id ky2.cu
    have QE := MF.ea_qp (f := fun j => s.getD j 0) n0 ky.fo.qp
    refine ⟨_, rfl, _, rfl, y, C, dx, _, .int q', rfl, x1, U.cl, U.nP, rfl, _, rfl, y, C, dx, _, .int r', rfl, x1, U.cl, U.nG, rfl, ?_⟩
    exact made_hands (K := K) (hk.same s02) h2 (in_int q0 (by omega) (by omega) ky.ca.g0 (by have := ky.ca.g1; omega)) (row_int q0 (by omega) (by omega) (QE.to (by omega)))
end
end WW
end

section
set_option Elab.async false
set_option linter.all false
set_option maxRecDepth 100000
set_option maxHeartbeats 8000000
namespace WW
open PySem L2 WO WG RZ WQ WT WC
abbrev sRol : Stmt := top 51
abbrev sFol : Stmt := top 48
section
variable {P : Program} {w : World} {K : PySem.W.Frag} {mg : Str → Option Value} {base : Heap}
abbrev nEns : List Str := ["curve", "other", "mine", "its", "many"]
theorem scEns : FnScope nEns ["curve", "other"] (defScope sEns) := ⟨rfl, rfl, rfl, by decide +kernel, rfl, by decide +kernel, by decide +kernel⟩
def spEns (K : PySem.W.Frag) (C CT : Addr) : Sp := fun vs H Q E => ∃ (x y : Addr) (s t : List Int) (W : Nat → V), vs = [.ref x, .ref y] ∧ CurveAt H C x (s.map V.int ++ [.non]) 1 0 ∧ CurveAt H C y (t.map V.int ++ [.non]) 1 0 ∧ s.length ≤ 4000 ∧ t.length ≤ 4000 ∧ (∀ j, FoA (FN s) (FN t) j (W j)) ∧ Hands C CT W H Q E
theorem emp_row {s : List Int} : ((List.range s.length).map fun j => V.int (s.getD j 0)).isEmpty = decide (s.length = 0) := by
  cases s with
  | nil => rfl
  | cons a s => rw [List.length_cons, List.range_succ_eq_map, List.map_cons, decide_eq_false (by omega)]; rfl
theorem ok_ens {f fI fE fT C CT : Addr} {fd dT : FuncData} (F : Fun K "folded_ends" "folded_ends" sEns f fd) (T : CurG mg) (U : CurT K mg C fI fE) (MM : ∃ t, mg "MOST_MADE" = some (.int 4000 t)) (B_TooMany : ErrT P w K mg base "TooMany" "most" CT fT dT)
    (c_fne : Cal P w K mg base CX0 1 "first_none" ["curve"] (spFne K C)) (c_ls2 : Cal P w K mg base CX0 1 "least_sums" ["row", "other_row", "many"] (spLs2 K)) (c_made : Cal P w K mg base (L2.CX P w) 6 "made" ["row", "period", "growth"] (spMadeC K C CT)) :
    FnOk P w K mg base (L2.CX P w) 7 f fd ["curve", "other"] (spEns K C CT) := by
  refine F.okX scEns (fun vs H Q E h => ?_) (fun cdv A outer s H vs Q E hr h => ?_)
  · obtain ⟨x, y, s, t, W, rfl, _⟩ := h
    rfl
  · obtain ⟨x, y, s, t, W, rfl, cx, cy, ls, lt, hW, hk⟩ := h
    obtain ⟨tmm, mMOST_MADE⟩ := MM
    refine ⟨_, (C8.pss_cut (ps_set (i := 2) scEns.nd rfl (Or.inl rfl) (pe_callTy call_list_of (by rfl) T.list (by decide +kernel) (pa_cons (pe_slice LM.sl_tupN (pe_fld (pv 0) rfl) po_none (po_some (pe_callC c_fne (hr.mono (by decide)) rfl pass0 (pa_cons (pv 0) pa_nil)))) pa_nil)))
 (C8.pss_cut (ps_set (i := 3) scEns.nd rfl (Or.inl rfl) (pe_callTy call_list_of (by rfl) T.list (by decide +kernel) (pa_cons (pe_slice LM.sl_tupN (pe_fld (pv 1) rfl) po_none (po_some (pe_callC c_fne (hr.mono (by decide)) rfl pass0 (pa_cons (pv 1) pa_nil)))) pa_nil)))
 (C8.pss_cut (ps_if (PW.pt (pw_or (pt_not (pt_truth (pv 2) (by intro _; rfl))) (pw_or1 (pt_not (pt_truth (pv 3) (by intro _; rfl)))))) (pss_one
 (ps_ret (pe_callC c_made (hr.mono (by decide)) rfl (passX (E := E) (takes_of rfl rfl rfl rfl) fun _ _ _ _ h => h) (pa_cons (pe_lst (pa_cons pe_non pa_nil)) (pa_cons pe_int (pa_cons pe_int pa_nil)))))) pss_nil)
 (C8.pss_cut (ps_set (i := 4) scEns.nd rfl (Or.inl rfl) (pe_op op_sub (pe_op op_add (pe_callB call_len_seq (by rfl) T.len PySem.boot_len (pa_cons (pv 2) pa_nil)) (pe_callB call_len_seq (by rfl) T.len PySem.boot_len (pa_cons (pv 3) pa_nil))) pe_int))
 (C8.pss_cut (ps_if (pt_cmpR op_ge (pv 4) (pe_glob (v := .int 4000) rfl mMOST_MADE ⟨_, rfl⟩) (nomark _)) (pss_one
 (ps_raise rfl (takes_of rfl rfl rfl rfl) (pmk_oex B_TooMany.ox B_TooMany.iC B_TooMany.tI B_TooMany.fn (hr.mono (by decide)) B_TooMany.bd .nil pass0 rfl B_TooMany.gC (pa_cons (pe_glob (v := .int 4000) rfl mMOST_MADE ⟨_, rfl⟩) pa_nil)))) pss_nil)
 (pss_one
 (ps_ret (pe_callC c_made (hr.mono (by decide)) rfl (passX (E := E) (takes_of rfl rfl rfl rfl) fun _ _ _ _ h => h) (pa_cons (pe_op op_cat (pe_callC c_ls2 (hr.mono (by decide)) rfl pass0 (pa_cons (pv 2) (pa_cons (pv 3) (pa_cons (pv 4) pa_nil)))) (pe_lst (pa_cons pe_non pa_nil))) (pa_cons pe_int (pa_cons pe_int pa_nil))))))))))), ?_⟩
    have lr : ∀ (n : Nat) (F : Nat → V), ((List.range n).map F).length = n := fun n F => by rw [List.length_map, List.length_range]
    refine ⟨fun σ H' => ∃ a, σ = [some (.ref x), some (.ref y), some (.ref a), none, none] ∧ Same H H' ∧ H' a = some (.lst ((List.range s.length).map fun j => V.int (s.getD j 0))), ?_, ?_⟩
    · obtain ⟨dx, t, x1, x2⟩ := id cx
      refine ⟨_, rfl, x, C, dx, _, .ref t, rfl, x1, U.cl, U.nS, rfl, _, rfl, x, _, 1, 0, rfl, cx, by rw [ends_len]; omega, ((s.length : Nat) : Int), by rw [ends_len, Nat.add_sub_cancel], t, _, rfl, SqT.of x2, fun p1 H3 h3 s3 => ?_⟩
      rw [ends_take] at h3
      refine ⟨p1, _, rfl, .inr h3, fun a ha => ?_⟩
      generalize g2 : upd H3 a _ = H4
      obtain ⟨s4, f4⟩ := alloc g2 ha
      exact ⟨a, rfl, Same.trans s3 s4, f4⟩
    rintro σ H1 ⟨a, rfl, s1, h1⟩
    refine ⟨fun σ H' => ∃ c, σ = [some (.ref x), some (.ref y), some (.ref a), some (.ref c), none] ∧ Same H1 H' ∧ H' c = some (.lst ((List.range t.length).map fun j => V.int (t.getD j 0))), ?_, ?_⟩
    · have cy := cy.same s1
      obtain ⟨dx, u, x1, x2⟩ := id cy
      refine ⟨_, rfl, y, C, dx, _, .ref u, rfl, x1, U.cl, U.nS, rfl, _, rfl, y, _, 1, 0, rfl, cy, by rw [ends_len]; omega, ((t.length : Nat) : Int), by rw [ends_len, Nat.add_sub_cancel], u, _, rfl, SqT.of x2, fun p1 H3 h3 s3 => ?_⟩
      rw [ends_take] at h3
      refine ⟨p1, _, rfl, .inr h3, fun a ha => ?_⟩
      generalize g2 : upd H3 a _ = H4
      obtain ⟨s4, f4⟩ := alloc g2 ha
      exact ⟨a, rfl, Same.trans s3 s4, f4⟩
    rintro σ H2 ⟨c, rfl, s2, h2⟩
    have h1 := s2 _ _ h1
    have s02 := Same.trans s1 s2
    refine ⟨fun σ H' => σ = [some (.ref x), some (.ref y), some (.ref a), some (.ref c), none] ∧ H' = H2 ∧ 0 < s.length ∧ 0 < t.length, ?_, ?_⟩
    · have nothing : (∀ j, FoA (FN s) (FN t) j .non) → (1 ≤ sizeLine ∧ ∀ u, H2 u = none → spMadeC K C CT [.ref u, .int 1, .int 0] (upd H2 u (.lst [.non])) Q E) := fun hn => by
        refine ⟨(by show 1 ≤ sizeLine; decide), fun u hu => ?_⟩
        generalize g3 : upd H2 u _ = H3
        obtain ⟨s3, f3⟩ := alloc g3 hu
        obtain ⟨fi, rf⟩ := flat_in (x := V.non) (.inl rfl)
        have eW : W = fun _ => V.non := funext fun t => (hW t).uniq (hn t)
        subst eW
        exact made_hands (K := K) (hk.same (Same.trans s02 s3)) f3 fi rf
      refine ⟨_, rfl, _, .inl ⟨_, SqL.of h1, rfl⟩, ?_⟩
      rw [emp_row]
      by_cases c1 : s.length = 0
      · rw [decide_eq_true c1]
        exact iteT (iteT (nothing fun j => foa_non fun i _ => .inl (fn_high (by omega))))
      · rw [decide_eq_false c1]
        refine iteF ⟨_, rfl, _, .inl ⟨_, SqL.of h2, rfl⟩, ?_⟩
        rw [emp_row]
        by_cases c2 : t.length = 0
        · rw [decide_eq_true c2]
          exact iteT (nothing fun j => foa_non fun i _ => .inr (fn_high (by omega)))
        · rw [decide_eq_false c2]
          exact iteF ⟨rfl, rfl, by omega, by omega⟩
    rintro σ H2 ⟨rfl, rfl, n0, w0⟩
    obtain ⟨m, em⟩ : ∃ m, m = s.length + t.length - 1 := ⟨_, rfl⟩
    have eW : W = FN ((List.range m).map (lsW (fun j => s.getD j 0) (fun j => t.getD j 0) s.length t.length)) := funext fun j => by
      have ll : ((List.range m).map (lsW (fun j => s.getD j 0) (fun j => t.getD j 0) s.length t.length)).length = m := by rw [List.length_map, List.length_range]
      refine (hW j).uniq ?_
      by_cases cj : j < m
      · rw [fn_low (by rw [ll]; exact cj), List.getD_eq_getElem?_getD, List.getElem?_map, List.getElem?_range cj]
        exact foa_win (fun i hi => fn_low hi) (fun i hi => fn_low hi) (fun i hi => fn_high hi) (fun i _ hi => fn_high hi) n0 w0 (by omega)
      · rw [fn_high (by rw [ll]; omega)]
        refine foa_non fun i hi => ?_
        by_cases ci : i < s.length
        · exact .inr (fn_high (by omega))
        · exact .inl (fn_high (by omega))
    subst eW
    refine ⟨fun σ H' => σ = [some (.ref x), some (.ref y), some (.ref a), some (.ref c), some (.int m)] ∧ H' = H2, ?_, ?_⟩
    · refine ⟨_, rfl, a, _, rfl, .inl (SqL.of h1), _, rfl, c, _, rfl, .inl (SqL.of h2), _, _, rfl, rfl, _, _, rfl, rfl, ?_, rfl⟩
      rw [lr, lr]
      show ([some (.ref x), some (.ref y), some (.ref a), some (.ref c), some (.int (((s.length : Nat) : Int) + ((t.length : Nat) : Int) - 1))] : L2.St) = _
      rw [show ((s.length : Nat) : Int) + ((t.length : Nat) : Int) - 1 = ((m : Nat) : Int) by omega]
    rintro σ H2 ⟨rfl, rfl⟩
    have ll : ((List.range m).map (lsW (fun j => s.getD j 0) (fun j => t.getD j 0) s.length t.length)).length = m := by rw [List.length_map, List.length_range]
    refine ⟨fun σ H' => σ = [some (.ref x), some (.ref y), some (.ref a), some (.ref c), some (.int m)] ∧ H' = H2 ∧ m < 4000, ?_, ?_⟩
    · refine ⟨_, rfl, _, _, rfl, rfl, ?_⟩
      by_cases c4 : (m : Int) ≥ 4000
      · refine ⟨true, bT c4, iteT (mkO_post B_TooMany fun d H' rd => hk.2 (fun v p g fg => ?_) d H' (Raised.same s02 rd))⟩
        rw [(fg.uniq (.mkN _)).1, List.length_append, List.length_map, ll]
        show 4000 < m + 1
        omega
      · exact ⟨false, bF c4, iteF ⟨rfl, rfl, by omega⟩⟩
    rintro σ H2 ⟨rfl, rfl, m4⟩
    refine ⟨_, rfl, _, rfl, _, rfl, a, c, fun j => s.getD j 0, fun j => t.getD j 0, s.length, t.length, m, rfl, h1, h2, n0, w0, by omega, by omega, by omega, fun z H3 hz h3 s3 => ?_⟩
    refine ⟨(by show 1 ≤ sizeLine; decide), fun u6 hu6 => ?_⟩
    generalize g6 : upd H3 u6 _ = H6
    obtain ⟨s6, f6⟩ := alloc g6 hu6
    refine ⟨z, u6, _, _, rfl, rfl, s6 _ _ h3, f6, ?_, fun z7 hz7 => ?_⟩
    · rw [lr]
      exact line_le (show m + 1 ≤ 200000 by omega)
    generalize g7 : upd H6 z7 _ = H7
    obtain ⟨s7, f7⟩ := alloc g7 hz7
    have er : (List.range m).map (fun j => V.int (lsW (fun j => s.getD j 0) (fun j => t.getD j 0) s.length t.length j)) ++ [.non] = ((List.range m).map (lsW (fun j => s.getD j 0) (fun j => t.getD j 0) s.length t.length)).map V.int ++ List.replicate (0 + 1) .non := by
      rw [List.map_map]
      rfl
    rw [er] at f7
    exact made_hands (K := K) (hk.same (Same.trans s02 (Same.trans s3 (Same.trans s6 s7)))) f7 (.mkN _ 0 1 0 (by rw [ll]; omega)) (.mkN _ 0 1 0)
abbrev nRol : List Str := ["curve", "other", "mine", "its"]
theorem scRol : FnScope nRol ["curve", "other"] (defScope sRol) := ⟨rfl, rfl, rfl, by decide +kernel, rfl, by decide +kernel, by decide +kernel⟩
def spRol (K : PySem.W.Frag) (C : Addr) : Sp := fun vs H Q _ => ∃ (x y : Addr) (v v' : List V) (q q' : Nat) (r r' : Int), vs = [.ref x, .ref y] ∧ CurveAt H C x v q r ∧ CurveAt H C y v' q' r' ∧ q ≤ 4000 ∧ q' ≤ 4000 ∧ 0 ≤ r ∧ r < 2 ^ 30 ∧ 0 ≤ r' ∧ r' < 2 ^ 30 ∧
  ∀ T H', Same H H' → ((H' T = some (.tup [.ref x, .ref y]) ∧ r * (q' : Int) ≤ r' * (q : Int)) ∨ (H' T = some (.tup [.ref y, .ref x]) ∧ r' * (q : Int) ≤ r * (q' : Int))) → Q (.ref T) H'
theorem ok_rol {f fI fE C : Addr} {fd : FuncData} (F : Fun K "folding_roles" "folding_roles" sRol f fd) (T : CurG mg) (U : CurT K mg C fI fE) : FnOk P w K mg base CX0 1 f fd ["curve", "other"] (spRol K C) := by
  refine F.ok scRol (fun vs H Q E h => ?_) (fun cdv A outer s H vs Q E hr h => ?_)
  · obtain ⟨x, y, v, v', q, q', r, r', rfl, _⟩ := h
    rfl
  · obtain ⟨x, y, v, v', q, q', r, r', rfl, cx, cy, q4, q4', r0, r1, r0', r1', k⟩ := h
    have hu9 : (A.deeper (PyProof.Rows.envOfC "folding_roles" (defScope sRol) s.heap.objs.size f cdv)).units < cLine := by
      have := hr.units
      omega
    refine ⟨_, (C8.pss_cut (ps_set (i := 2) scRol.nd rfl (Or.inl rfl) (pe_tup (pa_cons (pe_op op_mul (pe_fld (pv 0) rfl) (pe_fld (pv 1) rfl)) (pa_cons (pe_callB call_len_seq (by rfl) T.len PySem.boot_len (pa_cons (pe_fld (pv 0) rfl) pa_nil)) pa_nil))))
 (C8.pss_cut (ps_set (i := 3) scRol.nd rfl (Or.inl rfl) (pe_tup (pa_cons (pe_op op_mul (pe_fld (pv 1) rfl) (pe_fld (pv 0) rfl)) (pa_cons (pe_callB call_len_seq (by rfl) T.len PySem.boot_len (pa_cons (pe_fld (pv 1) rfl) pa_nil)) pa_nil))))
 (C8.pss_cut (ps_if (pt_cmpR (op_leT hu9) (pv 2) (pv 3) (nomark _)) (pss_one
 (ps_ret (pe_tup (pa_cons (pv 0) (pa_cons (pv 1) pa_nil))))) pss_nil)
 (pss_one
 (ps_ret (pe_tup (pa_cons (pv 1) (pa_cons (pv 0) pa_nil)))))))), ?_⟩
    refine ⟨fun σ H' => ∃ t1, σ = [some (.ref x), some (.ref y), some (.ref t1), none] ∧ Same H H' ∧ H' t1 = some (.tup [.int (r * q'), .int (v.length : Nat)]), ?_, ?_⟩
    · obtain ⟨dx, t, x1, x2⟩ := id cx
      obtain ⟨dy, u, y1, y2⟩ := id cy
      refine ⟨_, rfl, x, C, dx, _, .int r, rfl, x1, U.cl, U.nG, rfl, _, rfl, y, C, dy, _, .int q', rfl, y1, U.cl, U.nP, rfl, _, _, rfl, rfl, .inl ⟨by omega, by omega⟩, _, rfl, x, C, dx, _, .ref t, rfl, x1, U.cl, U.nS, rfl, t, v, rfl, .inr (SqT.of x2), (by show 2 ≤ sizeLine; decide), fun z hz => ⟨z, rfl, same_new hz, upd_same⟩⟩
    rintro σ H1 ⟨t1, rfl, s1, h1⟩
    refine ⟨fun σ H' => ∃ t2, σ = [some (.ref x), some (.ref y), some (.ref t1), some (.ref t2)] ∧ Same H1 H' ∧ H' t2 = some (.tup [.int (r' * q), .int (v'.length : Nat)]), ?_, ?_⟩
    · obtain ⟨dx, t, x1, x2⟩ := cx.same s1
      obtain ⟨dy, u, y1, y2⟩ := cy.same s1
      refine ⟨_, rfl, y, C, dy, _, .int r', rfl, y1, U.cl, U.nG, rfl, _, rfl, x, C, dx, _, .int q, rfl, x1, U.cl, U.nP, rfl, _, _, rfl, rfl, .inl ⟨by omega, by omega⟩, _, rfl, y, C, dy, _, .ref u, rfl, y1, U.cl, U.nS, rfl, u, v', rfl, .inr (SqT.of y2), (by show 2 ≤ sizeLine; decide), fun z hz => ⟨z, rfl, same_new hz, upd_same⟩⟩
    rintro σ H2 ⟨t2, rfl, s2, h2⟩
    have s02 := Same.trans s1 s2
    have pairT : (2 ≤ sizeLine) := by decide
    refine ⟨fun σ H' => σ = [some (.ref x), some (.ref y), some (.ref t1), some (.ref t2)] ∧ H' = H2 ∧ r' * (q : Int) ≤ r * (q' : Int), ?_, ?_⟩
    · refine ⟨_, rfl, _, rfl, t1, t2, [r * q', (v.length : Int)], [r' * q, (v'.length : Int)], rfl, rfl, SqT.of (s2 _ _ h1), SqT.of h2, ?_⟩
      generalize hB : Ob.lexAt _ _ _ _ _ = B
      have eB : B = if decide (r * (q' : Int) = r' * (q : Int)) = true then Ob.lexAt (fun j => decide (([r * q', (v.length : Int)] : List Int).getD j 0 = ([r' * q, (v'.length : Int)] : List Int).getD j 0)) (fun j => decide (([r * q', (v.length : Int)] : List Int).getD j 0 ≤ ([r' * q, (v'.length : Int)] : List Int).getD j 0)) (decide (([r * q', (v.length : Int)] : List Int).length ≤ ([r' * q, (v'.length : Int)] : List Int).length)) 1 1 else decide (r * (q' : Int) ≤ r' * (q : Int)) := by
        rw [← hB]
        rfl
      by_cases c : r * (q' : Int) = r' * (q : Int)
      · cases B with
        | true => exact ⟨true, rfl, iteT ⟨_, rfl, _, rfl, pairT, fun z hz => k z _ (Same.trans s02 (same_new hz)) (.inl ⟨upd_same, by omega⟩)⟩⟩
        | false => exact ⟨false, rfl, iteF ⟨rfl, rfl, by omega⟩⟩
      · rw [decide_eq_false c, if_neg Bool.false_ne_true] at eB
        rw [eB]
        by_cases c2 : r * (q' : Int) ≤ r' * (q : Int)
        · exact ⟨true, bT c2, iteT ⟨_, rfl, _, rfl, pairT, fun z hz => k z _ (Same.trans s02 (same_new hz)) (.inl ⟨upd_same, c2⟩)⟩⟩
        · exact ⟨false, bF c2, iteF ⟨rfl, rfl, by omega⟩⟩
    rintro σ H2 ⟨rfl, rfl, le⟩
    exact ⟨_, rfl, _, rfl, pairT, fun z hz => k z _ (Same.trans s02 (same_new hz)) (.inr ⟨upd_same, le⟩)⟩
end
end WW
end

section
set_option Elab.async false
set_option linter.all false
set_option maxRecDepth 100000
set_option maxHeartbeats 8000000
namespace WW
open PySem L2 WO WG RZ WQ WT WC
/-- a curve of known values -/
def KcV (H : Hp) (C x : Addr) (L : Nat → V) (v : List V) (q : Nat) (r : Int) : Prop := CurveAt H C x v q r ∧ FormG L v q r ∧ Calm v q r ∧ v.length ≤ 4000
theorem KcV.same {H H' : Hp} {C x : Addr} {L : Nat → V} {v : List V} {q : Nat} {r : Int} (h : KcV H C x L v q r) (s : Same H H') : KcV H' C x L v q r := ⟨h.1.same s, h.2⟩
def NoTwo (K : PySem.W.Frag) (H : Hp) (C : Addr) (x y : V) : Prop := NoCur K H C x ∨ ((∃ a : Addr, x = .ref a ∧ HasCur H C a) ∧ NoCur K H C y)
section
variable {P : Program} {w : World} {K : PySem.W.Frag} {mg : Str → Option Value} {base : Heap}
abbrev nFol : List Str := ["curve", "other", "step", "slow", "fast", "many", "growth"]
theorem scFol : FnScope nFol ["curve", "other"] (defScope sFol) := ⟨rfl, rfl, rfl, by decide +kernel, rfl, by decide +kernel, by decide +kernel⟩
def spFol (K : PySem.W.Frag) (C CB CT : Addr) : Sp := fun vs H Q E => ∃ x y : V, vs = [x, y] ∧
  ((NoTwo K H C x y ∧ ∀ d H', Raised H "part" .non d H' → E (.ref CB) (some d) H') ∨
   (∃ (a b : Addr) (L M W : Nat → V) (v v' : List V) (q q' : Nat) (r r' : Int), x = .ref a ∧ y = .ref b ∧ KcV H C a L v q r ∧ KcV H C b M v' q' r' ∧ Nat.lcm q q' ≤ 4000 ∧ (∀ t, FoA L M t (W t)) ∧ Hands C CT W H Q E))
theorem ok_fol {f fI fE C CB CT : Addr} {fd : FuncData} (F : Fun K "folding" "folding" sFol f fd) (T : CurG mg) (U : CurT K mg C fI fE)
    (c_two : Cal P w K mg base (L2.CX P w) 4 "need_two" ["curve", "other"] (spTwo K C CB)) (c_has : Cal P w K mg base CX0 1 "has_none" ["curve"] (spHas K C)) (c_ens : Cal P w K mg base (L2.CX P w) 7 "folded_ends" ["curve", "other"] (spEns K C CT)) (c_end : Cal P w K mg base (L2.CX P w) 7 "folded_end" ["ending", "going"] (spEnd K C CT))
    (c_per : Cal P w K mg base (L2.CX P w) 3 "common_period" ["curve", "other"] (spPer K C CT)) (c_rol : Cal P w K mg base CX0 1 "folding_roles" ["curve", "other"] (spRol K C)) (c_gai : Cal P w K mg base CX0 1 "gain_in" ["curve", "other", "step"] (spGai K C)) (c_uns : Cal P w K mg base CX0 2 "unsettled" ["slow", "fast", "step"] (spUns K C))
    (c_ear : Cal P w K mg base CX0 4 "early_sums" ["slow", "fast", "many"] (spEar K C)) (c_lat : Cal P w K mg base CX0 4 "late_sums" ["slow", "fast", "many"] (spLts K C)) (c_bot : Cal P w K mg base CX0 1 "both_sums" ["early", "late_ones"] (spBot K)) (c_made : Cal P w K mg base (L2.CX P w) 6 "made" ["row", "period", "growth"] (spMadeC K C CT))
    (c_unl : Cal P w K mg base (L2.CX P w) 7 "folded_unlike" ["slow", "fast", "step"] (spUnl K C CT)) :
    FnOk P w K mg base (L2.CX P w) 8 f fd ["curve", "other"] (spFol K C CB CT) := by
  refine F.okX scFol (fun vs H Q E h => ?_) (fun cdv A outer s H vs Q E hr h => ?_)
  · obtain ⟨x, y, rfl, _⟩ := h
    rfl
  · obtain ⟨x, y, rfl, h⟩ := h
    refine ⟨_, (C8.pss_cut (ps_expr (pe_callC c_two (hr.mono (by decide)) rfl (passX (E := E) (takes_of rfl rfl rfl rfl) fun _ _ _ _ h => h) (pa_cons (pv 0) (pa_cons (pv 1) pa_nil))))
 (C8.pss_cut (ps_if (PW.pt (pw_and (pt_val (pe_callC c_has (hr.mono (by decide)) rfl pass0 (pa_cons (pv 0) pa_nil))) (pw_and1 (pt_val (pe_callC c_has (hr.mono (by decide)) rfl pass0 (pa_cons (pv 1) pa_nil)))))) (pss_one
 (ps_ret (pe_callC c_ens (hr.mono (by decide)) rfl (passX (E := E) (takes_of rfl rfl rfl rfl) fun _ _ _ _ h => h) (pa_cons (pv 0) (pa_cons (pv 1) pa_nil))))) pss_nil)
 (C8.pss_cut (ps_if (pt_val (pe_callC c_has (hr.mono (by decide)) rfl pass0 (pa_cons (pv 0) pa_nil))) (pss_one
 (ps_ret (pe_callC c_end (hr.mono (by decide)) rfl (passX (E := E) (takes_of rfl rfl rfl rfl) fun _ _ _ _ h => h) (pa_cons (pv 0) (pa_cons (pv 1) pa_nil))))) pss_nil)
 (C8.pss_cut (ps_if (pt_val (pe_callC c_has (hr.mono (by decide)) rfl pass0 (pa_cons (pv 1) pa_nil))) (pss_one
 (ps_ret (pe_callC c_end (hr.mono (by decide)) rfl (passX (E := E) (takes_of rfl rfl rfl rfl) fun _ _ _ _ h => h) (pa_cons (pv 1) (pa_cons (pv 0) pa_nil))))) pss_nil)
 (C8.pss_cut (ps_set (i := 2) scFol.nd rfl (Or.inl rfl) (pe_callC c_per (hr.mono (by decide)) rfl (passX (E := E) (takes_of rfl rfl rfl rfl) fun _ _ _ _ h => h) (pa_cons (pv 0) (pa_cons (pv 1) pa_nil))))
 (C8.pss_cut (ps_asg (pe_callC c_rol (hr.mono (by decide)) rfl pass0 (pa_cons (pv 0) (pa_cons (pv 1) pa_nil))) (pg_tup rfl (pgs_cons (pg_name (i := 3) scFol.nd rfl (Or.inl rfl)) (pgs_cons (pg_name (i := 4) scFol.nd rfl (Or.inl rfl)) pgs_nil))))
 (C8.pss_cut (ps_if (pt_cmpR op_eq (pe_callC c_gai (hr.mono (by decide)) rfl pass0 (pa_cons (pv 4) (pa_cons (pv 3) (pa_cons (pv 2) pa_nil)))) pe_int (nomark _)) (C8.pss_cut (ps_set (i := 5) scFol.nd rfl (Or.inl rfl) (pe_op op_add (pe_callC c_uns (hr.mono (by decide)) rfl pass0 (pa_cons (pv 3) (pa_cons (pv 4) (pa_cons (pv 2) pa_nil)))) (pv 2)))
 (C8.pss_cut (ps_set (i := 6) scFol.nd rfl (Or.inl rfl) (pe_op op_mul (pe_op op_fdivN (pv 2) (pe_fld (pv 3) rfl)) (pe_fld (pv 3) rfl)))
 (pss_one
 (ps_ret (pe_callC c_made (hr.mono (by decide)) rfl (passX (E := E) (takes_of rfl rfl rfl rfl) fun _ _ _ _ h => h) (pa_cons (pe_callC c_bot (hr.mono (by decide)) rfl pass0 (pa_cons (pe_callC c_ear (hr.mono (by decide)) rfl pass0 (pa_cons (pv 3) (pa_cons (pv 4) (pa_cons (pv 5) pa_nil)))) (pa_cons (pe_callC c_lat (hr.mono (by decide)) rfl pass0 (pa_cons (pv 3) (pa_cons (pv 4) (pa_cons (pv 5) pa_nil)))) pa_nil))) (pa_cons (pv 2) (pa_cons (pv 6) pa_nil)))))))) pss_nil)
 (pss_one
 (ps_ret (pe_callC c_unl (hr.mono (by decide)) rfl (passX (E := E) (takes_of rfl rfl rfl rfl) fun _ _ _ _ h => h) (pa_cons (pv 3) (pa_cons (pv 4) (pa_cons (pv 2) pa_nil))))))))))))), ?_⟩
    rcases h with ⟨bad, k⟩ | ⟨a, b, L, M, W, v, v', q, q', r, r', rfl, rfl, ⟨cx, fx, CX, lx⟩, ⟨cy, fy, CY, ly⟩, S4, hW, hk⟩
    · exact ⟨fun _ _ => False, ⟨_, rfl, _, rfl, x, y, rfl, .inr ⟨bad, k⟩⟩, fun _ _ z => z.elim⟩
    refine ⟨fun σ H' => σ = [some (.ref a), some (.ref b), none, none, none, none, none] ∧ H' = H, ⟨_, rfl, _, rfl, _, _, rfl, .inl ⟨a, b, rfl, rfl, ⟨v, q, r, cx⟩, ⟨v', q', r', cy⟩, rfl, rfl⟩⟩, ?_⟩
    rintro σ H ⟨rfl, rfl⟩
    have px := fx.len
    have py := fy.len
    have lastN : ∀ s : List Int, (s.map V.int ++ [V.non])[(s.map V.int ++ [V.non]).length - 1]? = some .non := fun s => by
      rw [List.length_append, List.length_map, List.getElem?_append_right (by rw [List.length_map]; show _ ≤ _ + 1 - 1; omega), List.length_map]
      show ([V.non] : List V)[s.length + 1 - 1 - s.length]? = _
      rw [show s.length + 1 - 1 - s.length = 0 by omega]
      rfl
    have lastI : ∀ {f : Nat → Int} {b q : Nat}, 0 < q → ((List.range (b + q)).map fun j => V.int (f j))[((List.range (b + q)).map fun j => V.int (f j)).length - 1]? = some (.int (f (b + q - 1))) := fun {f b q} q0 => by
      rw [List.length_map, List.length_range, List.getElem?_map, List.getElem?_range (by omega)]
      rfl
    have noH : ∀ {x : Addr} {s : List Int} {Q' : Bool → Hp → Prop}, CurveAt H C x (s.map V.int ++ [.non]) 1 0 → Q' true H → True := fun _ _ => trivial
    clear noH
    by_cases gx : ∃ s, L = FN s ∧ v = s.map V.int ++ [.non] ∧ q = 1 ∧ r = 0
    · obtain ⟨s1, rfl, rfl, rfl, rfl⟩ := gx
      have hl := lastN s1
      have ls1 : s1.length ≤ 4000 := by rw [ends_len] at lx; omega
      by_cases gy : ∃ s, M = FN s ∧ v' = s.map V.int ++ [.non] ∧ q' = 1 ∧ r' = 0
      · obtain ⟨s2, rfl, rfl, rfl, rfl⟩ := gy
        have ls2 : s2.length ≤ 4000 := by rw [ends_len] at ly; omega
        refine ⟨fun _ _ => False, ⟨_, rfl, a, _, 1, 0, .non, rfl, cx, hl, true, rfl, iteT ⟨_, rfl, b, _, 1, 0, .non, rfl, cy, lastN s2, true, rfl, iteT ?_⟩⟩, fun _ _ z => z.elim⟩
        exact ⟨_, rfl, _, rfl, a, b, s1, s2, W, rfl, cx, cy, ls1, ls2, hW, hk⟩
      · rcases fy.cases' with ⟨F, b2, eM, hF, rfl⟩ | ⟨s2, eM, e2, e3, e4⟩
        rotate_left
        · exact absurd ⟨s2, funext eM, e2, e3, e4⟩ gy
        obtain rfl : M = fun j => .int (F j) := funext eM
        have kI : KcI H C b F q' r' b2 := ⟨cy, hF, CY, by rw [List.length_map, List.length_range] at ly; exact ly⟩
        refine ⟨fun σ H' => σ = [some (.ref a), some (.ref b), none, none, none, none, none] ∧ H' = H, ⟨_, rfl, a, _, 1, 0, .non, rfl, cx, hl, true, rfl, iteT ⟨_, rfl, b, _, q', r', _, rfl, cy, lastI hF.pos, false, rfl, iteF ⟨rfl, rfl⟩⟩⟩, ?_⟩
        rintro σ H' ⟨rfl, rfl⟩
        refine ⟨fun _ _ => False, ⟨_, rfl, a, _, 1, 0, .non, rfl, cx, hl, true, rfl, iteT ?_⟩, fun _ _ z => z.elim⟩
        exact ⟨_, rfl, _, rfl, a, b, s1, F, q', r', b2, W, rfl, cx, ls1, kI, hW, hk⟩
    rcases fx.cases' with ⟨f, b1, eL, hf, rfl⟩ | ⟨s1, eL, e2, e3, e4⟩
    rotate_left
    · exact absurd ⟨s1, funext eL, e2, e3, e4⟩ gx
    clear gx
    obtain rfl : L = fun j => .int (f j) := funext eL
    have kX : KcI H C a f q r b1 := ⟨cx, hf, CX, by rw [List.length_map, List.length_range] at lx; exact lx⟩
    refine ⟨fun σ H' => σ = [some (.ref a), some (.ref b), none, none, none, none, none] ∧ H' = H, ⟨_, rfl, a, _, q, r, _, rfl, cx, lastI hf.pos, false, rfl, iteF (iteF ⟨rfl, rfl⟩)⟩, ?_⟩
    rintro σ H ⟨rfl, rfl⟩
    refine ⟨fun σ H' => σ = [some (.ref a), some (.ref b), none, none, none, none, none] ∧ H' = H, ⟨_, rfl, a, _, q, r, _, rfl, cx, lastI hf.pos, false, rfl, iteF ⟨rfl, rfl⟩⟩, ?_⟩
    rintro σ H ⟨rfl, rfl⟩
    by_cases gy : ∃ s, M = FN s ∧ v' = s.map V.int ++ [.non] ∧ q' = 1 ∧ r' = 0
    · obtain ⟨s2, rfl, rfl, rfl, rfl⟩ := gy
      have ls2 : s2.length ≤ 4000 := by rw [ends_len] at ly; omega
      refine ⟨fun _ _ => False, ⟨_, rfl, b, _, 1, 0, .non, rfl, cy, lastN s2, true, rfl, iteT ?_⟩, fun _ _ z => z.elim⟩
      exact ⟨_, rfl, _, rfl, b, a, s2, f, q, r, b1, W, rfl, cy, ls2, kX, fun t => (hW t).swap, hk⟩
    rcases fy.cases' with ⟨F, b2, eM, hF, rfl⟩ | ⟨s2, eM, e2, e3, e4⟩
    rotate_left
    · exact absurd ⟨s2, funext eM, e2, e3, e4⟩ gy
    clear gy
    obtain rfl : M = fun j => .int (F j) := funext eM
    have kY : KcI H C b F q' r' b2 := ⟨cy, hF, CY, by rw [List.length_map, List.length_range] at ly; exact ly⟩
    refine ⟨fun σ H' => σ = [some (.ref a), some (.ref b), none, none, none, none, none] ∧ H' = H, ⟨_, rfl, b, _, q', r', _, rfl, cy, lastI hF.pos, false, rfl, iteF ⟨rfl, rfl⟩⟩, ?_⟩
    rintro σ H ⟨rfl, rfl⟩
    have lX := kX.ln
    have lY := kY.ln
    have q0 := hf.pos
    have q0' := hF.pos
    have gX := CX.g0
    have gX1 := CX.g1
    have gY := CY.g0
    have gY1 := CY.g1
    obtain ⟨S, eS⟩ : ∃ S, S = Nat.lcm q q' := ⟨_, rfl⟩
    have S0 : 0 < S := by rw [eS]; exact Nat.lcm_pos q0 q0'
    have dq : S / q * q = S := by rw [eS]; exact Nat.div_mul_cancel (Nat.dvd_lcm_left q q')
    have dq' : S / q' * q' = S := by rw [eS]; exact Nat.div_mul_cancel (Nat.dvd_lcm_right q q')
    refine ⟨fun σ H' => σ = [some (.ref a), some (.ref b), some (.int S), none, none, none, none] ∧ H' = H, ⟨_, rfl, _, rfl, a, b, _, _, q, q', r, r', rfl, cx, cy, by omega, by omega, fun _ => ⟨by rw [eS]; rfl, rfl⟩, fun z => absurd z (by omega)⟩, ?_⟩
    rintro σ H ⟨rfl, rfl⟩
    rw [← eS] at S4
    refine ⟨fun σ H' => ∃ (sl fa : Addr) (f F : Nat → Int) (p p' : Nat) (g g' : Int) (c c' : Nat), σ = [some (.ref a), some (.ref b), some (.int S), some (.ref sl), some (.ref fa), none, none] ∧ Same H H' ∧ KcI H C sl f p g c ∧ KcI H C fa F p' g' c' ∧ S / p * p = S ∧ S / p' * p' = S ∧ g * (p' : Int) ≤ g' * (p : Int) ∧ W = fun t => .int (MF.fo f F t), ?_, ?_⟩
    · refine ⟨_, rfl, _, rfl, a, b, _, _, q, q', r, r', rfl, cx, cy, by omega, by omega, gX, gX1, gY, gY1, fun T9 H' s' hT => ?_⟩
      rcases hT with ⟨h9, le⟩ | ⟨h9, le⟩
      · exact ⟨T9, _, rfl, SqT.of h9, rfl, _, _, rfl, _, _, rfl, rfl, a, b, f, F, q, q', r, r', b1, b2, rfl, s', kX, kY, dq, dq', le, funext fun t => (hW t).uniq (foa_int t)⟩
      · exact ⟨T9, _, rfl, SqT.of h9, rfl, _, _, rfl, _, _, rfl, rfl, b, a, F, f, q', q, r', r, b2, b1, rfl, s', kY, kX, dq', dq, le, funext fun t => by rw [MF.fo_comm]; exact (hW t).uniq (foa_int t)⟩
    clear kX kY hf hF cx cy fx fy CX CY px py lX lY q0 q0' gX gX1 gY gY1 dq dq' eS lastI lastN lx ly hW
    rintro σ H1 ⟨sl, fa, f, F, p, p', g, g', c, c', rfl, s1, kX, kY, dq, dq', le, rfl⟩
    have hk := hk.same s1
    have kX := kX.same s1
    have kY := kY.same s1
    have lX := kX.ln
    have lY := kY.ln
    have q0 := kX.fo.pos
    have q0' := kY.fo.pos
    have gX := kX.ca.g0
    have gX1 := kX.ca.g1
    have gY := kY.ca.g0
    have gY1 := kY.ca.g1
    have kk0 : 0 < S / p := Nat.pos_of_ne_zero fun z => by rw [z, Nat.zero_mul] at dq; omega
    have d1 : S / p ≤ S := Nat.div_le_self _ _
    have rate : ((S / p : Nat) : Int) * g ≤ ((S / p' : Nat) : Int) * g' := by
      have e1 : ((S / p : Nat) : Int) * (p : Int) = ((S / p' : Nat) : Int) * (p' : Int) := by rw [← Int.natCast_mul, ← Int.natCast_mul, dq, dq']
      have m := Int.mul_le_mul_of_nonneg_left le (show 0 ≤ ((S / p : Nat) : Int) by omega)
      have e2 : ((S / p : Nat) : Int) * (g' * (p : Int)) = ((S / p' : Nat) : Int) * g' * (p' : Int) := by
        rw [Int.mul_comm g', ← Int.mul_assoc, e1, Int.mul_assoc, Int.mul_comm (p' : Int), ← Int.mul_assoc]
      rw [e2, ← Int.mul_assoc] at m
      exact Int.le_of_mul_le_mul_right m (by omega)
    have gB : ((S / p : Nat) : Int) * g ≤ 4000 * 2 ^ 30 := Int.mul_le_mul (by omega) (by omega) gX (by decide)
    have gB0 : 0 ≤ ((S / p : Nat) : Int) * g := Int.mul_nonneg (by omega) gX
    refine ⟨fun σ H' => σ = [some (.ref a), some (.ref b), some (.int S), some (.ref sl), some (.ref fa), none, none] ∧ H' = H1 ∧ ((S / p : Nat) : Int) * g < ((S / p' : Nat) : Int) * g', ?_, ?_⟩
    · refine ⟨_, rfl, _, rfl, _, rfl, fa, sl, _, _, p', p, S, g', g, rfl, kY.cu, kX.cu, q0', q0, by omega, by omega, by omega, rfl, ?_⟩
      by_cases ce : ((S / p' : Nat) : Int) * g' - ((S / p : Nat) : Int) * g = 0
      rotate_left
      · exact ⟨false, bF (fun z => ce (V.int.inj z)), iteF ⟨rfl, rfl, by omega⟩⟩
      refine ⟨true, bT (by rw [ce]), iteT ?_⟩
      obtain ⟨B, eB⟩ : ∃ B, B = c + c' + S - 1 := ⟨_, rfl⟩
      refine ⟨fun σ H' => σ = [some (.ref a), some (.ref b), some (.int S), some (.ref sl), some (.ref fa), some (.int ((B + S : Nat) : Int)), none] ∧ H' = H1, ?_, ?_⟩
      · refine ⟨_, rfl, _, rfl, _, rfl, sl, fa, f, F, p, p', g, g', c, c', S, rfl, kX, kY, S0, _, rfl, _, _, rfl, rfl, ?_, rfl⟩
        rw [← eB, Int.natCast_add]
        rfl
      rintro σ H1 ⟨rfl, rfl⟩
      refine ⟨fun σ H' => σ = [some (.ref a), some (.ref b), some (.int S), some (.ref sl), some (.ref fa), some (.int ((B + S : Nat) : Int)), some (.int (((S / p : Nat) : Int) * g))] ∧ H' = H1, ?_, ?_⟩
      · obtain ⟨dx, t, x1, x2⟩ := id kX.cu
        have ed : Int.fdiv (S : Int) (p : Int) = ((S / p : Nat) : Int) := by
          rw [Int.fdiv_eq_ediv_of_nonneg _ (by omega)]
          rfl
        refine ⟨_, rfl, _, rfl, sl, C, dx, _, .int p, rfl, x1, U.cl, U.nP, rfl, _, _, rfl, rfl, ⟨by omega, by omega⟩, _, rfl, sl, C, dx, _, .int g, rfl, x1, U.cl, U.nG, rfl, _, _, rfl, rfl, .inl ⟨by rw [ed]; omega, by rw [ed]; omega⟩, ?_, rfl⟩
        rw [ed]
        rfl
      rintro σ H1 ⟨rfl, rfl⟩
      refine ⟨_, rfl, _, rfl, _, rfl, sl, fa, f, F, p, p', g, g', c, c', B + S, rfl, kX, kY, by omega, by omega, fun z2 H2 _ h2 s2 => ?_⟩
      refine ⟨_, rfl, _, rfl, _, rfl, sl, fa, f, F, p, p', g, g', c, c', B + S, rfl, kX.same s2, kY.same s2, by omega, by omega, fun z3 H3 _ h3 s3 => ?_⟩
      refine ⟨z2, z3, f, F, c, B + S, rfl, s3 _ _ h2, h3, by omega, by omega, fun z4 H4 h4 s4 => ?_⟩
      have FL := MF.fo_like q0 kk0 kX.fo.qp kY.fo.qp (show S / p * p = S / p' * p' by rw [dq, dq']) (by omega)
      rw [dq, ← eB] at FL
      exact ⟨_, rfl, _, rfl, made_hands (K := K) (hk.same (Same.trans s2 (Same.trans s3 s4))) h4 (in_int S0 (by omega) (by omega) gB0 (by omega)) (row_int S0 (by omega) (by omega) (by rw [Nat.add_sub_cancel]; exact FL))⟩
    rintro σ H1 ⟨rfl, rfl, lt⟩
    exact ⟨_, rfl, _, rfl, _, rfl, sl, fa, f, F, p, p', g, g', c, c', S, rfl, kX, kY, S0, S4, dq, dq', lt, hk⟩
end
end WW
end

section
set_option Elab.async false
set_option linter.all false
set_option maxRecDepth 100000
set_option maxHeartbeats 8000000
namespace WW
open PySem L2 WO WG RZ WQ WT WC
/-- the beat at which the least sum is split -/
def SplA (L M : Nat → V) (t : Nat) (x : V) : Prop := (x = .non ∧ ∀ s d, ¬ Sm L M t s d) ∨ ∃ (u : Nat) (m : Int), x = .int u ∧ Sm L M t u m ∧ (∀ s d, Sm L M t s d → m ≤ d) ∧ ∀ s d, s < u → Sm L M t s d → m < d
theorem SplA.uniq {L M : Nat → V} {t : Nat} {x y : V} (h : SplA L M t x) (h' : SplA L M t y) : x = y := by
  rcases h with ⟨rfl, h⟩ | ⟨u, m, rfl, a, le, lo⟩ <;> rcases h' with ⟨rfl, h'⟩ | ⟨u', m', rfl, a', le', lo'⟩
  · rfl
  · exact absurd a' (h _ _)
  · exact absurd a (h' _ _)
  · have e : m = m' := Int.le_antisymm (le _ _ a') (le' _ _ a)
    subst e
    have : u = u' := by
      rcases Nat.lt_trichotomy u u' with c | c | c
      · have := lo' u m c a
        omega
      · exact c
      · have := lo u' m c a'
        omega
    rw [this]
def sumV (x y : V) : V := match x, y with
  | .int i, .int k => .int (i + k)
  | _, _ => .non
theorem sumV_int {x y : V} {d : Int} (h : sumV x y = .int d) : ∃ i k : Int, x = .int i ∧ y = .int k ∧ d = i + k := by
  cases x with
  | int i =>
    cases y with
    | int k => exact ⟨i, k, rfl, rfl, (V.int.inj h).symm⟩
    | _ => cases h
  | _ => cases y <;> cases h
theorem sm_iff {L M : Nat → V} {t s : Nat} {d : Int} : Sm L M t s d ↔ s ≤ t ∧ sumV (L s) (M (t - s)) = .int d := by
  constructor
  · rintro ⟨hs, i, k, e1, e2, rfl⟩
    exact ⟨hs, by rw [e1, e2]; rfl⟩
  · rintro ⟨hs, e⟩
    exact ⟨hs, sumV_int e⟩
section
variable {P : Program} {w : World} {K : PySem.W.Frag} {mg : Str → Option Value} {base : Heap}
end
end WW
end

section
set_option Elab.async false
set_option linter.all false
set_option maxRecDepth 100000
set_option maxHeartbeats 8000000
namespace WW
open PySem L2 WO WG RZ WQ WT WC
theorem flat_len {x : V} (hx : x = .non ∨ ∃ i : Int, x = .int i ∧ 0 ≤ i ∧ i ≤ 1000000000) {v : List V} {q : Nat} {r : Int} (h : FormG (fun _ => x) v q r) : v.length ≤ 1 := by
  obtain ⟨f1, f2⟩ := flat_in hx
  obtain ⟨w, q', r', fv⟩ := form_ex f1
  obtain ⟨_, rfl, fg⟩ := form_g fv f2
  rw [(h.uniq fg).1]
  exact formV_len fv
theorem inV_no {F : Nat → V} {N : Nat} {f : Nat → Int} (h : ∀ u, u < N → F u = .int (f u)) : inV .non ((List.range N).map F) = false := by
  unfold inV
  rw [List.any_eq_false]
  intro x hx
  obtain ⟨u, hu, rfl⟩ := List.mem_map.mp hx
  rw [h u (List.mem_range.mp hu)]
  exact Bool.false_ne_true
theorem inV_yes {F : Nat → V} {N u : Nat} (hu : u < N) (h : F u = .non) : inV .non ((List.range N).map F) = true := by
  unfold inV
  rw [List.any_eq_true]
  exact ⟨.non, List.mem_map.mpr ⟨u, List.mem_range.mpr hu, h⟩, rfl⟩
theorem flat_all {F : Nat → V} (h : ∀ j, F j = .non ∨ ∃ i : Int, F j = .int i) (N : Nat) : ((List.range N).map F).all flatV = true := by
  rw [List.all_eq_true]
  intro x hx
  obtain ⟨u, _, rfl⟩ := List.mem_map.mp hx
  rcases h u with e | ⟨i, e⟩ <;> rw [e] <;> rfl
theorem first_at {d : Nat → Int} {N : Nat} {m : Int} (h : ∃ u, u < N ∧ d u = m) : ∃ u, u < N ∧ d u = m ∧ ∀ j, j < u → d j ≠ m := MF.least_below h
section
variable {P : Program} {w : World} {K : PySem.W.Frag} {mg : Str → Option Value} {base : Heap}
/-- list.index of a number in a list of numbers, of None in a list -/
theorem idx_int {H : Hp} {a : Addr} {N u : Nat} {d : Nat → Int} {m : Int} {Q : VK} (ha : SqL K H a ((List.range N).map fun j => V.int (d j))) (hu : u < N) (e : d u = m) (lo : ∀ j, j < u → d j ≠ m) (k : Q (.int (u : Nat)) H) : rIndex K (.ref a) [.int m] H Q := by
  refine ⟨a, _, .int m, u, .int (d u), rfl, rfl, ha, rfl, flat_all (fun j => .inr ⟨_, rfl⟩) N, get_r hu, ?_, fun j z hj hz => ?_, k⟩
  · show (d u == m) = true
    rw [e]
    exact beq_self_eq_true m
  · obtain ⟨_, rfl⟩ := get_rI hz
    show (d j == m) = false
    exact beq_false_of_ne (lo j hj)
theorem idx_non {H : Hp} {a : Addr} {N u : Nat} {F : Nat → V} {Q : VK} (ha : SqL K H a ((List.range N).map F)) (fl : ∀ j, F j = .non ∨ ∃ i : Int, F j = .int i) (hu : u < N) (e : F u = .non) (lo : ∀ j, j < u → F j ≠ .non) (k : Q (.int (u : Nat)) H) : rIndex K (.ref a) [.non] H Q := by
  refine ⟨a, _, .non, u, .non, rfl, rfl, ha, rfl, flat_all fl N, by rw [get_r hu, e], rfl, fun j z hj hz => ?_, k⟩
  obtain ⟨_, rfl⟩ := get_rI hz
  rcases fl j with e | ⟨i, e⟩
  · exact absurd e (lo j hj)
  · rw [e]
    rfl
end
end WW
end

section
set_option Elab.async false
set_option linter.all false
set_option maxRecDepth 100000
set_option maxHeartbeats 8000000
namespace WW
open PySem L2 WO WG RZ WQ WT
abbrev sLForm : Stmt := top 70
abbrev nLForm : List Str := ["row", "period_here", "growth_here", "part", "more", "size", "last", "item", "k"]
theorem scLForm : FnScope nLForm ["row", "period_here", "growth_here"] (defScope sLForm) := ⟨rfl, rfl, rfl, by decide +kernel, rfl, by decide +kernel, by decide +kernel⟩
def ones (m : Nat) : List Int := List.replicate m 1
theorem ones_snoc (m : Nat) : (ones m).map V.int ++ [.int 1] = (ones (m + 1)).map V.int := by
  unfold ones
  rw [List.replicate_succ', List.map_append]
  rfl
theorem ones_nil (m : Nat) : ones m = [] ↔ m = 0 := by
  unfold ones
  cases m with
  | zero => simp
  | succ m => simp [List.replicate_succ]
theorem lowForm {f : Nat → Int} {b p t n : Nat} {g R : Int} (hp : 0 < p) (QP : MF.QP f p g b) (ht : 0 < t) (htp : t ≤ p) (hA : MF.A f b p t) (hmin : ∀ u, 0 < u → u < t → ¬ MF.A f b p u) (hR : R = f (b + t) - f b)
    {c : Nat} (hn : b + p = n) (tc : t ≤ c) (cn : c ≤ n) (hP : ∀ j, c - t ≤ j → j < n - t → f (j + t) = f j + R) (hlow : c = t ∨ f (c - 1) ≠ f (c - 1 - t) + R) : MF.IsForm f t R (c - t) := by
  have ds := hA.dp ht htp QP.dp
  have q := ds.qp
  rw [← hR] at q
  refine ⟨ht, fun j hj => ?_, MF.least_of hp QP.dp ht htp hmin, ?_⟩
  · by_cases l : j < n - t
    · exact hP j hj l
    · exact q j (by omega)
  · rcases hlow with h | h
    · exact .inl (by omega)
    · by_cases e : c = t
      · exact .inl (by omega)
      · refine .inr ?_
        have e1 : c - t - 1 + t = c - 1 := by omega
        have e2 : c - t - 1 = c - 1 - t := by omega
        rw [e1, e2]
        exact h
section
variable {P : Program} {w : World} {K : PySem.W.Frag} {mg : Str → Option Value} {base : Heap}
theorem ok_lform {f : Addr} {fd : FuncData} (F : Fun K "_law_form" "_law_form" sLForm f fd) (T : CurG mg) :
    FnOk P w K mg base CX0 1 f fd ["row", "period_here", "growth_here"] (spForm K) := by
  refine F.ok scLForm (fun vs H Q E h => ?_) (fun cdv A outer s H vs Q E hr h => ?_)
  · obtain ⟨a, xs, p, g, rfl, _⟩ := h
    rfl
  · obtain ⟨a, xs, p, g, rfl, ha, h, k⟩ := h
    have hu := hr.units
    refine ⟨_, pss_cons (ps_if (pt_cmpR op_in_seq pe_non (pv 0) (by rfl))
        (pss_one (ps_ret (pe_tup (pa_cons (pe_callTy call_tuple_of (by rfl) T.tuple (by decide +kernel) (pa_cons (pe_slice sl_list (pv 0) po_none (po_some (pe_op op_add (pe_bm PySem.F.plainAttrs_list PySem.F.slot_list_index PySem.F.type_list_index mt_index (pv 0) (pa_cons pe_non pa_nil)) pe_int))) pa_nil)) (pa_cons pe_int (pa_cons pe_int pa_nil)))))) pss_nil)
      (pss_cons (ps_for PassesOwn.never rfl (pi_range2 (by rfl) T.range (pa_cons pe_int (pa_cons (pe_op op_add (pv 1) pe_int) pa_nil))) (pg_name (i := 3) scLForm.nd rfl (Or.inr rfl))
        (pss_one (ps_if (PW.pt (pw_and (pt_cmpR op_eq (pe_op op_modN (pv 1) (pv 3)) pe_int (nomark _)) (pw_and1 (pt_cmpR op_eq (pe_op op_modN (pe_op op_mul (pv 2) (pv 3)) (pv 1)) pe_int (nomark _)))))
          (C8.pss_cut (ps_asg (pe_tup (pa_cons (pe_op op_fdivN (pe_op op_mul (pv 2) (pv 3)) (pv 1)) (pa_cons (pe_callB call_len_seq (by rfl) T.len PySem.boot_len (pa_cons (pv 0) pa_nil)) pa_nil))) (pg_tup rfl (pgs_cons (pg_name (i := 4) scLForm.nd rfl (Or.inr rfl)) (pgs_cons (pg_name (i := 5) scLForm.nd rfl (Or.inl rfl)) pgs_nil))))
          (C8.pss_cut (ps_set (i := 6) scLForm.nd rfl (Or.inr rfl) (pe_op op_cat (pe_slice sl_list (pv 0) (po_some (pe_op op_sub (pv 5) (pv 1))) po_none)
              (pe_lc (own := [("item", 7)]) (g := gName 7) (tt := tYes) rfl scLForm.nd (pi_list (pe_slice sl_list (pv 0) (po_some (pe_op op_sub (pv 5) (pv 1))) po_none)) (blkOk_by (N := nLForm) (sc := defScope sLForm) (by decide +kernel)) (fun _ _ _ _ _ => pg_name (i := 7) scLForm.nd rfl (Or.inl rfl)) (fun _ _ _ _ _ => pts_nil)
                (fun _ _ _ _ _ => pe_op op_add (pv 7) (pv 2)))))
          (pss_one (ps_if (pt_cmpR (op_eqD hu) (pe_lc (own := [("k", 8)]) (g := gName 8) rfl scLForm.nd (pi_range2 (by rfl) T.range (pa_cons (pv 3) (pa_cons (pe_callB call_len_seq (by rfl) T.len PySem.boot_len (pa_cons (pv 6) pa_nil)) pa_nil))) (blkOk_by (N := nLForm) (sc := defScope sLForm) (by decide +kernel)) (fun _ _ _ _ _ => pg_name (i := 8) scLForm.nd rfl (Or.inl rfl))
                (fun _ _ _ _ _ => pts_one (pt_cmpR op_ne (pe_ix (r := rIxL K) ix_list (pv 6) (pv 8) (fun _ _ => rfl)) (pe_op op_add (pe_ix (r := rIxL K) ix_list (pv 6) (pe_op op_sub (pv 8) (pv 3)) (fun _ _ => rfl)) (pv 4)) (nomark _)))
                (fun _ _ _ _ _ => pe_int)) (pe_lst pa_nil) (nomark _))
              (C8.pss_cut (ps_while PassesOwn.never (PW.pt (pw_and (pt_cmpR op_gt (pv 5) (pv 3) (nomark _)) (pw_and1 (pt_cmpR op_eq (pe_ix ix_list (pv 0) (pe_op op_sub (pv 5) pe_int) (fun _ _ => rfl)) (pe_op op_add (pe_ix ix_list (pv 0) (pe_op op_sub (pe_op op_sub (pv 5) pe_int) (pv 3)) (fun _ _ => rfl)) (pv 4)) (nomark _)))))
                  (pss_one (ps_set (i := 5) scLForm.nd rfl (Or.inl rfl) (pe_op op_sub (pv 5) pe_int))))
                (pss_one (ps_ret (pe_tup (pa_cons (pe_callTy call_tuple_of (by rfl) T.tuple (by decide +kernel) (pa_cons (pe_slice sl_list (pv 0) po_none (po_some (pv 5))) pa_nil)) (pa_cons (pv 3) (pa_cons (pv 4) pa_nil))))))) pss_nil)))) pss_nil)))
      (pss_one (ps_ret (pe_tup (pa_cons (pe_callTy call_tuple_of (by rfl) T.tuple (by decide +kernel) (pa_cons (pv 0) pa_nil)) (pa_cons (pv 1) (pa_cons (pv 2) pa_nil))))))), ?_⟩
    cases h with
    | mkN s k' p g n4 =>
      have lx : (s.map V.int ++ List.replicate (k' + 1) V.non).length = s.length + (k' + 1) := by rw [List.length_append, List.length_map, List.length_replicate]
      have fl : (s.map V.int ++ List.replicate (k' + 1) V.non).all flatV = true := by
        rw [List.all_eq_true]
        intro x hx
        rcases List.mem_append.mp hx with hx | hx
        · obtain ⟨z, _, rfl⟩ := List.mem_map.mp hx
          rfl
        · rw [(List.mem_replicate.mp hx).2]
          rfl
      have tk : (s.map V.int ++ List.replicate (k' + 1) V.non).take (s.length + 1) = s.map V.int ++ [.non] := by
        rw [List.take_append, List.length_map, show s.length + 1 - s.length = 1 by omega, List.take_of_length_le (by rw [List.length_map]; omega)]
        rfl
      have iv : inV .non (s.map V.int ++ List.replicate (k' + 1) V.non) = true := List.any_eq_true.mpr ⟨.non, List.mem_append_right _ (List.mem_replicate.mpr ⟨by omega, rfl⟩), rfl⟩
      refine ⟨_, rfl, a, _, rfl, .inl (SqL.of ha), rfl, fl, true, by show V.bl (inV .non _) = _; rw [iv], iteT ?_⟩
      refine ⟨_, rfl, _, rfl, .inl ⟨rfl, _, SqL.of ha⟩, a, _, .non, s.length, .non, rfl, rfl, SqL.of ha, rfl, fl, nones_get _ (Nat.le_refl _) (by omega), rfl, fun m z' hm hz => ?_, _, _, rfl, rfl, ((s.length + 1 : Nat) : Int), rfl, a, _, rfl, SqL.of ha, fun t ht => ?_⟩
      · obtain ⟨z, hz2⟩ := ints_get (s := s) (r := List.replicate (k' + 1) V.non) m hm
        rw [hz2] at hz
        cases hz
        rfl
      rw [cutR (by rw [lx]; omega), tk]
      generalize g3 : upd H t _ = H3
      obtain ⟨s3, f3⟩ := alloc g3 ht
      refine ⟨t, _, rfl, .inl ⟨SqL.of f3, fun l hl => ?_⟩⟩
      generalize g4 : upd H3 l _ = H4
      obtain ⟨s4, f4⟩ := alloc g4 hl
      refine ⟨(by show 3 ≤ sizeLine; decide), fun T hT => ?_⟩
      generalize g5 : upd H4 T _ = H5
      obtain ⟨s5, f5⟩ := alloc g5 hT
      exact k _ _ _ l T H5 (FormV.mkN s k' p g) (s5 _ _ f4) f5 (Same.trans s3 (Same.trans s4 s5))
    | mkI s p g p0 pn n4 g0 g1 =>
      have fl : (s.map V.int).all flatV = true := by
        rw [List.all_eq_true]
        intro x hx
        obtain ⟨z, _, rfl⟩ := List.mem_map.mp hx
        rfl
      have iv : inV .non (s.map V.int) = false := by
        refine List.any_eq_false.mpr fun x hx => ?_
        obtain ⟨z, _, rfl⟩ := List.mem_map.mp hx
        simp [eqV]
      refine ⟨_, rfl, a, _, rfl, .inl (SqL.of ha), rfl, fl, false, by show V.bl (inV .non _) = _; rw [iv], iteF ?_⟩
      have lX := tail_len (s := s) pn
      have QP := MF.at_qp (s := s) (g := g) p0 pn
      have gm : ∀ j, j < s.length → (s.map V.int)[j]? = some (.int (MF.at_ s p g j)) := fun j h => get_map h
      have tg : ∀ i, i < p → (((s.map V.int).drop (s.length - p)))[i]? = some (.int (MF.at_ s p g (s.length - p + i))) := fun i hi => tail_get pn hi
      have tk : ∀ n, n ≤ s.length → (s.map V.int).take n = (List.range n).map fun j => V.int (MF.at_ s p g j) := fun n h => take_vals h
      have fin : ∀ (q : Nat) (r : Int) (b : Nat), MF.IsForm (MF.at_ s p g) q r b → b + q ≤ s.length → FormV (s.map V.int) p g ((List.range (b + q)).map fun j => V.int (MF.at_ s p g j)) q r := fun q r b h l => FormV.mkI s p g q r b p0 pn h l
      have hb0 : s.length - p + p = s.length := by omega
      generalize hf : MF.at_ s p g = f at *
      generalize hb : s.length - p = b0 at *
      have lS : ((s.map V.int).length : Int) = (s.length : Int) := by rw [List.length_map]
      refine ⟨_, rfl, _, _, rfl, rfl, 1, _, rfl, ⟨by decide, by decide, by omega, by omega⟩, for_range (lo := 1) (n := ((p : Int) + 1 - 1).toNat) (fun i σ H3 => ∃ v3 v4 v5 v6, σ = [some (.ref a), some (.int p), some (.int g), v3, v4, v5, v6, none, none] ∧ Same H H3 ∧ ∀ t, 0 < t → t < 1 + i → ¬ MF.A f b0 p t) ⟨_, _, _, _, rfl, Same.refl _, fun t h1 h2 => by omega⟩ ?_ ?_⟩
      · rintro i σ H3 hi ⟨v3, v4, v5, v6, rfl, s3, no⟩
        have ei : (1 : Int) + (i : Int) = ((i + 1 : Nat) : Int) := by omega
        rw [ei]
        generalize ht : i + 1 = t at *
        have t0 : 0 < t := by omega
        have tp : t ≤ p := by omega
        have ha3 := s3 _ _ ha
        have nxt : ¬ MF.A f b0 p t → ∀ u, 0 < u → u < 1 + t → ¬ MF.A f b0 p u := fun nA u h1 h2 => by
          by_cases e : u = t
          · rw [e]; exact nA
          · exact no u h1 (by omega)
        by_cases hd : p % t = 0
        · refine ⟨_, rfl, _, rfl, _, _, rfl, rfl, by omega, rfl, true, bT (by show V.int (Int.fmod (p : Int) (t : Int)) = V.int 0; rw [fmod_nat p t t0, hd]; rfl), iteT ?_⟩
          have hR : MF.A f b0 p t → g * (t : Int) = (f (b0 + t) - f b0) * (p : Int) := fun hA => MF.rise_of t0 tp QP hd (hA.dp t0 tp QP.dp)
          by_cases hm : Int.fmod (g * (t : Int)) (p : Int) = 0
          · refine ⟨_, rfl, _, rfl, _, _, rfl, rfl, .inl ⟨by omega, by omega⟩, _, rfl, _, _, rfl, rfl, by omega, rfl, true, bT (by show V.int (Int.fmod (g * (t : Int)) (p : Int)) = V.int 0; rw [hm]), iteT ?_⟩
            generalize hM : Int.fdiv (g * (t : Int)) (p : Int) = M
            have MR : MF.A f b0 p t → M = f (b0 + t) - f b0 := fun hA => by rw [← hM, hR hA, Int.mul_fdiv_cancel _ (by omega)]
            refine ⟨fun σ H4 => σ = [some (.ref a), some (.int p), some (.int g), some (.int t), some (.int M), some (.int s.length), v6, none, none] ∧ Same H H4, ?_, ?_⟩
            · refine ⟨_, rfl, _, rfl, _, _, rfl, rfl, .inl ⟨by omega, by omega⟩, _, rfl, _, _, rfl, rfl, ⟨by omega, by omega⟩, _, rfl, a, _, rfl, .inl (SqL.of ha3), (by show 2 ≤ sizeLine; decide), fun t' ht' => ?_⟩
              generalize g4 : upd H3 t' _ = H4
              obtain ⟨s4, f4⟩ := alloc g4 ht'
              refine ⟨t', _, rfl, SqT.of f4, rfl, _, _, rfl, _, _, rfl, rfl, ?_, Same.trans s3 s4⟩
              show [_, _, _, _, some (V.int (Int.fdiv (g * (t : Int)) (p : Int))), some (V.int ((s.map V.int).length : Int)), _, _, _] = _
              rw [hM, lS]
            · rintro σ H4 ⟨rfl, s4⟩
              have ha4 := s4 _ _ ha
              refine ⟨fun σ H5 => ∃ (L : Addr) (lv : List V), σ = [some (.ref a), some (.int p), some (.int g), some (.int t), some (.int M), some (.int s.length), some (.ref L), none, none] ∧ H5 L = some (.lst lv) ∧ lv.length = 2 * p ∧ (∀ k, k < 2 * p → lv[k]? = some (.int (f (b0 + k)))) ∧ Same H H5, ?_, ?_⟩
              · have lb : ((s.length : Int) - (p : Int)) = ((b0 : Nat) : Int) := by omega
                refine ⟨_, rfl, _, rfl, _, rfl, _, _, rfl, rfl, ((b0 : Nat) : Int), (by show V.int _ = V.int _; rw [lb]), a, _, rfl, SqL.of ha4, fun q1 hq1 => ?_⟩
                rw [cutL (by rw [List.length_map]; omega)]
                generalize g5 : upd H4 q1 _ = H5
                obtain ⟨s5, f5⟩ := alloc g5 hq1
                refine ⟨_, rfl, _, rfl, _, rfl, _, _, rfl, rfl, ((b0 : Nat) : Int), (by show V.int _ = V.int _; rw [lb]), a, _, rfl, SqL.of (s5 _ _ ha4), fun q2 hq2 => ?_⟩
                rw [cutL (by rw [List.length_map]; omega)]
                generalize g6 : upd H5 q2 _ = H6
                obtain ⟨s6, f6⟩ := alloc g6 hq2
                refine ⟨q2, rfl, ⟨_, SqL.of f6⟩, fun D hD => lc_list (K := K) (a := q2) (xs := (s.map V.int).drop b0) (fun i H7 => H7 D = some (.lst ((List.range i).map fun j => V.int (f (b0 + j) + g))) ∧ Same H6 H7) ⟨upd_same, same_new hD⟩ (fun i H7 _ ⟨_, s7⟩ => SqL.of (s7 _ _ f6)) ?_ ?_⟩
                · rintro i' x H7 hx ⟨hd7, s7⟩
                  have hi' : i' < p := by
                    have := (List.getElem?_eq_some_iff.mp hx).1
                    rwa [lX] at this
                  rw [tg i' hi'] at hx
                  cases hx
                  refine ⟨rfl, _, rfl, _, rfl, _, _, rfl, rfl, _, hd7, ?_, ?_, ?_⟩
                  · rw [List.length_map, List.length_range]; exact line_lt (by omega)
                  · rw [List.range_succ, List.map_append]; exact upd_same
                  · exact fun b o e => by rw [upd_ne (ne_of_none e hD)]; exact s7 _ _ e
                · rintro H7 ⟨hd7, s7⟩
                  rw [lX] at hd7
                  refine ⟨q1, D, _, _, rfl, rfl, s7 _ _ (s6 _ _ f5), hd7, ?_, fun z hz => ?_⟩
                  · rw [lX, List.length_map, List.length_range]
                    exact line_le (by omega)
                  refine ⟨z, _, rfl, upd_same, ?_, ?_, Same.trans s4 (Same.trans s5 (Same.trans s6 (Same.trans s7 (same_new hz))))⟩
                  · rw [List.length_append, lX, List.length_map, List.length_range]; omega
                  · intro k' hk
                    by_cases c : k' < p
                    · rw [List.getElem?_append_left (by rw [lX]; exact c)]
                      exact tg k' c
                    · rw [List.getElem?_append_right (by rw [lX]; omega), lX, List.getElem?_map, List.getElem?_range (by omega)]
                      have := QP (b0 + (k' - p)) (by omega)
                      rw [show b0 + (k' - p) + p = b0 + k' by omega] at this
                      rw [this]
                      rfl
              · rintro σ H5 ⟨L, lv, rfl, h5, ll, lg, s5⟩
                have hlg : ∀ k, k < 2 * p → atI lv (k : Int) = some (.int (f (b0 + k))) := fun k h => atI_nat (lg k h)
                refine ⟨_, rfl, _, rfl, L, _, rfl, .inl (SqL.of h5), t, _, rfl, ⟨by omega, by omega, by omega, by omega⟩, fun D hD => lc_it (n := ((lv.length : Int) - (t : Int)).toNat) (walk_range (lo := t))
                  (fun i H6 => ∃ m, H6 D = some (.lst ((ones m).map V.int)) ∧ m ≤ i ∧ (m = 0 ↔ ∀ k, t ≤ k → k < t + i → f (b0 + k) = f (b0 + (k - t)) + M) ∧ Same H5 H6) ⟨0, upd_same, Nat.le_refl _, ⟨fun _ k h1 h2 => by omega, fun _ => rfl⟩, same_new hD⟩ (fun i H6 _ _ => trivial) ?_ ?_⟩
                · rintro i' x H6 H7 hi' ⟨m, hd6, hm6, iff6, s6⟩ hy
                  obtain ⟨rfl, rfl⟩ : H7 = H6 ∧ x = .int ((t : Int) + (i' : Int)) := by
                    obtain ⟨h1, h2⟩ := hy
                    first | exact ⟨h1, h2⟩ | exact ⟨h2, h1⟩
                  have c1 : (t : Int) + (i' : Int) = ((t + i' : Nat) : Int) := by omega
                  have c2 : (t : Int) + (i' : Int) - (t : Int) = ((i' : Nat) : Int) := by omega
                  have h56 := s6 _ _ h5
                  refine ⟨rfl, _, rfl, _, rfl, L, _, _, .int (f (b0 + (t + i'))), rfl, rfl, SqL.of h56, by rw [c1]; exact hlg _ (by omega), _, rfl, _, rfl, _, rfl, _, _, rfl, rfl, L, _, _, .int (f (b0 + i')), rfl, rfl, SqL.of h56, ?_, _, rfl, _, _, rfl, rfl, rfl, !decide (f (b0 + (t + i')) = f (b0 + i') + M), ?_, ?_⟩
                  · show atI lv ((t : Int) + (i' : Int) - (t : Int)) = _
                    rw [c2]
                    exact hlg _ (by omega)
                  · show V.bl (!decide (V.int (f (b0 + (t + i'))) = V.int (f (b0 + i') + M))) = _
                    congr 2
                    exact decide_eq_decide.mpr ⟨fun z => V.int.inj z, fun z => by rw [z]⟩
                  · by_cases c : f (b0 + (t + i')) = f (b0 + i') + M
                    · rw [decide_eq_true c]
                      refine iteF ⟨m, hd6, by omega, ⟨fun z k h1 h2 => ?_, fun z => iff6.mpr fun k h1 h2 => z k h1 (by omega)⟩, s6⟩
                      by_cases e : k = t + i'
                      · rw [e, show t + i' - t = i' by omega]
                        exact c
                      · exact iff6.mp z k h1 (by omega)
                    · rw [decide_eq_false c]
                      refine iteT ⟨_, hd6, ?_, m + 1, ?_, by omega, ⟨fun z => by omega, fun z => ?_⟩, ?_⟩
                      · rw [List.length_map]
                        unfold ones
                        rw [List.length_replicate]
                        exact line_lt (by omega)
                      · rw [ones_snoc]; exact upd_same
                      · have := z (t + i') (by omega) (by omega)
                        rw [show t + i' - t = i' by omega] at this
                        exact absurd this c
                      · exact fun b o e => by rw [upd_ne (ne_of_none e hD)]; exact s6 _ _ e
                · rintro H6 ⟨m, hd6, hm6, iff6, s6⟩
                  refine ⟨(by show 0 ≤ sizeLine; decide), fun q hq => ?_⟩
                  generalize g7 : upd H6 q _ = H7
                  obtain ⟨s7, f7⟩ := alloc g7 hq
                  refine ⟨.list ((ones m).map .int), .list [], .lst (SqL.of (s7 _ _ hd6)) (dpAll_int _), .lst (SqL.of f7) .nil, shaped_ints _, by decide, _, rfl, ?_⟩
                  rw [show PyData.eqv (.list ((ones m).map .int)) (.list []) = decide (ones m = []) from eqv_ints (ones m) []]
                  have s57 : Same H H7 := Same.trans s5 (Same.trans s6 s7)
                  have key : MF.B f b0 p t M ↔ m = 0 := by
                    rw [iff6]
                    exact ⟨fun z k h1 h2 => z k h1 (by omega), fun z k h1 h2 => z k h1 (by omega)⟩
                  refine ite2 (fun c => ?_) (fun c => ?_)
                  · have m0 := (ones_nil m).mp (of_decide_eq_true c)
                    have hA : MF.A f b0 p t := (key.mpr m0).a t0 hd
                    have hMR := MR hA
                    have ha7 := s57 _ _ ha
                    refine ⟨fun σ H8 => ∃ c : Nat, σ = [some (.ref a), some (.int p), some (.int g), some (.int t), some (.int M), some (.int c), some (.ref L), none, none] ∧ H8 = H7 ∧ c ≤ s.length ∧ t ≤ c ∧ MF.IsForm f t M (c - t), ?_, ?_⟩
                    · refine while_by (fun σ H8 => ∃ c : Nat, σ = [some (.ref a), some (.int p), some (.int g), some (.int t), some (.int M), some (.int c), some (.ref L), none, none] ∧ H8 = H7 ∧ c ≤ s.length ∧ t ≤ c ∧ ∀ j, c - t ≤ j → j < s.length - t → f (j + t) = f j + M)
                        (fun σ _ => match σ with
                          | [_, _, _, _, _, some (.int c), _, _, _] => c.toNat
                          | _ => 0) ⟨s.length, rfl, rfl, Nat.le_refl _, by omega, fun j h1 h2 => by omega⟩ ?_ ?_
                      · rintro σ H8 ⟨c, rfl, rfl, cn, tc, hc⟩
                        by_cases ct : t < c
                        · refine ⟨_, rfl, _, rfl, _, _, rfl, rfl, true, bT (by omega), iteT ?_⟩
                          have d1 : (c : Int) - 1 = ((c - 1 : Nat) : Int) := by omega
                          have d2 : (c : Int) - 1 - (t : Int) = ((c - 1 - t : Nat) : Int) := by omega
                          refine ⟨_, rfl, _, rfl, _, _, rfl, rfl, a, _, _, .int (f (c - 1)), rfl, rfl, SqL.of ha7, ?_, _, rfl, _, rfl, _, _, rfl, rfl, _, rfl, _, _, rfl, rfl, a, _, _, .int (f (c - 1 - t)), rfl, rfl, SqL.of ha7, ?_, _, rfl, _, _, rfl, rfl, rfl, decide (f (c - 1) = f (c - 1 - t) + M), ?_, ?_⟩
                          · show atI _ ((c : Int) - 1) = _
                            rw [d1]
                            exact atI_nat (gm _ (by omega))
                          · show atI _ ((c : Int) - 1 - (t : Int)) = _
                            rw [d2]
                            exact atI_nat (gm _ (by omega))
                          · show V.bl (decide (V.int (f (c - 1)) = V.int (f (c - 1 - t) + M))) = _
                            congr 1
                            exact decide_eq_decide.mpr ⟨fun z => V.int.inj z, fun z => by rw [z]⟩
                          · refine ite2 (fun z => ?_) (fun z => ?_)
                            · have z' := of_decide_eq_true z
                              refine ⟨_, rfl, _, _, rfl, rfl, ⟨c - 1, by show [_, _, _, _, _, some (V.int ((c : Int) - 1)), _, _, _] = _; rw [d1], rfl, by omega, by omega, fun j h1 h2 => ?_⟩, ?_⟩
                              · by_cases e : j = c - 1 - t
                                · rw [e, show c - 1 - t + t = c - 1 by omega]
                                  exact z'
                                · exact hc j (by omega) h2
                              · show ((c : Int) - 1).toNat < (c : Int).toNat
                                omega
                            · refine ⟨c, rfl, rfl, cn, tc, ?_⟩
                              exact lowForm p0 QP t0 tp hA (fun u h1 h2 => no u h1 (by omega)) hMR hb0 tc cn hc (.inr fun z2 => z (decide_eq_true z2))
                        · refine ⟨_, rfl, _, rfl, _, _, rfl, rfl, false, bF (by omega), iteF ?_⟩
                          refine iteF ⟨c, rfl, rfl, cn, tc, ?_⟩
                          exact lowForm p0 QP t0 tp hA (fun u h1 h2 => no u h1 (by omega)) hMR hb0 tc cn hc (.inl (by omega))
                      · intro σ H Q Q' m h
                        obtain ⟨v1, e1, v2, e2, i, j, e3, e4, b, e5, h⟩ := h
                        refine ⟨v1, e1, v2, e2, i, j, e3, e4, b, e5, ?_⟩
                        cases b with
                        | false => exact m _ _ h
                        | true =>
                          obtain ⟨w1, f1, w2, f2, i1, j1, g1, g2, pp, xs, ii, vv, k1, k2, k3, k4, w3, f3, w4, f4, i2, j2, g3, g4, w5, f5, i3, j3, g5, g6, pp', xs', ii', vv', l1, l2, l3, l4, w6, f6, i4, j4, g7, g8, sc, b2, eb, hQ⟩ := h
                          exact ⟨w1, f1, w2, f2, i1, j1, g1, g2, pp, xs, ii, vv, k1, k2, k3, k4, w3, f3, w4, f4, i2, j2, g3, g4, w5, f5, i3, j3, g5, g6, pp', xs', ii', vv', l1, l2, l3, l4, w6, f6, i4, j4, g7, g8, sc, b2, eb, m _ _ hQ⟩
                    · rintro σ H8 ⟨c, rfl, rfl, cn, tc, IF⟩
                      refine ⟨_, rfl, _, rfl, _, rfl, a, _, rfl, SqL.of ha7, fun q2 hq2 => ?_⟩
                      rw [cutR (by rw [List.length_map]; exact cn), tk c cn]
                      generalize g9 : upd H8 q2 _ = H9
                      obtain ⟨s9, f9⟩ := alloc g9 hq2
                      refine ⟨q2, _, rfl, .inl ⟨SqL.of f9, fun l hl => ?_⟩⟩
                      generalize g10 : upd H9 l _ = H10
                      obtain ⟨s10, f10⟩ := alloc g10 hl
                      refine ⟨_, rfl, _, rfl, (by show 3 ≤ sizeLine; decide), fun T hT => ?_⟩
                      generalize g11 : upd H10 T _ = H11
                      obtain ⟨s11, f11⟩ := alloc g11 hT
                      have ff := fin t M (c - t) IF (by omega)
                      rw [show c - t + t = c by omega] at ff
                      exact k _ _ _ l T H11 ff (s11 _ _ f10) f11 (Same.trans s57 (Same.trans s9 (Same.trans s10 s11)))
                  · refine ⟨_, _, _, _, rfl, s57, nxt fun hA => c (decide_eq_true ((ones_nil m).mpr (key.mp ?_)))⟩
                    have q := (hA.dp t0 tp QP.dp).qp
                    rw [← MR hA] at q
                    exact MF.B.of_qp q
          · refine ⟨_, rfl, _, rfl, _, _, rfl, rfl, .inl ⟨by omega, by omega⟩, _, rfl, _, _, rfl, rfl, by omega, rfl, false, bF (fun z => hm (by have z' : V.int (Int.fmod (g * (t : Int)) (p : Int)) = V.int 0 := z; exact V.int.inj z')), iteF ?_⟩
            exact ⟨_, _, _, _, rfl, s3, nxt fun hA => hm (by rw [hR hA, Int.mul_fmod_left])⟩
        · refine ⟨_, rfl, _, rfl, _, _, rfl, rfl, by omega, rfl, false, bF (fun z => hd (by have z' : V.int (Int.fmod (p : Int) (t : Int)) = V.int 0 := z; rw [fmod_nat p t t0] at z'; have := V.int.inj z'; omega)), iteF ?_⟩
          exact ⟨_, _, _, _, rfl, s3, nxt fun hA => hd hA.1⟩
      · rintro σ H3 ⟨v3, v4, v5, v6, rfl, s3, no⟩
        exact absurd (MF.A.self (f := f) (b := b0) (p := p)) (no p p0 (by omega))
end
end WW
end

section
set_option Elab.async false
set_option linter.all false
set_option maxRecDepth 100000
set_option maxHeartbeats 4000000
namespace WW
open PySem L2 WO WG RZ WQ WT WC
abbrev sIsCur : Stmt := top 71
abbrev nIsCur : List Str := ["thing", "row", "period_here", "growth_here"]
section
variable {P : Program} {w : World} {K : PySem.W.Frag} {mg : Str → Option Value} {base : Heap}
def spIsCur (K : PySem.W.Frag) (C : Addr) : Sp := fun vs H Q _ => ∃ (x a : Addr) (xs : List V) (p : Nat) (g : Int) (L : Nat → V), vs = [.ref x, .ref a, .int p, .int g] ∧ IsCur H C x L ∧ H a = some (.lst xs) ∧ FormIn xs p g ∧ RowF xs p g L ∧
  (∀ j, j < xs.length → SmallV (L j)) ∧ ∀ H', Same H H' → Q (.bl true) H'
theorem scIsCur : FnScope nIsCur nIsCur (defScope sIsCur) := ⟨rfl, rfl, rfl, by decide +kernel, rfl, by decide +kernel, by decide +kernel⟩
theorem ok_isCur {f fI fE C : Addr} {fd : FuncData} (F : Fun K "_law_is_curve" "_law_is_curve" sIsCur f fd) (T : CurG mg) (nrepr : mg "repr" = none) (U : CurT K mg C fI fE)
    (c_lfo : Cal P w K mg base CX0 1 "_law_form" ["row", "period_here", "growth_here"] (spForm K)) : FnG P w K mg base CX0 2 f fd nIsCur (spIsCur K C) := by
  refine okG F scIsCur (fun vs H Q E h => ?_) (fun cdv A outer s H vs Q E hr hgu h => ?_)
  · obtain ⟨x, a, xs, p, g, L, rfl, _⟩ := h
    rfl
  · obtain ⟨x, a, xs, p, g, L, rfl, ⟨v, q, r, cu, fg⟩, ha, fi, R, sm, k⟩ := h
    have hu64 := hr.units
    obtain ⟨dx, t, h1, h2⟩ := id cu
    refine ⟨_, (pss_cons (ps_if (pt_not (pt_val (pe_callB call_isi (by rfl) T.isi (by decide +kernel) (pa_cons (pv 0) (pa_cons (pe_glob (v := .ref C) rfl U.mC rfl) pa_nil))))) (pss_one
 (ps_ret pe_bl)) pss_nil)
 (pss_one
 (ps_ret (pe_cmpR op_eq (pe_callB (call_repr hgu hu64) (by rfl) nrepr (by decide +kernel) (pa_cons (pe_tup (pa_cons (pe_fld (pv 0) rfl) (pa_cons (pe_fld (pv 0) rfl) (pa_cons (pe_fld (pv 0) rfl) pa_nil)))) pa_nil)) (pe_callB (call_repr hgu hu64) (by rfl) nrepr (by decide +kernel) (pa_cons (pe_callC c_lfo (hr.mono (by decide)) rfl pass0 (pa_cons (pv 1) (pa_cons (pv 2) (pa_cons (pv 3) pa_nil)))) pa_nil)) (nomark _))))), ?_⟩
    refine ⟨_, rfl, .ref x, .ref C, .ref C, .ref C, true, rfl, .own C, .base (.ins h1 U.cl U.cc U.cg U.ct U.co), U.kC, true, rfl, iteF ?_⟩
    refine ⟨_, rfl, x, C, dx, _, .ref t, rfl, h1, U.cl, U.nS, rfl, _, rfl, x, C, dx, _, .int q, rfl, h1, U.cl, U.nP, rfl, _, rfl, x, C, dx, _, .int r, rfl, h1, U.cl, U.nG, rfl, (by show 3 ≤ sizeLine; decide), fun T2 hT2 => ?_⟩
    generalize g2 : upd H T2 _ = H2
    obtain ⟨s2, f2⟩ := alloc g2 hT2
    have lenv : v.length ≤ xs.length ∨ True := .inr trivial
    have GC : ∀ (vals : List V) (q' r' : Int), FormV xs p g vals q' r' → vals = v ∧ q' = q ∧ r' = r ∧ GoodC vals q' r' := fun vals q' r' fv => by
      have gc := good_form fi R fv sm
      obtain ⟨qn, rfl, fg'⟩ := form_g fv R
      obtain ⟨rfl, rfl, rfl⟩ := fg'.uniq fg
      exact ⟨rfl, rfl, rfl, gc⟩
    obtain ⟨vals0, q0, r0, fv0⟩ := form_ex fi
    obtain ⟨e1, e2, e3, gc⟩ := GC _ _ _ fv0
    subst e1 e2 e3
    refine ⟨T2, curD vals0 q r0, rfl, rdb_dp (dp_cur f2 (s2 _ _ h2) fg.flat) gc.hd, gc.sh, gc.dp, gc.le, ?_⟩
    refine ⟨_, rfl, _, rfl, _, rfl, a, xs, p, g, rfl, s2 _ _ ha, fi, fun vals q' r' t' T' H3 fv ht hT s3 => ?_⟩
    obtain ⟨rfl, rfl, rfl, _⟩ := GC _ _ _ fv
    refine ⟨T', curD vals q r', rfl, rdb_dp (dp_cur hT ht fg.flat) gc.hd, gc.sh, gc.dp, gc.le, rfl, ?_⟩
    have e : decide (V.str (PyData.shown (curD vals q r')) = V.str (PyData.shown (curD vals q r'))) = true := decide_eq_true rfl
    show Q (.bl (decide (V.str (PyData.shown (curD vals q r')) = V.str (PyData.shown (curD vals q r'))))) H3
    rw [e]
    exact k H3 (Same.trans s2 s3)
end
end WW
end

section
set_option Elab.async false
set_option linter.all false
set_option maxRecDepth 100000
set_option maxHeartbeats 8000000
namespace WW
open PySem L2 WO WG RZ WQ WT WC
abbrev sGoe : Stmt := top 73
abbrev sSho : Stmt := top 74
/-- a sketch of known values -/
structure LskV (xs : List V) (p : Nat) (g : Int) (L : Nat → V) : Prop where
  row : RowF xs p g L
  p0 : 0 < p
  p6 : p ≤ 6
  pn : p ≤ xs.length
  ln : xs.length ≤ 8
  g0 : 0 ≤ g
  g1 : g ≤ 10000000
  sm : ∀ j (i : Int), j ≤ 100000 → L j = .int i → 0 ≤ i ∧ i ≤ 2000000000000
structure Lsk (H : Hp) (e a : Addr) (xs : List V) (p : Nat) (g : Int) (L : Nat → V) : Prop where
  ob : H e = some (.dK (skKvs a p g))
  li : H a = some (.lst xs)
  vl : LskV xs p g L
theorem Lsk.same {H H' : Hp} {e a : Addr} {xs : List V} {p : Nat} {g : Int} {L : Nat → V} (h : Lsk H e a xs p g L) (s : Same H H') : Lsk H' e a xs p g L := ⟨s _ _ h.ob, s _ _ h.li, h.vl⟩
theorem RowF.cases' {xs : List V} {p : Nat} {g : Int} {F : Nat → V} (R : RowF xs p g F) : (∃ (f : Nat → Int) (n : Nat), F = (fun j => .int (f j)) ∧ xs = (List.range n).map (fun j => V.int (f j)) ∧ 0 < p ∧ p ≤ n ∧ p ≤ 1000000 ∧ MF.QP f p g (n - p)) ∨ (∃ (s : List Int) (k : Nat), F = FN s ∧ xs = s.map V.int ++ List.replicate (k + 1) .non) := by
  have tk := R.take (n := xs.length)
  rw [Nat.min_self, List.take_of_length_le (Nat.le_refl _)] at tk
  cases R with
  | mkI s p g p0 pn pb =>
    refine .inl ⟨MF.at_ s p g, s.length, rfl, ?_, p0, pn, pb, MF.at_qp p0 pn⟩
    rw [List.length_map] at tk
    exact tk
  | mkN s k p g => exact .inr ⟨s, k, rfl, rfl⟩
/-- the last one tells whether there is an end -/
theorem LskV.last {xs : List V} {p : Nat} {g : Int} {L : Nat → V} (h : LskV xs p g L) : ∃ lv, xs[xs.length - 1]? = some lv ∧ ((lv ≠ .non ∧ ∃ f : Nat → Int, L = (fun j => .int (f j)) ∧ MF.QP f p g (xs.length - p)) ∨ (lv = .non ∧ ∃ s : List Int, L = FN s ∧ s.length < xs.length)) := by
  have n0 : 0 < xs.length := by have := h.p0; have := h.pn; omega
  rcases h.row.cases' with ⟨f, n, e, ex, p0, pn, _, Q⟩ | ⟨s, k, e, ex⟩
  · have ln : xs.length = n := by rw [ex, List.length_map, List.length_range]
    refine ⟨.int (f (n - 1)), ?_, .inl ⟨fun z => (by cases z), f, e, by rw [ln]; exact Q⟩⟩
    rw [ln, ex, List.getElem?_map, List.getElem?_range (by omega)]
    rfl
  · have ln : xs.length = s.length + (k + 1) := by rw [ex, List.length_append, List.length_map, List.length_replicate]
    refine ⟨.non, ?_, .inr ⟨rfl, s, e, by omega⟩⟩
    rw [ln, ex]
    exact nones_get _ (by omega) (by omega)
/-- the last one below nothing, among the first classes -/
def LastUp (G : Nat → Int) (c p i : Nat) (l : Int) : Prop := (l = -1 ∧ ∀ k, k < i → ∀ m : Nat, 0 ≤ G (c + k + m * p)) ∨ ∃ T : Nat, l = T ∧ c ≤ T ∧ G T < 0 ∧ ∀ k, k < i → ∀ m : Nat, T < c + k + m * p → 0 ≤ G (c + k + m * p)
theorem LastUp.step {G : Nat → Int} {c p i : Nat} {g l : Int} (Q : MF.QP G p g c) (g0 : 0 < g) (h : LastUp G c p i l) :
    (0 ≤ G (c + i) → LastUp G c p (i + 1) l) ∧ (G (c + i) < 0 → LastUp G c p (i + 1) (max l (((c + i : Nat) : Int) + (p : Int) * ((0 - G (c + i) - 1) / g)))) := by
  have m := fun k => Q.mul (j := c + i) (by omega) k
  constructor
  · intro z
    have all : ∀ k : Nat, 0 ≤ G (c + i + k * p) := fun k => by
      have := m k
      have : 0 ≤ (k : Int) * g := Int.mul_nonneg (by omega) (by omega)
      omega
    rcases h with ⟨rfl, h⟩ | ⟨T, rfl, h1, h2, h3⟩
    · refine .inl ⟨rfl, fun k hk mm => ?_⟩
      by_cases e : k = i
      · rw [e]; exact all mm
      · exact h k (by omega) mm
    · refine .inr ⟨T, rfl, h1, h2, fun k hk mm hT => ?_⟩
      by_cases e : k = i
      · rw [e]; exact all mm
      · exact h3 k (by omega) mm hT
  · intro z
    have k0 : 0 ≤ (0 - G (c + i) - 1) / g := Int.ediv_nonneg (by omega) (by omega)
    have dm := Int.emod_add_mul_ediv (0 - G (c + i) - 1) g
    have dl := Int.emod_lt_of_pos (0 - G (c + i) - 1) g0
    have dn := Int.emod_nonneg (0 - G (c + i) - 1) (show g ≠ 0 by omega)
    obtain ⟨k, hk⟩ : ∃ k : Nat, (k : Int) = (0 - G (c + i) - 1) / g := ⟨((0 - G (c + i) - 1) / g).toNat, by omega⟩
    rw [← hk] at dm ⊢
    have ev : ((c + i : Nat) : Int) + (p : Int) * (k : Int) = ((c + i + k * p : Nat) : Int) := by rw [Int.natCast_add (c + i), Int.natCast_mul, Int.mul_comm (k : Int)]
    rw [ev]
    have neg : G (c + i + k * p) < 0 := by
      have := m k
      have : (k : Int) * g = g * (k : Int) := Int.mul_comm ..
      omega
    have pos : ∀ mm : Nat, k < mm → 0 ≤ G (c + i + mm * p) := fun mm hm => by
      have := m mm
      have a : ((k + 1 : Nat) : Int) * g ≤ (mm : Int) * g := Int.mul_le_mul_of_nonneg_right (by omega) (by omega)
      have b : ((k + 1 : Nat) : Int) * g = g * (k : Int) + g := by rw [Int.natCast_add, Int.add_mul, Int.mul_comm]; show _ + 1 * g = _; omega
      omega
    have mine : ∀ (T : Nat), c + i + k * p ≤ T → ∀ mm : Nat, T < c + i + mm * p → 0 ≤ G (c + i + mm * p) := fun T hT mm hm => by
      refine pos mm (Nat.lt_of_not_le fun z => ?_)
      have : mm * p ≤ k * p := Nat.mul_le_mul_right _ z
      omega
    rcases h with ⟨rfl, h⟩ | ⟨T, rfl, h1, h2, h3⟩
    · refine .inr ⟨c + i + k * p, by omega, by omega, neg, fun k' hk' mm hm => ?_⟩
      by_cases e : k' = i
      · subst e; exact mine _ (Nat.le_refl _) mm hm
      · exact h k' (by omega) mm
    · by_cases cc : T ≤ c + i + k * p
      · refine .inr ⟨c + i + k * p, by omega, by omega, neg, fun k' hk' mm hm => ?_⟩
        by_cases e : k' = i
        · subst e; exact mine _ (Nat.le_refl _) mm hm
        · exact h3 k' (by omega) mm (by omega)
      · refine .inr ⟨T, by omega, h1, h2, fun k' hk' mm hm => ?_⟩
        by_cases e : k' = i
        · subst e; exact mine _ (by omega) mm hm
        · exact h3 k' (by omega) mm hm
theorem LastUp.all {G : Nat → Int} {c p : Nat} {l : Int} (p0 : 0 < p) (h : LastUp G c p p l) : (l = -1 ∧ ∀ j, c ≤ j → 0 ≤ G j) ∨ ∃ T : Nat, l = T ∧ c ≤ T ∧ G T < 0 ∧ ∀ j, T < j → 0 ≤ G j := by
  rcases h with ⟨rfl, h⟩ | ⟨T, rfl, h1, h2, h3⟩
  · refine .inl ⟨rfl, fun j hj => ?_⟩
    obtain ⟨k, i, rfl, hi⟩ := MF.dec_add p0 hj
    exact h i hi k
  · refine .inr ⟨T, rfl, h1, h2, fun j hj => ?_⟩
    obtain ⟨k, i, rfl, hi⟩ := MF.dec_add p0 (show c ≤ j by omega)
    exact h3 i hi k hj
section
variable {P : Program} {w : World} {K : PySem.W.Frag} {mg : Str → Option Value} {base : Heap}
abbrev nGoe : List Str := ["sketch"]
theorem scGoe : FnScope nGoe ["sketch"] (defScope sGoe) := ⟨rfl, rfl, rfl, by decide +kernel, rfl, by decide +kernel, by decide +kernel⟩
def spGoe (K : PySem.W.Frag) : Sp := fun vs H Q _ => ∃ (e a : Addr) (xs : List V) (p : Nat) (g : Int) (lv : V), vs = [.ref e] ∧ H e = some (.dK (skKvs a p g)) ∧ H a = some (.lst xs) ∧ xs[xs.length - 1]? = some lv ∧ Q (.bl (!decide (lv = .non))) H
theorem ok_goe {f : Addr} {fd : FuncData} (F : Fun K "_law_goes" "_law_goes" sGoe f fd) (T : CurG mg) : FnOk P w K mg base CX0 1 f fd ["sketch"] (spGoe K) := by
  refine F.ok scGoe (fun vs H Q E h => ?_) (fun cdv A outer s H vs Q E hr h => ?_)
  · obtain ⟨e, a, xs, p, g, lv, rfl, _⟩ := h
    rfl
  · obtain ⟨e, a, xs, p, g, lv, rfl, he, ha, hl, k⟩ := h
    have hu := hu_of hr
    refine ⟨_, (pss_one
 (ps_ret (pe_cmpR op_notN (pe_ix ix_list (pe_dget hu (pv 0) pe_str (fun _ _ => rfl)) (pe_un un_neg pe_int) (fun _ _ => rfl)) pe_non (nomark _)))), ?_⟩
    exact ⟨_, rfl, e, _, rfl, sk_start he, 1, rfl, a, _, _, lv, rfl, rfl, SqL.of ha, last_get hl, rfl, k⟩
abbrev nSho : List Str := ["found"]
theorem scSho : FnScope nSho ["found"] (defScope sSho) := ⟨rfl, rfl, rfl, by decide +kernel, rfl, by decide +kernel, by decide +kernel⟩
def spSho (K : PySem.W.Frag) : Sp := fun vs H Q _ => ∃ (T a : Addr) (xs : List V) (p : Nat) (g : Int), vs = [.ref T] ∧ H T = some (.tup [.ref a, .int p, .int g]) ∧ H a = some (.lst xs) ∧ FormIn xs p g ∧
  ∀ v q r, FormV xs p g v q r → (v.length ≤ 4000 → ∀ H', Same H H' → Q (.ref T) H') ∧ (4000 < v.length → ∀ H', Same H H' → Q .non H')
theorem ok_sho {f : Addr} {fd : FuncData} (F : Fun K "_law_short" "_law_short" sSho f fd) (T : CurG mg) (c_lfo : Cal P w K mg base CX0 1 "_law_form" ["row", "period_here", "growth_here"] (spForm K)) : FnOk P w K mg base CX0 2 f fd ["found"] (spSho K) := by
  refine F.ok scSho (fun vs H Q E h => ?_) (fun cdv A outer s H vs Q E hr h => ?_)
  · obtain ⟨U, a, xs, p, g, rfl, _⟩ := h
    rfl
  · obtain ⟨U, a, xs, p, g, rfl, hU, ha, fi, k⟩ := h
    refine ⟨_, (pss_one
 (ps_ret (pe_ifExp (pt_cmpR op_le (pe_callB call_len_seq (by rfl) T.len PySem.boot_len (pa_cons (pe_ix ix_tup (pe_callC c_lfo (hr.mono (by decide)) rfl pass0 (pa_cons (pe_ix ix_tup (pv 0) pe_int (fun _ _ => rfl)) (pa_cons (pe_ix ix_tup (pv 0) pe_int (fun _ _ => rfl)) (pa_cons (pe_ix ix_tup (pv 0) pe_int (fun _ _ => rfl)) pa_nil)))) pe_int (fun _ _ => rfl)) pa_nil)) pe_int (nomark _)) (pv 0) pe_non))), ?_⟩
    refine ⟨_, rfl, U, _, _, .ref a, rfl, rfl, SqT.of hU, rfl, _, rfl, U, _, _, .int p, rfl, rfl, SqT.of hU, rfl, _, rfl, U, _, _, .int g, rfl, rfl, SqT.of hU, rfl, ?_⟩
    refine ⟨a, xs, p, g, rfl, ha, fi, fun v q r t T' H1 fv ht hT s1 => ⟨T', _, _, .ref t, rfl, rfl, SqT.of hT, rfl, t, v, rfl, .inr (SqT.of ht), _, _, rfl, rfl, ?_⟩⟩
    obtain ⟨k1, k2⟩ := k v q r fv
    by_cases c : v.length ≤ 4000
    · exact ⟨true, bT (by omega), iteT ⟨_, rfl, k1 c H1 s1⟩⟩
    · exact ⟨false, bF (by omega), iteF (k2 (by omega) H1 s1)⟩
/-- what the law says is due: U, as a row -/
structure DueAt (H : Hp) (T b : Addr) (m p1 : Nat) (g1 : Int) (U : Nat → V) : Prop where
  tu : H T = some (.tup [.ref b, .int p1, .int g1])
  li : H b = some (.lst ((List.range m).map U))
  fi : FormIn ((List.range m).map U) p1 g1
  row : RowF ((List.range m).map U) p1 g1 U
  sm : ∀ j, j < m → SmallV (U j)
  sh : ∀ v q r, FormG U v q r → v.length ≤ 4000
theorem DueAt.same {H H' : Hp} {T b : Addr} {m p1 : Nat} {g1 : Int} {U : Nat → V} (h : DueAt H T b m p1 g1 U) (s : Same H H') : DueAt H' T b m p1 g1 U := ⟨s _ _ h.tu, s _ _ h.li, h.fi, h.row, h.sm, h.sh⟩
theorem flat_due {H : Hp} {T b : Addr} {x : V} (hx : x = .non ∨ ∃ i : Int, x = .int i ∧ 0 ≤ i ∧ i ≤ 1000000000) (hT : H T = some (.tup [.ref b, .int 1, .int 0])) (hb : H b = some (.lst [x])) : DueAt H T b 1 1 0 (fun _ => x) := by
  obtain ⟨f1, f2⟩ := flat_in hx
  refine ⟨hT, hb, f1, f2, fun j _ => ?_, fun v q r fg => by have := flat_len hx fg; omega⟩
  rcases hx with rfl | ⟨i, rfl, i0, i1⟩
  · exact .inl rfl
  · exact .inr ⟨i, rfl, by unfold SmallI; omega⟩
end
end WW
end

section
set_option Elab.async false
set_option linter.all false
set_option maxRecDepth 100000
set_option maxHeartbeats 4000000
namespace WW
open PySem L2 WO WG RZ WQ WT WC
/-! ### inverses -/
def Ge (x : V) (k : Int) : Prop := x = .non ∨ ∃ i : Int, x = .int i ∧ k ≤ i
/-- the least beat at which a number is come to -/
def InvA (L : Nat → V) (m n : Nat) (x : V) : Prop := (x = .non ∧ ∀ t, ¬ Ge (L t) ((n : Int) + (m : Int))) ∨ ∃ t : Nat, x = .int t ∧ Ge (L t) ((n : Int) + (m : Int)) ∧ ∀ s, s < t → ¬ Ge (L s) ((n : Int) + (m : Int))
theorem InvA.uniq {L : Nat → V} {m n : Nat} {x y : V} (h : InvA L m n x) (h' : InvA L m n y) : x = y := by
  rcases h with ⟨rfl, h⟩ | ⟨t, rfl, a, lo⟩ <;> rcases h' with ⟨rfl, h'⟩ | ⟨t', rfl, a', lo'⟩
  · rfl
  · exact absurd a' (h _)
  · exact absurd a (h' _)
  · have a1 : ¬ t < t' := fun l => lo' t l a
    have a2 : ¬ t' < t := fun l => lo t' l a'
    have : t = t' := by omega
    rw [this]
theorem inv_ex (L : Nat → V) (m n : Nat) : ∃ x, InvA L m n x := by
  by_cases c : ∃ t, Ge (L t) ((n : Int) + (m : Int))
  · obtain ⟨t, ht⟩ := c
    have dec : DecidablePred fun t => Ge (L t) ((n : Int) + (m : Int)) := fun _ => Classical.propDecidable _
    obtain ⟨u, hu, a, lo⟩ := MF.least_below (P := fun t => Ge (L t) ((n : Int) + (m : Int))) (n := t + 1) ⟨t, by omega, ht⟩
    exact ⟨.int u, .inr ⟨u, rfl, a, lo⟩⟩
  · exact ⟨.non, .inl ⟨rfl, fun t ht => c ⟨t, ht⟩⟩⟩
theorem inv_all (L : Nat → V) (m : Nat) : ∃ U : Nat → V, ∀ n, InvA L m n (U n) := Classical.axiomOfChoice fun n => inv_ex L m n
theorem ge_int {i k : Int} : Ge (.int i) k ↔ k ≤ i := by
  constructor
  · rintro (z | ⟨j, e, l⟩)
    · cases z
    · rw [V.int.inj e]; exact l
  · exact fun l => .inr ⟨i, rfl, l⟩
theorem ge_non {k : Int} : Ge .non k := .inl rfl
/-- of numbers: h n at most t exactly if f t comes to n and more -/
theorem inv_iff {f : Nat → Int} {m n : Nat} {h : Nat} (mo : MF.Mono f) (I : InvA (fun j => .int (f j)) m n (.int h)) (t : Nat) : h ≤ t ↔ (n : Int) + (m : Int) ≤ f t := by
  rcases I with ⟨z, _⟩ | ⟨u, e, a, lo⟩
  · cases z
  · have e := V.int.inj e
    have a : (n : Int) + (m : Int) ≤ f u := ge_int.mp a
    constructor
    · intro l
      have := mo.le (show u ≤ t by omega)
      omega
    · intro l
      refine Nat.not_lt.mp fun c => lo t (by omega) (ge_int.mpr l)
theorem inv_grow {f : Nat → Int} {q b : Nat} {r : Int} (q0 : 0 < q) (r0 : 0 < r) (Q : MF.QP f q r b) (m n : Nat) : ∃ h : Nat, InvA (fun j => .int (f j)) m n (.int h) := by
  obtain ⟨x, hx⟩ := inv_ex (fun j => V.int (f j)) m n
  rcases hx with ⟨rfl, no⟩ | ⟨t, rfl, a⟩
  · exfalso
    obtain ⟨k, ek⟩ : ∃ k : Nat, k = ((n : Int) + (m : Int) - f b).toNat := ⟨_, rfl⟩
    have := Q.mul (j := b) (Nat.le_refl _) k
    refine no (b + k * q) (ge_int.mpr ?_)
    have : (k : Int) ≤ (k : Int) * r := by
      have := Int.mul_le_mul_of_nonneg_left (show 1 ≤ r by omega) (show 0 ≤ (k : Int) by omega)
      omega
    omega
  · exact ⟨t, .inr ⟨t, rfl, a⟩⟩
/-- the inverse of one that grows goes on by its growth, by its period -/
theorem inv_qp {f : Nat → Int} {h : Nat → Nat} {q b m : Nat} {r : Int} {n0 : Nat} (mo : MF.Mono f) (q0 : 0 < q) (r0 : 0 < r) (Q : MF.QP f q r b) (I : ∀ n, InvA (fun j => .int (f j)) m n (.int (h n)))
    (hA : f (b + q - 1) - r + 1 ≤ (n0 : Int) + (m : Int)) (hB : 0 < b → f (b - 1) + 1 ≤ (n0 : Int) + (m : Int)) : MF.QP (fun n => ((h n : Nat) : Int)) r.toNat (q : Int) n0 := fun n hn => by
  have er : (r.toNat : Int) = r := by omega
  have i1 := inv_iff mo (I n)
  have i2 := inv_iff mo (I (n + r.toNat))
  have a1 := (i1 (h n)).mp (Nat.le_refl _)
  have a2 := (i2 (h (n + r.toNat))).mp (Nat.le_refl _)
  rw [Int.natCast_add, er] at i2 a2
  have bt : b ≤ h n := by
    by_cases c : b = 0
    · omega
    · have := hB (by omega)
      refine Nat.not_lt.mp fun z => ?_
      have := mo.le (show h n ≤ b - 1 by omega)
      omega
  have up : h (n + r.toNat) ≤ h n + q := (i2 _).mpr (by have := Q (h n) bt; omega)
  have ge : b + q ≤ h (n + r.toNat) := by
    refine Nat.not_lt.mp fun z => ?_
    have := mo.le (show h (n + r.toNat) ≤ b + q - 1 by omega)
    omega
  have dn : h n ≤ h (n + r.toNat) - q := (i1 _).mpr (by
    have := Q (h (n + r.toNat) - q) (by omega)
    rw [show h (n + r.toNat) - q + q = h (n + r.toNat) by omega] at this
    omega)
  show ((h (n + r.toNat) : Nat) : Int) = ((h n : Nat) : Int) + (q : Int)
  omega
/-- .. and its least form is no shorter -/
theorem inv_long {f : Nat → Int} {h : Nat → Nat} {q b m : Nat} {r : Int} {n0 : Nat} (mo : MF.Mono f) (F : MF.IsForm f q r b) (r0 : 0 < r) (I : ∀ n, InvA (fun j => .int (f j)) m n (.int (h n)))
    (e0 : n0 = 0 ∨ ∃ irr : Int, (n0 : Int) + (m : Int) = irr + 1 ∧ (irr = f (b + q - 1) - r ∨ (0 < b ∧ irr = f (b - 1))) ∧ f (b + q - 1) - r ≤ irr ∧ (0 < b → f (b - 1) ≤ irr)) (Qh : MF.QP (fun n => ((h n : Nat) : Int)) r.toNat (q : Int) n0)
    {q' b' : Nat} {r' : Int} (F' : MF.IsForm (fun n => ((h n : Nat) : Int)) q' r' b') : n0 + r.toNat ≤ b' + q' := by
  have q0 := F.pos
  have q0' := F'.pos
  have er : (r.toNat : Int) = r := by omega
  -- the period
  have fr := MF.form_rise (show 0 < r.toNat by omega) Qh F'
  have rise : 0 < r' := by
    refine Int.not_le.mp fun z => ?_
    have p1 : 0 < (q' : Int) * (q : Int) := Int.mul_pos (by omega) (by omega)
    have p2 : (r.toNat : Int) * r' ≤ 0 := Int.mul_nonpos_of_nonneg_of_nonpos (by omega) z
    omega
  have es : (r'.toNat : Int) = r' := by omega
  have Qf2 : MF.QP f r'.toNat (q' : Int) (h b') := fun t ht => by
    have fb := (inv_iff mo (I b') t).mp ht
    obtain ⟨n, en⟩ : ∃ n : Nat, (n : Int) + (m : Int) = f t := ⟨(f t - m).toNat, by omega⟩
    have a1 := (inv_iff mo (I n) t).mpr (by omega)
    have q1 := F'.qp n (by omega)
    have q2 := F'.qp (n + 1) (by omega)
    have a2 := (inv_iff mo (I (n + q')) (t + r'.toNat)).mp (by omega)
    have a3 : ¬ h (n + 1) ≤ t := fun z => by
      have := (inv_iff mo (I (n + 1)) t).mp z
      omega
    have a4 : ¬ ((n + 1 + q' : Nat) : Int) + (m : Int) ≤ f (t + r'.toNat) := fun z => by
      have := (inv_iff mo (I (n + 1 + q')) (t + r'.toNat)).mpr z
      omega
    omega
  have le := F.least r'.toNat (by omega) ⟨_, Qf2.dp⟩
  have qr : r.toNat ≤ q' := by
    refine Nat.not_lt.mp fun z => ?_
    have m1 : (q' : Int) * (q : Int) < (r.toNat : Int) * (q : Int) := Int.mul_lt_mul_of_pos_right (by omega) (by omega)
    have m2 : (r.toNat : Int) * (q : Int) ≤ (r.toNat : Int) * r' := Int.mul_le_mul_of_nonneg_left (by omega) (by omega)
    omega
  -- the start
  have st : n0 ≤ b' := by
    rcases e0 with rfl | ⟨irr, e1, e2, leA, leB⟩
    · exact Nat.zero_le _
    refine Nat.not_lt.mp fun z => ?_
    have dp := MF.DP.pull q0' F'.qp.dp ⟨_, Qh.dp⟩
    have qp := dp.qp
    rw [qp.rise Qh] at qp
    have hh := qp (n0 - 1) (by omega)
    have i1 := inv_iff mo (I (n0 - 1))
    have i2 := inv_iff mo (I (n0 - 1 + r.toNat))
    rw [Int.natCast_add, er] at i2
    have hh : ((h (n0 - 1 + r.toNat) : Nat) : Int) = ((h (n0 - 1) : Nat) : Int) + (q : Int) := hh
    have lowF : 0 < b → f (b + q - 1) - r ≠ f (b - 1) := fun b0 z => by
      rcases F.low with y | y
      · omega
      · rw [show b - 1 + q = b + q - 1 by omega] at y
        omega
    rcases e2 with rfl | ⟨b0, rfl⟩
    · have x2 := (i2 (b + q - 1)).mpr (by omega)
      have x1 : b ≤ h (n0 - 1) := by
        refine Nat.not_lt.mp fun z => ?_
        have := (i1 (b - 1)).mp (by omega)
        have := leB (by omega)
        have := lowF (by omega)
        omega
      omega
    · have x1 := (i1 (b - 1)).mpr (by omega)
      have x2 : b + q ≤ h (n0 - 1 + r.toNat) := by
        refine Nat.not_lt.mp fun z => ?_
        have := (i2 (b + q - 1)).mp (by omega)
        have := lowF b0
        omega
      omega
  omega
/-- where it ends, or comes to a stand -/
theorem inv_at {L : Nat → V} {m n t : Nat} (ge : Ge (L t) ((n : Int) + (m : Int))) (lo : ∀ s, s < t → ¬ Ge (L s) ((n : Int) + (m : Int))) : InvA L m n (.int t) := .inr ⟨t, rfl, ge, lo⟩
end WW
end

section
set_option Elab.async false
set_option linter.all false
set_option maxRecDepth 100000
set_option maxHeartbeats 8000000
namespace WW
open PySem L2 WO WG RZ WQ WT WC
abbrev sIle : Stmt := top 36
abbrev sLbe : Stmt := top 37
abbrev sInf : Stmt := top 38
def ival2 : V → Int
  | .int i => i
  | _ => 0
/-- never falls, nothing below 0 -/
structure UpL (L : Nat → V) : Prop where
  fl : ∀ j, L j = .non ∨ ∃ i : Int, L j = .int i ∧ 0 ≤ i
  mo : ∀ s t (k : Int), s ≤ t → L t = .int k → ∃ i : Int, L s = .int i ∧ i ≤ k
theorem UpL.mono {f : Nat → Int} (h : UpL fun j => .int (f j)) : MF.Mono f := fun j => by
  obtain ⟨i, e, l⟩ := h.mo j (j + 1) (f (j + 1)) (by omega) rfl
  rw [V.int.inj e]
  exact l
theorem UpL.nn {f : Nat → Int} (h : UpL fun j => .int (f j)) (j : Nat) : 0 ≤ f j := by
  rcases h.fl j with z | ⟨i, e, l⟩
  · cases z
  · rw [V.int.inj e]
    exact l
/-- how the inverse goes on: so many values, this period and growth -/
def InvN (L : Nat → V) (m many per : Nat) (gr : Int) : Prop := 0 < per ∧ per ≤ many ∧ 0 ≤ gr ∧ gr ≤ 4000 ∧ many ≤ 2 ^ 52 ∧ ∀ U : Nat → V, (∀ n, InvA L m n (U n)) →
  (many ≤ 20000 → FormIn ((List.range many).map U) per gr ∧ RowF ((List.range many).map U) per gr U) ∧ (∀ v q r, FormG U v q r → many ≤ v.length) ∧ ∀ n (t : Nat), n ≤ 20000 → U n = .int t → t ≤ 100000000
theorem form_b {f : Nat → Int} {v : List V} {q : Nat} {r : Int} (fg : FormG (fun j => .int (f j)) v q r) : ∃ b, MF.IsForm f q r b ∧ v = (List.range (b + q)).map fun j => V.int (f j) := by
  rcases fg.cases' with ⟨h, b, e, hf, ev⟩ | ⟨s, e, _⟩
  · have : f = h := funext fun j => V.int.inj (e j)
    subst this
    exact ⟨b, hf, ev⟩
  · have z := e s.length
    rw [fn_high (Nat.le_refl _)] at z
    cases z
/-- a row that stands still from n0 on and not before -/
theorem still_long {h : Nat → Int} {n0 : Nat} {c : Int} (hi : ∀ n, n0 ≤ n → h n = c) (lo : n0 = 0 ∨ h (n0 - 1) ≠ c) {v : List V} {q : Nat} {r : Int} (fg : FormG (fun j => .int (h j)) v q r) : n0 + 1 ≤ v.length := by
  obtain ⟨b, F, rfl⟩ := form_b fg
  rw [List.length_map, List.length_range]
  have q0 := F.pos
  have Q1 : MF.QP h 1 0 n0 := fun n hn => by rw [hi n hn, hi (n + 1) (by omega)]; omega
  have r0 : r = 0 := by
    have := MF.form_rise (by decide) Q1 F
    rw [Int.mul_zero] at this
    omega
  subst r0
  rcases lo with rfl | lo
  · omega
  · by_cases c2 : b ≤ n0 - 1 ∧ 0 < n0
    · have := F.qp (n0 - 1) c2.1
      rw [hi (n0 - 1 + q) (by omega)] at this
      omega
    · omega
theorem invn_end {s : List Int} {m : Nat} (m1 : m ≤ 1) (U1 : UpL (FN s)) (ls : s.length ≤ 4000) (big : ∀ j, j < s.length → s.getD j 0 < 2 ^ 50) :
    (s.length = 0 → InvN (FN s) m 1 1 0) ∧ (0 < s.length → InvN (FN s) m (s.getD (s.length - 1) 0 + 2 - m).toNat 1 0) := by
  have top : ∀ n : Nat, Ge (FN s s.length) ((n : Int) + (m : Int)) := fun n => by rw [fn_high (Nat.le_refl _)]; exact ge_non
  have num : ∀ {U : Nat → V}, (∀ n, InvA (FN s) m n (U n)) → ∃ h : Nat → Nat, U = (fun n => .int ((h n : Nat) : Int)) ∧ ∀ n, h n ≤ s.length := fun {U} hU => by
    have ex : ∀ n, ∃ t : Nat, U n = .int t ∧ t ≤ s.length := fun n => by
      rcases hU n with ⟨_, no⟩ | ⟨t, e, _, lo⟩
      · exact absurd (top n) (no _)
      · exact ⟨t, e, Nat.not_lt.mp fun z => lo _ z (top n)⟩
    obtain ⟨h, hh⟩ := Classical.axiomOfChoice ex
    exact ⟨h, funext fun n => (hh n).1, fun n => (hh n).2⟩
  constructor
  · intro z
    refine ⟨by decide, by decide, by decide, by decide, by decide, fun U hU => ?_⟩
    have eU : U = fun _ => V.int 0 := funext fun n => (hU n).uniq (inv_at (t := 0) (by have := top n; rw [z] at this; exact this) fun s hs => absurd hs (Nat.not_lt_zero s))
    subst eU
    refine ⟨fun _ => ⟨in_int (f := fun _ => 0) (n := 1) (by decide) (by decide) (by decide) (by decide) (by decide), row_int (f := fun _ => 0) (by decide) (by decide) (by decide) fun j _ => rfl⟩, fun v q r fg => by have := fg.len; omega, fun n t _ e => ?_⟩
    have := V.int.inj e
    omega
  · intro n1
    obtain ⟨c, ec⟩ : ∃ c, c = s.getD (s.length - 1) 0 := ⟨_, rfl⟩
    have c0 : 0 ≤ c := by
      rcases U1.fl (s.length - 1) with z | ⟨i, e, l⟩
      · rw [fn_low (by omega)] at z; cases z
      · rw [fn_low (by omega)] at e
        rw [ec, V.int.inj e]
        exact l
    have cb := big (s.length - 1) (by omega)
    rw [← ec] at cb ⊢
    refine ⟨by decide, by omega, by decide, by decide, by omega, fun U hU => ?_⟩
    obtain ⟨h, rfl, hl⟩ := num hU
    have lowv : ∀ j, j < s.length → ∃ i : Int, FN s j = .int i ∧ i ≤ c := fun j hj => U1.mo j (s.length - 1) c (by omega) (by rw [fn_low (by omega), ec])
    obtain ⟨n0, en⟩ : ∃ n0, n0 = (c + 1 - m).toNat := ⟨_, rfl⟩
    have hi : ∀ n, n0 ≤ n → ((h n : Nat) : Int) = (s.length : Int) := fun n hn => by
      rcases hU n with ⟨z, _⟩ | ⟨t, e, ge, _⟩
      · cases z
      · have e : ((h n : Nat) : Int) = (t : Int) := V.int.inj e
        have : ¬ h n < s.length := fun z => by
          obtain ⟨i, ei, li⟩ := lowv (h n) z
          rw [show t = h n by omega, ei] at ge
          have := ge_int.mp ge
          omega
        have := hl n
        omega
    have lo : n0 = 0 ∨ ((h (n0 - 1) : Nat) : Int) ≠ (s.length : Int) := by
      by_cases z : n0 = 0
      · exact .inl z
      · right
        rcases hU (n0 - 1) with ⟨z, _⟩ | ⟨t, e, _, lo⟩
        · cases z
        · have e := V.int.inj e
          have : t ≤ s.length - 1 := Nat.not_lt.mp fun y => lo _ y (by rw [fn_low (by omega), ← ec]; exact ge_int.mpr (by omega))
          omega
    refine ⟨fun l4 => ⟨in_int (f := fun n => ((h n : Nat) : Int)) (by decide) (by omega) (by omega) (by decide) (by decide), row_int (f := fun n => ((h n : Nat) : Int)) (by decide) (by omega) (by decide) fun j hj => ?_⟩, fun v q r fg => ?_, fun n t _ e => ?_⟩
    · show ((h (j + 1) : Nat) : Int) = ((h j : Nat) : Int) + 0
      rw [hi j (by omega), hi (j + 1) (by omega)]
      omega
    · have := still_long hi lo fg
      omega
    · have := V.int.inj e
      have := hl n
      omega
theorem invn_flat {f : Nat → Int} {b m : Nat} (m1 : m ≤ 1) (U1 : UpL fun j => .int (f j)) (hf : ∀ j, b ≤ j → f j = f b) (b4 : b ≤ 4000) (big : f b < 2 ^ 50) : InvN (fun j => .int (f j)) m (f b + 2 - m).toNat 1 0 := by
  have mo := U1.mono
  have c0 := U1.nn b
  have le : ∀ j, f j ≤ f b := fun j => by
    rcases Nat.le_total j b with z | z
    · exact mo.le z
    · rw [hf j z]; exact Int.le_refl _
  refine ⟨by decide, by omega, by decide, by decide, by omega, fun U hU => ?_⟩
  obtain ⟨n1, en⟩ : ∃ n1, n1 = (f b + 1 - m).toNat := ⟨_, rfl⟩
  have lowU : ∀ n, n < n1 → ∃ t : Nat, U n = .int t ∧ t ≤ b := fun n hn => by
    have g : Ge (V.int (f b)) ((n : Int) + (m : Int)) := ge_int.mpr (by omega)
    rcases hU n with ⟨_, no⟩ | ⟨t, e, _, lo⟩
    · exact absurd g (no b)
    · exact ⟨t, e, Nat.not_lt.mp fun z => lo b z g⟩
  have hiU : ∀ n, n1 ≤ n → U n = .non := fun n hn => by
    rcases hU n with ⟨e, _⟩ | ⟨t, _, g, _⟩
    · exact e
    · have := ge_int.mp g
      have := le t
      omega
  have lu : ((List.range n1).map fun n => ival2 (U n)).length = n1 := by rw [List.length_map, List.length_range]
  have eU : U = FN ((List.range n1).map fun n => ival2 (U n)) := funext fun n => by
    by_cases c : n < n1
    · obtain ⟨t, e, _⟩ := lowU n c
      rw [fn_low (by rw [lu]; exact c), List.getD_eq_getElem?_getD, List.getElem?_map, List.getElem?_range c, e]
      show _ = V.int (ival2 (U n))
      rw [e]
      try rfl
    · rw [hiU n (by omega), fn_high (by rw [lu]; omega)]
  refine ⟨fun l4 => ?_, fun v q r fg => ?_, fun n t _ e => ?_⟩
  · rw [eU]
    exact ⟨in_non (by rw [lu]; omega) (by omega), row_non (by rw [lu]; omega)⟩
  · rw [eU] at fg
    rw [(fg.uniq (.mkN _)).1, List.length_append, List.length_map, List.length_map, List.length_range]
    show _ ≤ n1 + 1
    omega
  · by_cases c : n < n1
    · obtain ⟨t', e', l⟩ := lowU n c
      rw [e'] at e
      have := V.int.inj e
      omega
    · rw [hiU n (by omega)] at e
      cases e
theorem invn_grow {f : Nat → Int} {q b m : Nat} {r : Int} {irr : Int} (m1 : m ≤ 1) (U1 : UpL fun j => .int (f j)) (F : MF.IsForm f q r b) (r0 : 0 < r) (r1 : r < 2 ^ 30) (q4 : b + q ≤ 4000) (big : irr < 2 ^ 50)
    (e2 : irr = f (b + q - 1) - r ∨ (0 < b ∧ irr = f (b - 1))) (leA : f (b + q - 1) - r ≤ irr) (leB : 0 < b → f (b - 1) ≤ irr) : InvN (fun j => .int (f j)) m ((max 0 (irr + 1 - m)).toNat + r.toNat) r.toNat (q : Int) := by
  have mo := U1.mono
  have q0 := F.pos
  refine ⟨by omega, by omega, by omega, by omega, by omega, fun U hU => ?_⟩
  obtain ⟨h, hh⟩ := Classical.axiomOfChoice fun n => inv_grow q0 r0 F.qp m n
  have eU : U = fun n => .int ((h n : Nat) : Int) := funext fun n => (hU n).uniq (hh n)
  subst eU
  obtain ⟨n0, en⟩ : ∃ n0, n0 = (max 0 (irr + 1 - m)).toNat := ⟨_, rfl⟩
  rw [← en]
  have Q := inv_qp (n0 := n0) mo q0 r0 F.qp hh (by omega) (fun b0 => by have := leB b0; omega)
  refine ⟨fun l4 => ⟨in_int (f := fun n => ((h n : Nat) : Int)) (by omega) (by omega) (by omega) (by omega) (by omega), row_int (f := fun n => ((h n : Nat) : Int)) (by omega) (by omega) (by omega) (by rw [Nat.add_sub_cancel]; exact Q)⟩, fun v q' r' fg => ?_, fun n t n4 e => ?_⟩
  · obtain ⟨b', F', rfl⟩ := form_b fg
    rw [List.length_map, List.length_range]
    refine inv_long mo F r0 hh ?_ Q F'
    by_cases z : irr + 1 - m ≤ 0
    · exact .inl (by omega)
    · exact .inr ⟨irr, by omega, e2, leA, leB⟩
  · have e := V.int.inj e
    have : h n ≤ b + (n + m) * q := (inv_iff mo (hh n) _).mpr (by
      have := F.qp.mul (j := b) (Nat.le_refl _) (n + m)
      have nn := U1.nn b
      have : ((n + m : Nat) : Int) ≤ ((n + m : Nat) : Int) * r := by
        have := Int.mul_le_mul_of_nonneg_left (show 1 ≤ r by omega) (show 0 ≤ ((n + m : Nat) : Int) by omega)
        omega
      omega)
    have : (n + m) * q ≤ 20001 * 4000 := Nat.mul_le_mul (by omega) (by omega)
    omega
end WW
end

section
set_option Elab.async false
set_option linter.all false
set_option maxRecDepth 100000
set_option maxHeartbeats 8000000
namespace WW
open PySem L2 WO WG RZ WQ WT WC
abbrev sLbt : Stmt := top 35
def lessV : V → Int → Bool
  | .int i, k => decide (i < k)
  | _, _ => false
theorem less_ge {x : V} {k : Int} (h : x = .non ∨ ∃ i : Int, x = .int i) : lessV x k = true ↔ ¬ Ge x k := by
  rcases h with rfl | ⟨i, rfl⟩
  · exact ⟨fun z => (by cases z), fun z => absurd ge_non z⟩
  · rw [ge_int]
    show decide (i < k) = true ↔ _
    rw [decide_eq_true_iff]
    omega
/-- a beat behind which nothing changes, if there is one -/
def LastB (L : Nat → V) (last : V) : Prop := (last = .non ∧ ∀ k : Int, ∃ t, Ge (L t) k) ∨ ∃ e : Nat, last = .int e ∧ e ≤ 4000 ∧ ∀ t, e ≤ t → L t = L e
section
variable {P : Program} {w : World} {K : PySem.W.Frag} {mg : Str → Option Value} {base : Heap}
abbrev nIle : List Str := ["one", "number"]
theorem scIle : FnScope nIle ["one", "number"] (defScope sIle) := ⟨rfl, rfl, rfl, by decide +kernel, rfl, by decide +kernel, by decide +kernel⟩
def spIle (K : PySem.W.Frag) : Sp := fun vs H Q _ => ∃ (x : V) (k : Int), vs = [x, .int k] ∧ (x = .non ∨ ∃ i : Int, x = .int i) ∧ Q (.bl (lessV x k)) H
theorem ok_ile {f : Addr} {fd : FuncData} (F : Fun K "is_less" "is_less" sIle f fd) : FnOk P w K mg base CX0 1 f fd ["one", "number"] (spIle K) := by
  refine F.ok scIle (fun vs H Q E h => ?_) (fun cdv A outer s H vs Q E hr h => ?_)
  · obtain ⟨x, k, rfl, _⟩ := h
    rfl
  · obtain ⟨x, k, rfl, hx, kq⟩ := h
    refine ⟨_, (pss_one
 (ps_ret (pe_and (pe_cmpR op_notN (pv 0) pe_non (nomark _)) (pe_one (pe_cmpR op_lt (pv 0) (pv 1) (nomark _)))))), ?_⟩
    rcases hx with rfl | ⟨i, rfl⟩
    · exact ⟨_, rfl, rfl, false, rfl, iteF kq⟩
    · exact ⟨_, rfl, rfl, true, rfl, iteT ⟨_, rfl, _, rfl, _, _, rfl, rfl, kq⟩⟩
abbrev nLbe : List Str := ["curve"]
theorem scLbe : FnScope nLbe ["curve"] (defScope sLbe) := ⟨rfl, rfl, rfl, by decide +kernel, rfl, by decide +kernel, by decide +kernel⟩
def spLbe (K : PySem.W.Frag) (C : Addr) : Sp := fun vs H Q _ => ∃ (x : Addr) (L : Nat → V) (v : List V) (q : Nat) (r : Int), vs = [.ref x] ∧ KcV H C x L v q r ∧ UpL L ∧ ∀ last, LastB L last → Q last H
theorem flat_tail {f : Nat → Int} {b : Nat} (Q : MF.QP f 1 0 b) : ∀ j, b ≤ j → f j = f b := fun j hj => by
  obtain ⟨k, rfl⟩ : ∃ k, j = b + k := ⟨j - b, by omega⟩
  have := Q.mul (j := b) (Nat.le_refl _) k
  rw [Nat.mul_one, Int.mul_zero] at this
  omega
theorem kcv_case {H : Hp} {C x : Addr} {L : Nat → V} {v : List V} {q : Nat} {r : Int} (h : KcV H C x L v q r) : (∃ s : List Int, L = FN s ∧ v = s.map V.int ++ [.non] ∧ q = 1 ∧ r = 0) ∨ ∃ (f : Nat → Int) (b : Nat), L = (fun j => .int (f j)) ∧ MF.IsForm f q r b ∧ v = (List.range (b + q)).map fun j => V.int (f j) := by
  rcases h.2.1.cases' with ⟨f, b, e, hf, ev⟩ | ⟨s, e, e1, e2, e3⟩
  · exact .inr ⟨f, b, funext e, hf, ev⟩
  · exact .inl ⟨s, funext e, e1, e2, e3⟩
theorem last_non {s : List Int} : (s.map V.int ++ [V.non])[(s.map V.int ++ [V.non]).length - 1]? = some .non := by
  rw [List.length_append, List.length_map, List.getElem?_append_right (by rw [List.length_map]; show _ ≤ _ + 1 - 1; omega), List.length_map]
  show ([V.non] : List V)[s.length + 1 - 1 - s.length]? = _
  rw [show s.length + 1 - 1 - s.length = 0 by omega]
  try rfl
theorem last_int {f : Nat → Int} {b q : Nat} (q0 : 0 < q) : ((List.range (b + q)).map fun j => V.int (f j))[((List.range (b + q)).map fun j => V.int (f j)).length - 1]? = some (.int (f (b + q - 1))) := by
  rw [List.length_map, List.length_range, List.getElem?_map, List.getElem?_range (by omega)]
  try rfl
theorem ok_lbe {f fI fE C : Addr} {fd : FuncData} (F : Fun K "last_beat" "last_beat" sLbe f fd) (U : CurT K mg C fI fE)
    (c_has : Cal P w K mg base CX0 1 "has_none" ["curve"] (spHas K C)) (c_fne : Cal P w K mg base CX0 1 "first_none" ["curve"] (spFne K C)) (c_reg : Cal P w K mg base CX0 1 "regular_from" ["curve"] (spRegular K C)) :
    FnOk P w K mg base CX0 2 f fd ["curve"] (spLbe K C) := by
  refine F.ok scLbe (fun vs H Q E h => ?_) (fun cdv A outer s H vs Q E hr h => ?_)
  · obtain ⟨x, L, v, q, r, rfl, _⟩ := h
    rfl
  · obtain ⟨x, L, v, q, r, rfl, kx, up, k⟩ := h
    refine ⟨_, (C8.pss_cut (ps_if (pt_val (pe_callC c_has (hr.mono (by decide)) rfl pass0 (pa_cons (pv 0) pa_nil))) (pss_one
 (ps_ret (pe_callC c_fne (hr.mono (by decide)) rfl pass0 (pa_cons (pv 0) pa_nil)))) pss_nil)
 (pss_one
 (ps_ret (pe_ifExp (pt_cmpR op_eq (pe_fld (pv 0) rfl) pe_int (nomark _)) (pe_callC c_reg (hr.mono (by decide)) rfl pass0 (pa_cons (pv 0) pa_nil)) pe_non)))), ?_⟩
    have lx := kx.2.2.2
    obtain ⟨dx, tx, x1, x2⟩ := id kx.1
    rcases kcv_case kx with ⟨s, rfl, rfl, rfl, rfl⟩ | ⟨f, b, rfl, hf, rfl⟩
    · refine ⟨fun _ _ => False, ⟨_, rfl, x, _, 1, 0, .non, rfl, kx.1, last_non, true, rfl, iteT ⟨_, rfl, x, _, _, _, rfl, kx.1, by rw [ends_len]; omega, ?_⟩⟩, fun _ _ z => z.elim⟩
      rw [ends_len] at lx ⊢
      rw [Nat.add_sub_cancel]
      exact k _ (.inr ⟨s.length, rfl, by omega, fun t ht => by rw [fn_high ht, fn_high (Nat.le_refl _)]⟩)
    · have q0 := hf.pos
      rw [List.length_map, List.length_range] at lx
      refine ⟨fun σ H' => σ = [some (.ref x)] ∧ H' = H, ⟨_, rfl, x, _, q, r, _, rfl, kx.1, last_int q0, false, rfl, iteF ⟨rfl, rfl⟩⟩, ?_⟩
      rintro σ H ⟨rfl, rfl⟩
      refine ⟨_, rfl, x, C, dx, _, .int r, rfl, x1, U.cl, U.nG, rfl, rfl, ?_⟩
      by_cases c : r = 0
      · subst c
        have q1 := kx.2.2.1.gp rfl
        subst q1
        refine ⟨true, rfl, iteT ⟨_, rfl, x, _, 1, 0, rfl, kx.1, by rw [List.length_map, List.length_range]; omega, ?_⟩⟩
        rw [List.length_map, List.length_range, Nat.add_sub_cancel]
        exact k _ (.inr ⟨b, rfl, by omega, fun t ht => by show V.int (f t) = V.int (f b); rw [flat_tail hf.qp t ht]⟩)
      · refine ⟨false, bF (fun z => c (V.int.inj z)), iteF (k _ (.inl ⟨rfl, fun kk => ?_⟩))⟩
        have g0 := kx.2.2.1.g0
        obtain ⟨h, hh⟩ := inv_grow q0 (by omega) hf.qp 0 kk.toNat
        rcases hh with ⟨z, _⟩ | ⟨t, _, ge, _⟩
        · cases z
        · have := ge_int.mp ge
          exact ⟨t, ge_int.mpr (by omega)⟩
abbrev nInf : List Str := ["curve", "more", "end", "begin", "irregular"]
theorem scInf : FnScope nInf ["curve", "more"] (defScope sInf) := ⟨rfl, rfl, rfl, by decide +kernel, rfl, by decide +kernel, by decide +kernel⟩
def spInf (K : PySem.W.Frag) (C : Addr) : Sp := fun vs H Q _ => ∃ (x : Addr) (L : Nat → V) (v : List V) (q : Nat) (r : Int) (m : Nat), vs = [.ref x, .int m] ∧ KcV H C x L v q r ∧ UpL L ∧ m ≤ 1 ∧ ∀ (many per : Nat) (gr : Int) (T : Addr) (H' : Hp), InvN L m many per gr → H' T = some (.tup [.int many, .int per, .int gr]) → Same H H' → Q (.ref T) H'
theorem ok_inf {f fI fE C : Addr} {fd : FuncData} (F : Fun K "inverse_form" "inverse_form" sInf f fd) (U : CurT K mg C fI fE) (nmax : mg "max" = none)
    (c_has : Cal P w K mg base CX0 1 "has_none" ["curve"] (spHas K C)) (c_fne : Cal P w K mg base CX0 1 "first_none" ["curve"] (spFne K C)) (c_reg : Cal P w K mg base CX0 1 "regular_from" ["curve"] (spRegular K C)) :
    FnOk P w K mg base CX0 2 f fd ["curve", "more"] (spInf K C) := by
  refine F.ok scInf (fun vs H Q E h => ?_) (fun cdv A outer s H vs Q E hr h => ?_)
  · obtain ⟨x, L, v, q, r, m, rfl, _⟩ := h
    rfl
  · obtain ⟨x, L, v, q, r, m, rfl, kx, up, m1, k⟩ := h
    refine ⟨_, (C8.pss_cut (ps_if (pt_val (pe_callC c_has (hr.mono (by decide)) rfl pass0 (pa_cons (pv 0) pa_nil))) (C8.pss_cut (ps_set (i := 2) scInf.nd rfl (Or.inl rfl) (pe_callC c_fne (hr.mono (by decide)) rfl pass0 (pa_cons (pv 0) pa_nil)))
 (pss_one
 (ps_ret (pe_tup (pa_cons (pe_ifExp (pt_cmpR op_gt (pv 2) pe_int (nomark _)) (pe_op op_sub (pe_op op_add (pe_ix ix_tup (pe_fld (pv 0) rfl) (pe_op op_sub (pv 2) pe_int) (fun _ _ => rfl)) pe_int) (pv 1)) pe_int) (pa_cons pe_int (pa_cons pe_int pa_nil))))))) pss_nil)
 (C8.pss_cut (ps_if (pt_cmpR op_eq (pe_fld (pv 0) rfl) pe_int (nomark _)) (pss_one
 (ps_ret (pe_tup (pa_cons (pe_op op_sub (pe_op op_add (pe_ix ix_tup (pe_fld (pv 0) rfl) (pe_un un_neg pe_int) (fun _ _ => rfl)) pe_int) (pv 1)) (pa_cons pe_int (pa_cons pe_int pa_nil)))))) pss_nil)
 (C8.pss_cut (ps_set (i := 3) scInf.nd rfl (Or.inl rfl) (pe_callC c_reg (hr.mono (by decide)) rfl pass0 (pa_cons (pv 0) pa_nil)))
 (C8.pss_cut (ps_set (i := 4) scInf.nd rfl (Or.inl rfl) (pe_op op_sub (pe_ix ix_tup (pe_fld (pv 0) rfl) (pe_un un_neg pe_int) (fun _ _ => rfl)) (pe_fld (pv 0) rfl)))
 (C8.pss_cut (ps_if (pt_cmpR op_gt (pv 3) pe_int (nomark _)) (pss_one
 (ps_set (i := 4) scInf.nd rfl (Or.inl rfl) (pe_callB (call_max2 rfl) (by rfl) nmax (by decide +kernel) (pa_cons (pv 4) (pa_cons (pe_ix ix_tup (pe_fld (pv 0) rfl) (pe_op op_sub (pv 3) pe_int) (fun _ _ => rfl)) pa_nil))))) pss_nil)
 (pss_one
 (ps_ret (pe_tup (pa_cons (pe_op op_add (pe_callB (call_max2 rfl) (by rfl) nmax (by decide +kernel) (pa_cons pe_int (pa_cons (pe_op op_sub (pe_op op_add (pv 4) pe_int) (pv 1)) pa_nil))) (pe_fld (pv 0) rfl)) (pa_cons (pe_fld (pv 0) rfl) (pa_cons (pe_fld (pv 0) rfl) pa_nil))))))))))), ?_⟩
    have lx := kx.2.2.2
    have CM := kx.2.2.1
    obtain ⟨dx, tx, x1, x2⟩ := id kx.1
    rcases kcv_case kx with ⟨s, rfl, rfl, rfl, rfl⟩ | ⟨f, b, rfl, hf, rfl⟩
    · rw [ends_len] at lx
      have big : ∀ j, j < s.length → s.getD j 0 < 2 ^ 50 := fun j hj => by
        rw [List.getD_eq_getElem?_getD, List.getElem?_eq_getElem hj]
        exact (CM.bd s[j] (List.mem_append.mpr (.inl (List.mem_map.mpr ⟨_, List.getElem_mem hj, rfl⟩)))).2
      obtain ⟨i1, i2⟩ := invn_end m1 up (by omega) big
      refine ⟨fun _ _ => False, ⟨_, rfl, x, _, 1, 0, .non, rfl, kx.1, last_non, true, rfl, iteT ?_⟩, fun _ _ z => z.elim⟩
      refine ⟨fun σ H' => σ = [some (.ref x), some (.int m), some (.int (s.length : Nat)), none, none] ∧ H' = H, ⟨_, rfl, x, _, _, _, rfl, kx.1, by rw [ends_len]; omega, by rw [ends_len, Nat.add_sub_cancel] <;> rfl, rfl⟩, ?_⟩
      rintro σ H ⟨rfl, rfl⟩
      refine ⟨_, rfl, _, _, rfl, rfl, ?_⟩
      by_cases c : (s.length : Int) > 0
      · obtain ⟨e, ee⟩ : ∃ e, e = s.getD (s.length - 1) 0 := ⟨_, rfl⟩
        have i2 := i2 (by omega)
        rw [← ee] at i2
        have eb := big (s.length - 1) (by omega)
        have e0 : 0 ≤ e := by
          rcases up.fl (s.length - 1) with z | ⟨i, ei, l⟩
          · rw [fn_low (by omega)] at z; cases z
          · rw [fn_low (by omega)] at ei
            rw [ee, V.int.inj ei]
            exact l
        refine ⟨true, bT c, iteT ⟨_, rfl, x, C, dx, _, .ref tx, rfl, x1, U.cl, U.nS, rfl, _, rfl, _, _, rfl, rfl, tx, _, _, .int e, rfl, rfl, SqT.of x2, ?_, _, _, rfl, rfl, _, rfl, _, _, rfl, rfl, (by show 3 ≤ sizeLine; decide), fun T hT => ?_⟩⟩
        · show atI _ ((s.length : Int) - 1) = _
          rw [show (s.length : Int) - 1 = ((s.length - 1 : Nat) : Int) by omega]
          refine atI_nat ?_
          rw [List.getElem?_append_left (by rw [List.length_map]; omega), List.getElem?_map, List.getElem?_eq_getElem (by omega), ee, List.getD_eq_getElem?_getD, List.getElem?_eq_getElem (by omega)]
          try rfl
        · generalize g3 : upd H T _ = H3
          obtain ⟨s3, f3⟩ := alloc g3 hT
          refine k _ 1 0 T H3 i2 ?_ s3
          rw [f3, show (((e + 2 - (m : Int)).toNat : Nat) : Int) = e + 2 - (m : Int) by omega]
          try rfl
      · refine ⟨false, bF c, iteF ⟨(by show 3 ≤ sizeLine; decide), fun T hT => ?_⟩⟩
        generalize g3 : upd H T _ = H3
        obtain ⟨s3, f3⟩ := alloc g3 hT
        exact k 1 1 0 T H3 (i1 (by omega)) f3 s3
    · have q0 := hf.pos
      rw [List.length_map, List.length_range] at lx
      have big : ∀ j, j < b + q → f j < 2 ^ 50 := fun j hj => (CM.bd (f j) (List.mem_map.mpr ⟨j, List.mem_range.mpr hj, rfl⟩)).2
      have nn := fun j => up.nn (f := f) j
      refine ⟨fun σ H' => σ = [some (.ref x), some (.int m), none, none, none] ∧ H' = H, ⟨_, rfl, x, _, q, r, _, rfl, kx.1, last_int q0, false, rfl, iteF ⟨rfl, rfl⟩⟩, ?_⟩
      rintro σ H ⟨rfl, rfl⟩
      have lastv : atI ((List.range (b + q)).map fun j => V.int (f j)) (-1) = some (.int (f (b + q - 1))) := last_get (last_int q0)
      refine ⟨fun σ H' => σ = [some (.ref x), some (.int m), none, none, none] ∧ H' = H ∧ r ≠ 0, ?_, ?_⟩
      · refine ⟨_, rfl, x, C, dx, _, .int r, rfl, x1, U.cl, U.nG, rfl, rfl, ?_⟩
        by_cases c : r = 0
        · subst c
          have q1 := CM.gp rfl
          subst q1
          have i3 := invn_flat m1 up (flat_tail hf.qp) (by omega) (big b (by omega))
          refine ⟨true, rfl, iteT ⟨_, rfl, x, C, dx, _, .ref tx, rfl, x1, U.cl, U.nS, rfl, 1, rfl, tx, _, _, _, rfl, rfl, SqT.of x2, lastv, _, _, rfl, rfl, _, rfl, _, _, rfl, rfl, (by show 3 ≤ sizeLine; decide), fun T hT => ?_⟩⟩
          generalize g3 : upd H T _ = H3
          obtain ⟨s3, f3⟩ := alloc g3 hT
          have b0 := nn b
          refine k _ 1 0 T H3 i3 ?_ s3
          rw [f3, show b + 1 - 1 = b by omega, show (((f b + 2 - (m : Int)).toNat : Nat) : Int) = f b + 2 - (m : Int) by omega]
          try rfl
        · exact ⟨false, bF (fun z => c (V.int.inj z)), iteF ⟨rfl, rfl, c⟩⟩
      rintro σ H ⟨rfl, rfl, rn⟩
      have g0 := CM.g0
      have g1 := CM.g1
      refine ⟨fun σ H' => σ = [some (.ref x), some (.int m), none, some (.int (b : Nat)), none] ∧ H' = H, ⟨_, rfl, x, _, q, r, rfl, kx.1, by rw [List.length_map, List.length_range]; omega, by rw [List.length_map, List.length_range, Nat.add_sub_cancel] <;> rfl, rfl⟩, ?_⟩
      rintro σ H ⟨rfl, rfl⟩
      refine ⟨fun σ H' => σ = [some (.ref x), some (.int m), none, some (.int (b : Nat)), some (.int (f (b + q - 1) - r))] ∧ H' = H, ⟨_, rfl, x, C, dx, _, .ref tx, rfl, x1, U.cl, U.nS, rfl, 1, rfl, tx, _, _, _, rfl, rfl, SqT.of x2, lastv, _, rfl, x, C, dx, _, .int r, rfl, x1, U.cl, U.nG, rfl, _, _, rfl, rfl, rfl, rfl⟩, ?_⟩
      rintro σ H ⟨rfl, rfl⟩
      refine ⟨fun σ H' => ∃ irr : Int, σ = [some (.ref x), some (.int m), none, some (.int (b : Nat)), some (.int irr)] ∧ H' = H ∧ (irr = f (b + q - 1) - r ∨ (0 < b ∧ irr = f (b - 1))) ∧ f (b + q - 1) - r ≤ irr ∧ (0 < b → f (b - 1) ≤ irr), ?_, ?_⟩
      · refine ⟨_, rfl, _, _, rfl, rfl, ?_⟩
        by_cases c : (b : Int) > 0
        · refine ⟨true, bT c, iteT ⟨_, rfl, _, rfl, x, C, dx, _, .ref tx, rfl, x1, U.cl, U.nS, rfl, _, rfl, _, _, rfl, rfl, tx, _, _, .int (f (b - 1)), rfl, rfl, SqT.of x2, ?_, _, _, rfl, max (f (b + q - 1) - r) (f (b - 1)), ?_, rfl, by omega, by omega, fun _ => by omega⟩⟩
          · show atI _ ((b : Int) - 1) = _
            rw [show (b : Int) - 1 = ((b - 1 : Nat) : Int) by omega]
            refine atI_nat ?_
            rw [List.getElem?_map, List.getElem?_range (by omega)]
            try rfl
          · show ([some (.ref x), some (.int m), none, some (.int (b : Nat)), some (.int (if f (b - 1) > f (b + q - 1) - r then f (b - 1) else f (b + q - 1) - r))] : L2.St) = _
            rw [show (if f (b - 1) > f (b + q - 1) - r then f (b - 1) else f (b + q - 1) - r) = max (f (b + q - 1) - r) (f (b - 1)) by split <;> omega]
        · exact ⟨false, bF c, iteF ⟨_, rfl, rfl, .inl rfl, Int.le_refl _, fun z => by omega⟩⟩
      rintro σ H ⟨irr, rfl, rfl, e2, leA, leB⟩
      have ib : irr < 2 ^ 50 := by
        have := big (b + q - 1) (by omega)
        rcases e2 with z | ⟨z0, z⟩
        · omega
        · have := big (b - 1) (by omega)
          omega
      have i4 := invn_grow m1 up hf (by omega) g1 lx ib e2 leA leB
      refine ⟨_, rfl, _, _, rfl, rfl, _, rfl, _, _, rfl, rfl, _, _, rfl, _, rfl, x, C, dx, _, .int r, rfl, x1, U.cl, U.nG, rfl, _, _, rfl, rfl, _, rfl, x, C, dx, _, .int r, rfl, x1, U.cl, U.nG, rfl, _, rfl, x, C, dx, _, .int q, rfl, x1, U.cl, U.nP, rfl, (by show 3 ≤ sizeLine; decide), fun T hT => ?_⟩
      generalize g3 : upd H T _ = H3
      obtain ⟨s3, f3⟩ := alloc g3 hT
      refine k _ _ _ T H3 i4 ?_ s3
      rw [f3, show (((max 0 (irr + 1 - (m : Int))).toNat + r.toNat : Nat) : Int) = (if irr + 1 - (m : Int) > 0 then irr + 1 - (m : Int) else 0) + r by split <;> omega, show ((r.toNat : Nat) : Int) = r by omega]
      try rfl
end
end WW
end

section
set_option Elab.async false
set_option linter.all false
set_option maxRecDepth 100000
set_option maxHeartbeats 8000000
namespace WW
open PySem L2 WO WG RZ WQ WT WC
abbrev sRea : Stmt := top 33
abbrev sPsd : Stmt := top 34
/-- where the search stands ahead of a number -/
def BeatOk (L : Nat → V) (U : Nat → V) (m i : Nat) (last bt : V) : Prop := (bt = .non ∧ ∀ j, i ≤ j → U j = .non) ∨ ∃ t : Nat, bt = .int t ∧ (∀ s, s < t → ¬ Ge (L s) ((i : Int) + (m : Int))) ∧ ∀ e : Nat, last = .int e → t ≤ e
theorem Ge.le {x : V} {k k' : Int} (h : Ge x k) (l : k' ≤ k) : Ge x k' := by
  rcases h with z | ⟨i, e, z⟩
  · exact .inl z
  · exact .inr ⟨i, e, by omega⟩
theorem inv_non {L U : Nat → V} {m : Nat} (hU : ∀ n, InvA L m n (U n)) {i j : Nat} (l : i ≤ j) (e : U i = .non) : U j = .non := by
  rcases hU j with ⟨z, _⟩ | ⟨t, _, ge, _⟩
  · exact z
  · rcases hU i with ⟨_, no⟩ | ⟨t', e', _, _⟩
    · exact absurd (ge.le (by omega)) (no t)
    · rw [e] at e'; cases e'
section
variable {P : Program} {w : World} {K : PySem.W.Frag} {mg : Str → Option Value} {base : Heap}
abbrev nLbt : List Str := ["curve", "more", "many", "period", "growth", "last", "beat", "row", "number"]
theorem scLbt : FnScope nLbt ["curve", "more"] (defScope sLbt) := ⟨rfl, rfl, rfl, by decide +kernel, rfl, by decide +kernel, by decide +kernel⟩
def spLbt (K : PySem.W.Frag) (C CT : Addr) : Sp := fun vs H Q E => ∃ (x : Addr) (L U : Nat → V) (v : List V) (q : Nat) (r : Int) (m : Nat), vs = [.ref x, .int m] ∧ KcV H C x L v q r ∧ UpL L ∧ m ≤ 1 ∧ (∀ n, InvA L m n (U n)) ∧ Hands C CT U H Q E
theorem ok_lbt {f fT C CT : Addr} {fd dT : FuncData} (F : Fun K "least_beats" "least_beats" sLbt f fd) (T : CurG mg) (MM : ∃ t, mg "MOST_MADE" = some (.int 4000 t)) (B_TooMany : ErrT P w K mg base "TooMany" "most" CT fT dT)
    (c_inf : Cal P w K mg base CX0 2 "inverse_form" ["curve", "more"] (spInf K C)) (c_lbe : Cal P w K mg base CX0 2 "last_beat" ["curve"] (spLbe K C)) (c_isl : Cal P w K mg base CX0 1 "is_less" ["one", "number"] (spIle K)) (c_cat : Cal P w K mg base CX0 2 "at" ["curve", "beat"] (spCat K C))
    (c_made : Cal P w K mg base (L2.CX P w) 6 "made" ["row", "period", "growth"] (spMadeC K C CT)) : FnOk P w K mg base (L2.CX P w) 7 f fd ["curve", "more"] (spLbt K C CT) := by
  refine F.okX scLbt (fun vs H Q E h => ?_) (fun cdv A outer s H vs Q E hr h => ?_)
  · obtain ⟨x, L, U, v, q, r, m, rfl, _⟩ := h
    rfl
  · obtain ⟨x, L, U, v, q, r, m, rfl, kx, up, m1, hU, hk⟩ := h
    obtain ⟨tmm, mMOST_MADE⟩ := MM
    refine ⟨_, (C8.pss_cut (ps_asg (pe_callC c_inf (hr.mono (by decide)) rfl pass0 (pa_cons (pv 0) (pa_cons (pv 1) pa_nil))) (pg_tup rfl (pgs_cons (pg_name (i := 2) scLbt.nd rfl (Or.inl rfl)) (pgs_cons (pg_name (i := 3) scLbt.nd rfl (Or.inl rfl)) (pgs_cons (pg_name (i := 4) scLbt.nd rfl (Or.inl rfl)) pgs_nil)))))
 (C8.pss_cut (ps_if (pt_cmpR op_gt (pv 2) (pe_glob (v := .int 4000) rfl mMOST_MADE ⟨_, rfl⟩) (nomark _)) (pss_one
 (ps_raise rfl (takes_of rfl rfl rfl rfl) (pmk_oex B_TooMany.ox B_TooMany.iC B_TooMany.tI B_TooMany.fn (hr.mono (by decide)) B_TooMany.bd .nil pass0 rfl B_TooMany.gC (pa_cons (pe_glob (v := .int 4000) rfl mMOST_MADE ⟨_, rfl⟩) pa_nil)))) pss_nil)
 (C8.pss_cut (ps_set (i := 5) scLbt.nd rfl (Or.inl rfl) (pe_callC c_lbe (hr.mono (by decide)) rfl pass0 (pa_cons (pv 0) pa_nil)))
 (C8.pss_cut (ps_set (i := 6) scLbt.nd rfl (Or.inl rfl) pe_int)
 (C8.pss_cut (ps_set (i := 7) scLbt.nd rfl (Or.inl rfl) (pe_lst pa_nil))
 (C8.pss_cut (ps_for (passes_of rfl) rfl (pi_range1 rfl T.range (pa_cons (pv 2) pa_nil)) (pg_name (i := 8) scLbt.nd rfl (Or.inl rfl)) (C8.pss_cut (ps_while (passes_of rfl) (PW.pt (pw_and (pt_cmpR op_notN (pv 6) pe_non (nomark _)) (pw_and1 (pt_val (pe_callC c_isl (hr.mono (by decide)) rfl pass0 (pa_cons (pe_callC c_cat (hr.mono (by decide)) rfl pass0 (pa_cons (pv 0) (pa_cons (pv 6) pa_nil))) (pa_cons (pe_op op_add (pv 8) (pv 1)) pa_nil))))))) (pss_one
 (ps_set (i := 6) scLbt.nd rfl (Or.inl rfl) (pe_ifExp (pt_cmpR op_eq (pv 6) (pv 5) (nomark _)) pe_non (pe_op op_add (pv 6) pe_int)))))
 (pss_one
 (ps_expr (pe_bm PySem.F.plainAttrs_list PySem.F.slot_list_append PySem.F.type_list_append mt_append (pv 7) (pa_cons (pv 6) pa_nil))))))
 (pss_one
 (ps_ret (pe_callC c_made (hr.mono (by decide)) rfl (passX (E := E) (takes_of rfl rfl rfl rfl) fun _ _ _ _ h => h) (pa_cons (pv 7) (pa_cons (pv 3) (pa_cons (pv 4) pa_nil)))))))))))), ?_⟩
    refine ⟨fun σ H' => ∃ (many per : Nat) (gr : Int), σ = [some (.ref x), some (.int m), some (.int many), some (.int per), some (.int gr), none, none, none, none] ∧ Same H H' ∧ InvN L m many per gr, ?_, ?_⟩
    · exact ⟨_, rfl, _, rfl, x, L, v, q, r, m, rfl, kx, up, m1, fun many per gr T9 H1 iN hT s1 => ⟨T9, _, rfl, SqT.of hT, rfl, _, _, rfl, _, _, rfl, _, _, rfl, rfl, many, per, gr, rfl, s1, iN⟩⟩
    rintro σ H1 ⟨many, per, gr, rfl, s1, iN⟩
    have kx := kx.same s1
    have hk := hk.same s1
    clear s1
    obtain ⟨p0, pm, g0, g4, mb, iU⟩ := iN
    obtain ⟨iF, iL, iS⟩ := iU U hU
    refine ⟨fun σ H' => σ = [some (.ref x), some (.int m), some (.int many), some (.int per), some (.int gr), none, none, none, none] ∧ H' = H1 ∧ many ≤ 4000, ?_, ?_⟩
    · refine ⟨_, rfl, _, _, rfl, rfl, ?_⟩
      by_cases c : (many : Int) > 4000
      · exact ⟨true, bT c, iteT (mkO_post B_TooMany fun d H' rd => hk.2 (fun v p g fg => by have := iL v p g fg; omega) d H' rd)⟩
      · exact ⟨false, bF c, iteF ⟨rfl, rfl, by omega⟩⟩
    rintro σ H1 ⟨rfl, rfl, m4⟩
    obtain ⟨fi, ro⟩ := iF (by omega)
    refine ⟨fun σ H' => ∃ last, σ = [some (.ref x), some (.int m), some (.int many), some (.int per), some (.int gr), some (last), none, none, none] ∧ H' = H1 ∧ LastB L last, ?_, ?_⟩
    · exact ⟨_, rfl, x, L, v, q, r, rfl, kx, up, fun last hl => ⟨last, rfl, rfl, hl⟩⟩
    rintro σ H1 ⟨last, rfl, rfl, hl⟩
    refine ⟨fun σ H' => σ = [some (.ref x), some (.int m), some (.int many), some (.int per), some (.int gr), some (last), some (.int 0), none, none] ∧ H' = H1, ⟨rfl, rfl⟩, ?_⟩
    rintro σ H1 ⟨rfl, rfl⟩
    refine ⟨fun σ H' => ∃ D, σ = [some (.ref x), some (.int m), some (.int many), some (.int per), some (.int gr), some (last), some (.int 0), some (.ref D), none] ∧ H1 D = none ∧ Same H1 H' ∧ H' D = some (.lst []), ?_, ?_⟩
    · exact ⟨(by show 0 ≤ sizeLine; decide), fun D hD => ⟨D, rfl, hD, same_new hD, upd_same⟩⟩
    rintro σ H2 ⟨D, rfl, hD, s2, h2⟩
    have lr : ∀ (n : Nat) (F : Nat → V), ((List.range n).map F).length = n := fun n F => by rw [List.length_map, List.length_range]
    refine ⟨fun σ H' => ∃ bt v8, σ = [some (.ref x), some (.int m), some (.int many), some (.int per), some (.int gr), some (last), some (bt), some (.ref D), v8] ∧ Same H1 H' ∧ H' D = some (.lst ((List.range many).map U)), ?_, ?_⟩
    · refine ⟨_, rfl, (many : Int), rfl, by omega, by omega, for_range (lo := 0) (n := ((many : Nat) : Int).toNat) (fun i σ H' => ∃ bt v8, σ = [some (.ref x), some (.int m), some (.int many), some (.int per), some (.int gr), some (last), some (bt), some (.ref D), v8] ∧ Same H1 H' ∧ H' D = some (.lst ((List.range i).map U)) ∧ BeatOk L U m i last bt) ⟨_, _, rfl, s2, h2, .inr ⟨0, rfl, fun s hs => absurd hs (Nat.not_lt_zero s), fun e _ => Nat.zero_le e⟩⟩ ?_ (fun σ H' ⟨bt, v8, e, s, h, _⟩ => ⟨bt, v8, e, s, by rw [Int.toNat_natCast] at h; exact h⟩)⟩
      clear s2 h2
      rintro i σ H3 hi ⟨bt, v8, rfl, s3, h3, ok⟩
      have hi : i < many := by omega
      rw [Int.zero_add]
      have kx3 := kx.same s3
      obtain ⟨Bd, hBd⟩ : ∃ Bd : Nat, (∀ t : Nat, (∀ s, s < t → ¬ Ge (L s) ((i : Int) + (m : Int))) → (∀ e : Nat, last = .int e → t ≤ e) → t ≤ Bd) ∧ Bd ≤ 4000 ∨ (∃ u, U i = .int u ∧ Bd = u.toNat ∧ last = .non) := by
        rcases hl with ⟨rfl, al⟩ | ⟨e, rfl, e4, _⟩
        · obtain ⟨t, ht⟩ := al ((i : Int) + (m : Int))
          rcases hU i with ⟨_, no⟩ | ⟨u, eu, _, _⟩
          · exact absurd ht (no t)
          · exact ⟨u, .inr ⟨u, eu, rfl, rfl⟩⟩
        · exact ⟨e, .inl ⟨fun t _ h => h e rfl, e4⟩⟩
      have bound : ∀ t : Nat, (∀ s, s < t → ¬ Ge (L s) ((i : Int) + (m : Int))) → (∀ e : Nat, last = .int e → t ≤ e) → t ≤ Bd := by
        rcases hBd with ⟨h, _⟩ | ⟨u, eu, rfl, _⟩
        · exact h
        · intro t ht _
          rcases hU i with ⟨e, _⟩ | ⟨u', eu', ge, _⟩
          · rw [eu] at e; cases e
          · rw [eu] at eu'
            obtain rfl := V.int.inj eu'
            exact Nat.not_lt.mp fun z => ht u' (by omega) ge
      have B8 : Bd ≤ 100000000 := by
        rcases hBd with ⟨_, h⟩ | ⟨u, eu, rfl, _⟩
        · omega
        · rcases hU i with ⟨e, _⟩ | ⟨u', eu', _, _⟩
          · rw [eu] at e; cases e
          · rw [eu] at eu'
            obtain rfl := V.int.inj eu'
            have := iS i u' (by omega) eu
            omega
      refine ⟨fun σ H' => σ = [some (.ref x), some (.int m), some (.int many), some (.int per), some (.int gr), some (last), some (U i), some (.ref D), some (.int i)] ∧ H' = H3 ∧ BeatOk L U m (i + 1) last (U i), ?_, ?_⟩
      · refine while_by (fun σ H' => ∃ bt, σ = [some (.ref x), some (.int m), some (.int many), some (.int per), some (.int gr), some (last), some (bt), some (.ref D), some (.int i)] ∧ H' = H3 ∧ BeatOk L U m i last bt)
          (fun σ _ => match σ with
            | [_, _, _, _, _, _, some (.int t), _, _] => Bd + 1 - t.toNat
            | _ => 0) ⟨bt, rfl, rfl, ok⟩ ?_ ?_
        · rintro σ H4 ⟨bt, rfl, rfl, ok⟩
          rcases ok with ⟨rfl, al⟩ | ⟨t, rfl, lo, te⟩
          · exact ⟨_, rfl, rfl, false, rfl, iteF (iteF ⟨by rw [al i (Nat.le_refl _)], rfl, .inl ⟨al i (Nat.le_refl _), fun j hj => al j (by omega)⟩⟩)⟩
          have tB := bound t lo te
          have flt : L t = .non ∨ ∃ k : Int, L t = .int k := by
            rcases up.fl t with z | ⟨k, z, _⟩
            · exact .inl z
            · exact .inr ⟨k, z⟩
          refine ⟨_, rfl, rfl, true, rfl, iteT ⟨_, rfl, _, rfl, x, v, q, t, r, L, rfl, kx3.1, kx3.2.1.rowF (by have := kx3.2.1.len; have := kx3.2.2.2; omega), by omega, _, rfl, _, rfl, _, _, rfl, rfl, L t, (i : Int) + (m : Int), rfl, flt, ?_⟩⟩
          by_cases g : Ge (L t) ((i : Int) + (m : Int))
          · have nl : lessV (L t) ((i : Int) + (m : Int)) = false := Bool.eq_false_iff.mpr fun z => (less_ge flt).mp z g
            have eU : U i = .int t := (hU i).uniq (inv_at g lo)
            refine ⟨false, by rw [nl], iteF ⟨by rw [eU], rfl, .inr ⟨t, eU, fun s hs gs => lo s hs (gs.le (by omega)), te⟩⟩⟩
          · have nl : lessV (L t) ((i : Int) + (m : Int)) = true := (less_ge flt).mpr g
            have lo2 : ∀ s, s < t + 1 → ¬ Ge (L s) ((i : Int) + (m : Int)) := fun s hs => by
              by_cases z : s = t
              · rw [z]; exact g
              · exact lo s (by omega)
            have sc : scal (.int t) last = true := by
              rcases hl with ⟨rfl, _⟩ | ⟨e, rfl, _⟩ <;> rfl
            refine ⟨true, by rw [nl], iteT ⟨_, rfl, _, rfl, sc, ?_⟩⟩
            by_cases c : V.int (t : Nat) = last
            · refine ⟨true, bT c, iteT ⟨⟨.non, rfl, rfl, .inl ⟨rfl, ?_⟩⟩, ?_⟩⟩
              · rcases hl with ⟨rfl, _⟩ | ⟨e, rfl, _, he⟩
                · cases c
                · have et : t = e := Int.ofNat.inj (V.int.inj c)
                  subst et
                  have u0 : U i = .non := (hU i).uniq (.inl ⟨rfl, fun s gs => by
                    by_cases z : s < t
                    · exact lo s z gs
                    · rw [he s (by omega)] at gs
                      exact g gs⟩)
                  exact fun j hj => inv_non hU hj u0
              · show 0 < Bd + 1 - ((t : Nat) : Int).toNat
                omega
            · have te2 : ∀ e : Nat, last = .int e → t + 1 ≤ e := fun e he => by
                have := te e he
                by_cases z : t = e
                · rw [he, z] at c
                  exact absurd rfl c
                · omega
              have tB2 := bound (t + 1) lo2 te2
              refine ⟨false, bF c, iteF ⟨_, rfl, _, _, rfl, rfl, ⟨.int ((t + 1 : Nat) : Int), ?_, rfl, .inr ⟨t + 1, rfl, lo2, te2⟩⟩, ?_⟩⟩
              · rw [Int.natCast_add]
                try rfl
              · show Bd + 1 - (((t : Nat) : Int) + 1).toNat < Bd + 1 - ((t : Nat) : Int).toNat
                omega
        · intro σ H Q Q' mm h
          obtain ⟨w1, f1, f2, b, eb, hb⟩ := h
          refine ⟨w1, f1, f2, b, eb, ?_⟩
          cases b with
          | false => exact mm _ _ hb
          | true =>
            obtain ⟨v0, y0, v6, y6, z1, z2, z3, z4, z5, z6, z7, c1, c2, c3, v8, y8, v1, y1, i1, j1, z8, z9, z10, z11, z12, fl, b2, eb2, hq⟩ := hb
            exact ⟨v0, y0, v6, y6, z1, z2, z3, z4, z5, z6, z7, c1, c2, c3, v8, y8, v1, y1, i1, j1, z8, z9, z10, z11, z12, fl, b2, eb2, mm _ _ hq⟩
      rintro σ H4 ⟨rfl, rfl, ok⟩
      refine ⟨_, rfl, .inl ⟨rfl, _, SqL.of h3⟩, _, rfl, D, _, _, rfl, rfl, h3, ?_, ⟨_, _, rfl, fun b o e => by rw [upd_ne (ne_of_none e hD)]; exact s3 b o e, ?_, ok⟩⟩
      · rw [lr]
        exact line_lt (by omega)
      · rw [upd_same, List.range_succ, List.map_append, List.map_singleton]
    rintro σ H3 ⟨bt, v8, rfl, s3, h3⟩
    exact ⟨_, rfl, _, rfl, _, rfl, made_hands (K := K) (hk.same s3) h3 fi ro⟩
abbrev nRea : List Str := ["curve"]
theorem scRea : FnScope nRea ["curve"] (defScope sRea) := ⟨rfl, rfl, rfl, by decide +kernel, rfl, by decide +kernel, by decide +kernel⟩
theorem scPsd : FnScope nRea ["curve"] (defScope sPsd) := ⟨rfl, rfl, rfl, by decide +kernel, rfl, by decide +kernel, by decide +kernel⟩
def spRea (K : PySem.W.Frag) (C CB CT : Addr) (m : Nat) : Sp := fun vs H Q E => ∃ x : V, vs = [x] ∧ ((NoCur K H C x ∧ ∀ d H', Raised H "part" .non d H' → E (.ref CB) (some d) H') ∨
  ∃ (a : Addr) (L U : Nat → V) (v : List V) (q : Nat) (r : Int), x = .ref a ∧ KcV H C a L v q r ∧ UpL L ∧ (∀ n, InvA L m n (U n)) ∧ Hands C CT U H Q E)
theorem ok_rea {f C CB CT : Addr} {fd : FuncData} (F : Fun K "reach" "reach" sRea f fd) (c_ncu : Cal P w K mg base (L2.CX P w) 3 "need_curve" ["thing"] (spNeedCur K C CB)) (c_lbt : Cal P w K mg base (L2.CX P w) 7 "least_beats" ["curve", "more"] (spLbt K C CT)) :
    FnOk P w K mg base (L2.CX P w) 8 f fd ["curve"] (spRea K C CB CT 0) := by
  refine F.okX scRea (fun vs H Q E h => ?_) (fun cdv A outer s H vs Q E hr h => ?_)
  · obtain ⟨x, rfl, _⟩ := h
    rfl
  · obtain ⟨x, rfl, h⟩ := h
    refine ⟨_, (C8.pss_cut (ps_expr (pe_callC c_ncu (hr.mono (by decide)) rfl (passX (E := E) (takes_of rfl rfl rfl rfl) fun _ _ _ _ h => h) (pa_cons (pv 0) pa_nil)))
 (pss_one
 (ps_ret (pe_callC c_lbt (hr.mono (by decide)) rfl (passX (E := E) (takes_of rfl rfl rfl rfl) fun _ _ _ _ h => h) (pa_cons (pv 0) (pa_cons pe_int pa_nil)))))), ?_⟩
    rcases h with ⟨no, k⟩ | ⟨a, L, U, v, q, r, rfl, kx, up, hU, hk⟩
    · exact ⟨fun _ _ => False, ⟨_, rfl, x, rfl, .inr ⟨no, k⟩⟩, fun _ _ z => z.elim⟩
    · refine ⟨fun σ H' => σ = [some (.ref a)] ∧ H' = H, ⟨_, rfl, _, rfl, .inl ⟨a, v, q, r, rfl, kx.1, rfl, rfl⟩⟩, ?_⟩
      rintro σ H ⟨rfl, rfl⟩
      exact ⟨_, rfl, a, L, U, v, q, r, 0, rfl, kx, up, by decide, hU, hk⟩
theorem ok_psd {f C CB CT : Addr} {fd : FuncData} (F : Fun K "passed" "passed" sPsd f fd) (c_ncu : Cal P w K mg base (L2.CX P w) 3 "need_curve" ["thing"] (spNeedCur K C CB)) (c_lbt : Cal P w K mg base (L2.CX P w) 7 "least_beats" ["curve", "more"] (spLbt K C CT)) :
    FnOk P w K mg base (L2.CX P w) 8 f fd ["curve"] (spRea K C CB CT 1) := by
  refine F.okX scPsd (fun vs H Q E h => ?_) (fun cdv A outer s H vs Q E hr h => ?_)
  · obtain ⟨x, rfl, _⟩ := h
    rfl
  · obtain ⟨x, rfl, h⟩ := h
    refine ⟨_, (C8.pss_cut (ps_expr (pe_callC c_ncu (hr.mono (by decide)) rfl (passX (E := E) (takes_of rfl rfl rfl rfl) fun _ _ _ _ h => h) (pa_cons (pv 0) pa_nil)))
 (pss_one
 (ps_ret (pe_callC c_lbt (hr.mono (by decide)) rfl (passX (E := E) (takes_of rfl rfl rfl rfl) fun _ _ _ _ h => h) (pa_cons (pv 0) (pa_cons pe_int pa_nil)))))), ?_⟩
    rcases h with ⟨no, k⟩ | ⟨a, L, U, v, q, r, rfl, kx, up, hU, hk⟩
    · exact ⟨fun _ _ => False, ⟨_, rfl, x, rfl, .inr ⟨no, k⟩⟩, fun _ _ z => z.elim⟩
    · refine ⟨fun σ H' => σ = [some (.ref a)] ∧ H' = H, ⟨_, rfl, _, rfl, .inl ⟨a, v, q, r, rfl, kx.1, rfl, rfl⟩⟩, ?_⟩
      rintro σ H ⟨rfl, rfl⟩
      exact ⟨_, rfl, a, L, U, v, q, r, 1, rfl, kx, up, by decide, hU, hk⟩
end
end WW
end

section
set_option Elab.async false
set_option linter.all false
set_option maxRecDepth 100000
set_option maxHeartbeats 4000000
namespace WW
open PySem L2 WO WG RZ WQ WT
section
variable {P : Program} {w : World} {K : PySem.W.Frag} {mg : Str → Option Value} {base : Heap}
abbrev sMade : Stmt := top 66
def spMade (K : PySem.W.Frag) (C : Addr) : Sp := fun vs H Q _ => ∃ (d a : Addr) (xs : List V) (p : Nat) (g : Int), vs = [.ref d] ∧ H d = some (.dK (skKvs a p g)) ∧ H a = some (.lst xs) ∧ MakeOk xs p g ∧
  ∀ (x : Addr) (vals : List V) (q r : Int) (H' : Hp), FormV xs p g vals q r → CurveAt H' C x vals q r → Same H H' → Q (.ref x) H'
theorem scMade : FnScope ["sketch"] ["sketch"] (defScope sMade) := ⟨rfl, rfl, rfl, by decide +kernel, rfl, by decide +kernel, by decide +kernel⟩
theorem ok_made {f fI fE C CB : Addr} {fd dI : FuncData} (F : Fun K "_law_made" "_law_made" sMade f fd) (U : CurT K mg C fI fE)
    (GI : FnOk P w K mg base (L2.CX P w) 4 fI dI ["self", "start", "period", "growth"] (spInit K C CB)) (bI : Binds K dI ["self", "start", "period", "growth"] []) :
    FnOk P w K mg base CX0 6 f fd ["sketch"] (spMade K C) := by
  refine F.ok scMade (fun vs H Q E h => ?_) (fun cdv A outer s H vs Q E hr h => ?_)
  · obtain ⟨d, a, xs, p, g, rfl, _⟩ := h
    rfl
  · obtain ⟨d, a, xs, p, g, rfl, hd, ha, M, k⟩ := h
    have hu := hu_of hr
    refine ⟨_, pss_one (ps_ret (pe_make U.mkC GI hr rfl U.mC bI .nil passF (pa_cons (pe_dget hu (pv 0) pe_str (fun _ _ => rfl)) (pa_cons (pe_dget hu (pv 0) pe_str (fun _ _ => rfl)) (pa_cons (pe_dget hu (pv 0) pe_str (fun _ _ => rfl)) pa_nil))))), ?_⟩
    refine ⟨_, rfl, d, _, rfl, sk_start hd, _, rfl, d, _, rfl, sk_period hd, _, rfl, d, _, rfl, sk_growth hd, fun x dx hx hdx ne => ?_⟩
    generalize g1 : upd H dx _ = H1
    obtain ⟨s1, f1⟩ := alloc g1 hdx
    have hx1 : H1 x = none := by rw [← g1, upd_ne (Ne.symm ne)]; exact hx
    generalize g2 : upd H1 x _ = H2
    obtain ⟨s2, f2⟩ := alloc g2 hx1
    refine ⟨x, dx, _, _, _, rfl, f2, .inl ⟨a, xs, p, g, rfl, rfl, rfl, .inl (SqL.of (s2 _ _ (s1 _ _ ha))), M, fun vals q r H' fv cu kp => ⟨rfl, k x vals q r H' fv cu fun b o e => kp b o (s2 _ _ (s1 _ _ e)) (ne_of_none e hx)⟩⟩⟩
end
end WW
end

section
set_option Elab.async false
set_option linter.all false
set_option maxRecDepth 100000
set_option maxHeartbeats 4000000
namespace WW
open PySem L2 WO WG RZ WQ WT WL WV
open LamX (ExtN Tabs TabS TabB lamS_by)
/-! ### what stays when tables grow -/
theorem ExtN.of_same {H H' : Hp} (s : Same H H') : ExtN H H' := fun b o e _ => s b o e
theorem SqT.extN {K : PySem.W.Frag} {H H' : Hp} {a : Addr} {xs : List V} (h : SqT K H a xs) (e : ExtN H H') : SqT K H' a xs := by
  rcases h with (h | ⟨o, h⟩) | h
  · exact .inl (.inl (e _ _ h fun _ z => by cases z))
  · exact .inl (.inr ⟨o, e _ _ h fun _ z => by cases z⟩)
  · exact .inr h
theorem SqL.extN {K : PySem.W.Frag} {H H' : Hp} {a : Addr} {xs : List V} (h : SqL K H a xs) (e : ExtN H H') : SqL K H' a xs := by
  rcases h with (h | ⟨o, h⟩) | h
  · exact .inl (.inl (e _ _ h fun _ z => by cases z))
  · exact .inl (.inr ⟨o, e _ _ h fun _ z => by cases z⟩)
  · exact .inr h
theorem SeqA.extN {K : PySem.W.Frag} {H H' : Hp} {a : Addr} {xs : List V} (h : SeqA K H a xs) (e : ExtN H H') : SeqA K H' a xs := by
  rcases h with h | h
  · exact .inl (SqL.extN h e)
  · exact .inr (SqT.extN h e)
theorem TyX.extN {K : PySem.W.Frag} {H H' : Hp} {x : V} {t : Value} (h : TyX K H x t) (s : ExtN H H') : TyX K H' x t := by
  cases h with
  | base h =>
    cases h with
    | non => exact .base .non
    | bl b => exact .base (.bl b)
    | int i => exact .base (.int i)
    | str z => exact .base (.str z)
    | flt z => exact .base (.flt z)
    | lst e => exact .base (.lst (s _ _ e fun _ z => by cases z))
    | frz e => exact .base (.frz (s _ _ e fun _ z => by cases z))
    | tup e => exact .base (.tup (s _ _ e fun _ z => by cases z))
    | dK e => exact .base (.dK (s _ _ e fun _ z => by cases z))
    | dT e => exact .base (.dT (s _ _ e fun _ z => by cases z))
    | ins e cl ha hn htk hm => exact .base (.ins (s _ _ e fun _ z => by cases z) cl ha hn htk hm)
  | byt b => exact .byt b
  | set e => exact .set (s _ _ e fun _ z => by cases z)
  | kList e c => exact .kList e c
  | kTuple e c => exact .kTuple e c
  | kDict e c => exact .kDict e c
  | fTuple e => exact .fTuple (s _ _ e fun _ z => by cases z)
  | fDict e => exact .fDict (s _ _ e fun _ z => by cases z)
theorem NumT.extN {K : PySem.W.Frag} {H H' : Hp} {x : V} {b : Bool} (h : NumT K H x b) (s : ExtN H H') : NumT K H' x b := by
  obtain ⟨t, b1, b2, h1, h2⟩ := h
  exact ⟨t, b1, b2, TyX.extN h1 s, h2⟩
theorem ListT.extN {K : PySem.W.Frag} {H H' : Hp} {x : V} {b : Bool} (h : ListT K H x b) (s : ExtN H H') : ListT K H' x b := by
  obtain ⟨t, h1, h2⟩ := h
  exact ⟨t, TyX.extN h1 s, h2⟩
theorem badFrom.extN {K : PySem.W.Frag} {H H' : Hp} {x : V} {lo hi : Int} (h : badFrom K H x lo hi) (s : ExtN H H') : badFrom K H' x lo hi := by
  rcases h with h | h
  · exact .inl (NumT.extN h s)
  · exact .inr h
theorem InitBad.extN {K : PySem.W.Frag} {H H' : Hp} {x p g : V} {part : Str} (h : InitBad K H x p g part) (s : ExtN H H') : InitBad K H' x p g part := by
  cases h with
  | noList h => exact .noList (ListT.extN h s)
  | start e h fl hz no => exact .start e (SeqA.extN h s) fl hz no
  | period e h fl S hp => exact .period e (SeqA.extN h s) fl S (badFrom.extN hp s)
  | growth e h fl S ep p1 p2 p3 hg => exact .growth e (SeqA.extN h s) fl S ep p1 p2 p3 (badFrom.extN hg s)
  | falls e h fl S ep p1 p2 p3 eg g0 g1 ex ey fa => exact .falls e (SeqA.extN h s) fl S ep p1 p2 p3 eg g0 g1 ex ey fa
theorem CurveAt.extN {H H' : Hp} {C x : Addr} {vals : List V} {q r : Int} (h : CurveAt H C x vals q r) (s : ExtN H H') : CurveAt H' C x vals q r := by
  obtain ⟨dx, t, h1, h2⟩ := h
  exact ⟨dx, t, s _ _ h1 (fun _ z => by cases z), s _ _ h2 (fun _ z => by cases z)⟩
theorem DrawAt.extN {H H' : Hp} {d l c : Addr} (D : DrawAt H d l c) (s : ExtN H H') : DrawAt H' d l c := by
  obtain ⟨⟨r, t, h⟩, ⟨la, h2, h3⟩, ⟨ce, h4, h5⟩, h6⟩ := D
  exact ⟨⟨r, t, s _ _ h fun _ z => by cases z⟩, ⟨la, s _ _ h2 (fun _ z => by cases z), h3⟩, ⟨ce, s _ _ h4 (fun _ z => by cases z), h5⟩, h6⟩
theorem Tabs.keepD {T : List (Addr × Str)} {H H' : Hp} {d l c : Addr} (D : DrawAt H d l c) (t : Tabs T H) (k : KeepD H H' d l) : Tabs T H' := fun p hp => by
  obtain ⟨ps, h1, h2, h3⟩ := t p hp
  obtain ⟨⟨r, t, hd⟩, ⟨la, hl, _⟩, _, _⟩ := D
  refine ⟨ps, k _ _ h1 (ne_of h1 hd (by intro z; cases z)) (ne_of h1 hl (by intro z; cases z)), h2, fun pos cv hc => ?_⟩
  obtain ⟨c, e1, e2⟩ := h3 pos cv hc
  exact ⟨c, e1, k _ _ e2 (ne_of e2 hd (by unfold LamX.CodeO; intro z; cases z)) (ne_of e2 hl (by unfold LamX.CodeO; intro z; cases z))⟩
theorem Tabs.same {T : List (Addr × Str)} {H H' : Hp} (t : Tabs T H) (s : Same H H') : Tabs T H' := LamX.Tabs.ext t s
theorem CurveAt.keepD {H H' : Hp} {d l c C x : Addr} {vals : List V} {q r : Int} (h : CurveAt H C x vals q r) (D : DrawAt H d l c) (k : KeepD H H' d l) : CurveAt H' C x vals q r := by
  obtain ⟨dx, t, h1, h2⟩ := h
  obtain ⟨⟨r, t', hd⟩, ⟨la, hl, _⟩, _, _⟩ := D
  exact ⟨dx, t, k _ _ h1 (ne_of h1 hd (by intro z; cases z)) (ne_of h1 hl (by intro z; cases z)), k _ _ h2 (ne_of h2 hd (by intro z; cases z)) (ne_of h2 hl (by intro z; cases z))⟩
theorem NoCur.extN {K : PySem.W.Frag} {H H' : Hp} {C : Addr} {x : V} (h : NoCur K H C x) (s : ExtN H H') : NoCur K H' C x := by
  obtain ⟨t, h1, h2⟩ := h
  exact ⟨t, TyX.extN h1 s, h2⟩
theorem errC_extN {H H' : Hp} {a C : Addr} {f : Str} {y : V} (h : ErrC H a C (some (f, y))) (s : ExtN H H') : ErrC H' a C (some (f, y)) := by
  cases h with
  | with_ h hd => exact .with_ (s _ _ h (fun _ z => by unfold Caught at z; cases z)) (s _ _ hd (fun _ z => by cases z))
theorem tabs_put {T : List (Addr × Str)} {H : Hp} {t : Addr} {xs ys : List V} (h : Tabs T H) (ht : H t = some (.lst xs)) : Tabs T (upd H t (.lst ys)) := fun p hp => by
  obtain ⟨ps, h1, h2, h3⟩ := h p hp
  refine ⟨ps, by rw [upd_ne (ne_of h1 ht (by intro z; cases z))]; exact h1, h2, fun pos cv hc => ?_⟩
  obtain ⟨c, e1, e2⟩ := h3 pos cv hc
  exact ⟨c, e1, by rw [upd_ne (ne_of e2 ht (by unfold LamX.CodeO; intro z; cases z))]; exact e2⟩
theorem skE {H H' : Hp} {d l e a : Addr} {xs : List V} {p : Nat} {g : Int} (h : SkAt H d l e a xs p g) (k : ExtN H H') : SkAt H' d l e a xs p g :=
  ⟨k _ _ h.ob (fun _ z => by cases z), k _ _ h.li (fun _ z => by cases z), h.ed, h.el, h.ad, h.al⟩
/-- an error's class, as the hook reads it -/
structure ErrGf (K : PySem.W.Frag) (W C : Addr) (f : Str) : Prop where
  ask : AskE K C
  ex : PySem.W.exmOne K (.ref C) (.ref W) = some true
  one : PySem.W.kitOne K (.ref C) (.ref C) = some true
  hd : PySem.W.hasDictIn K C = true
  hf : PySem.W.findIn K (.ref C) f = some none
/-- the draw stands, and the tables of code -/
structure DT (T : List (Addr × Str)) (H : Hp) (d l c : Addr) : Prop where
  D : DrawAt H d l c
  T : Tabs T H
section
variable {T : List (Addr × Str)} {H H' : Hp} {d l c : Addr}
theorem DT.same (h : DT T H d l c) (s : Same H H') : DT T H' d l c := ⟨h.D.same s, Tabs.same h.T s⟩
theorem DT.keep (h : DT T H d l c) (D' : DrawAt H' d l c) (k : KeepD H H' d l) : DT T H' d l c := ⟨D', Tabs.keepD h.D h.T k⟩
theorem DT.ext (h : DT T H d l c) (T' : Tabs T H') (x : ExtN H H') : DT T H' d l c := ⟨h.D.extN x, T'⟩
end
theorem IsCur.extN {H H' : Hp} {C x : Addr} {L : Nat → V} (h : IsCur H C x L) (s : ExtN H H') : IsCur H' C x L := by
  obtain ⟨v, q, r, h1, h2⟩ := h
  exact ⟨v, q, r, h1.extN s, h2⟩
theorem IsCur.keepD {H H' : Hp} {d l c C x : Addr} {L : Nat → V} (h : IsCur H C x L) (D : DrawAt H d l c) (k : KeepD H H' d l) : IsCur H' C x L := by
  obtain ⟨v, q, r, h1, h2⟩ := h
  exact ⟨v, q, r, h1.keepD D k, h2⟩
theorem lst_keep {H H' : Hp} {d l c a : Addr} {xs : List V} (h : H a = some (.lst xs)) (D : DrawAt H d l c) (al : a ≠ l) (k : KeepD H H' d l) : H' a = some (.lst xs) := by
  obtain ⟨⟨r', t', hd⟩, _⟩ := D
  exact k _ _ h (ne_of h hd (by intro z; cases z)) al
theorem tup_keep {H H' : Hp} {d l c t : Addr} {xs : List V} (h : H t = some (.tup xs)) (D : DrawAt H d l c) (k : KeepD H H' d l) : H' t = some (.tup xs) := by
  obtain ⟨⟨r', t', hd⟩, ⟨la, hl, _⟩, _⟩ := D
  exact k _ _ h (ne_of h hd (by intro z; cases z)) (ne_of h hl (by intro z; cases z))
/-- x != y of two curves of one function -/
theorem ne_cur {K : PySem.W.Frag} {C : Addr} {E : XK} {H : Hp} {Q : VK} {x y : Addr} {L : Nat → V} (h1 : IsCur H C x L) (h2 : IsCur H C y L) (k : ∀ H', Same H H' → Q (.bl false) H') : rOwN C (spEqC K C) E (.ref x) (.ref y) H Q := by
  obtain ⟨v, q, r, c1, f1⟩ := h1
  obtain ⟨v', q', r', c2, f2⟩ := h2
  obtain ⟨rfl, rfl, rfl⟩ := f1.uniq f2
  obtain ⟨dx, tx, x1, x2⟩ := id c1
  obtain ⟨dy, ty, y1, y2⟩ := id c2
  refine ⟨x, dx, _, y, dy, _, rfl, x1, rfl, y1, x, .ref y, v, q, r, rfl, c1, f1.flat, .inl ⟨y, v, q, r, rfl, c2, f1.flat, fun H8 s8 => ⟨_, rfl, ?_⟩⟩⟩
  rw [decide_eq_true ⟨rfl, rfl, rfl⟩]
  exact k H8 s8
theorem ne_cur2 {K : PySem.W.Frag} {C : Addr} {E : XK} {H : Hp} {Q : VK} {x y : Addr} {L M : Nat → V} (h1 : IsCur H C x L) (h2 : IsCur H C y M) (e : ∀ j, L j = M j) (k : ∀ H', Same H H' → Q (.bl false) H') : rOwN C (spEqC K C) E (.ref x) (.ref y) H Q := by
  have : L = M := funext e
  subst this
  exact ne_cur h1 h2 k
/-- words in other orders -/
def kgR1 {α : Type} : List α → List α → List α
  | [], [a] => [a]
  | _, _ => []
def kgR2 {α : Type} : List α → List α → List α
  | [], [a, b] => [b, a]
  | _, _ => []
def kgR3 {α : Type} : List α → List α → List α
  | [], [a, b, c] => [c, b, a]
  | _, _ => []
abbrev sCaught : Stmt := top 63
theorem scCaught : FnScope nCaught ["work"] (defScope sCaught) := ⟨rfl, rfl, rfl, by decide +kernel, rfl, by decide +kernel, by decide +kernel⟩
end WW
end

section
set_option Elab.async false
set_option linter.all false
set_option maxRecDepth 100000
set_option maxHeartbeats 4000000
/-! lambdas handed on: by a def that was handed them, or by its own calls -/
namespace WY
open PySem PySem.Spec PyProof.Rows L2 LamX WT WV
theorem frs_cons {q : Str} {sc : Scope} {f L : Addr} {cd : Value} {O : List Env} : frs (envOfC q sc L f cd :: O) = L :: frs O := rfl
theorem un_deep {q : Str} {sc : Scope} {f : Addr} {cd : Value} {O : List Env} {H H1 H2 : Hp} {h h1 h2 : Heap} (a : Un (frs O) [] H H1 h h1) (b : Un (frs (envOfC q sc h.objs.size f cd :: O)) [] H1 H2 h1 h2) : Un (frs O) [] H H2 h h2 := by
  have no : ∀ (c : Addr) (o : Obj), h.get? c = some o → c ∉ frs O → c ∉ frs (envOfC q sc h.objs.size f cd :: O) := fun c o e hc hm => by
    rw [frs_cons] at hm
    rcases List.mem_cons.mp hm with z | z
    · exact absurd (z ▸ Heap.lt_size e) (Nat.lt_irrefl _)
    · exact hc z
  exact
  { keep := fun c o e n hc hx => b.keep c o (a.keep c o e n hc hx) (a.free c o e n hx) (no c o e hc) hx
    slot := fun c o e n hc hx => by
      obtain ⟨sl, e1⟩ := a.slot c o e n hc hx
      obtain ⟨sl', e2⟩ := b.slot c _ e1 (a.free c o e n hx) (by rw [frs_cons]; exact List.mem_cons_of_mem _ hc) hx
      exact ⟨sl', e2⟩
    free := fun c o e n hx => by
      obtain ⟨o', e1⟩ := a.there c o e hx
      exact b.free c o' e1 (a.free c o e n hx) hx
    there := fun c o e hx => by
      obtain ⟨o', e1⟩ := a.there c o e hx
      exact b.there c o' e1 hx
    tups := fun c xs e => b.tups c xs (a.tups c xs e)
    frzs := fun c o u e => b.frzs c o u (a.frzs c o u e)
    tbls := fun c ps e => by
      obtain ⟨m1, e1⟩ := a.tbls c ps e
      obtain ⟨m2, e2⟩ := b.tbls c _ e1
      exact ⟨m1 ++ m2, by rw [e2, Array.append_assoc]⟩ }
/-- a lambda's text and closure -/
structure LD where
  q : Str
  pr : Arguments
  bd : Expr
  sc : Scope
  cl : List (Str × Addr)
def LD.at_ (d : LD) (H : Hp) (f c : Addr) : Prop := H f = some (LamO f d.q d.pr d.bd d.sc d.cl c) ∧ H c = some (CodeO c d.q)
theorem LD.at_same {d : LD} {H H' : Hp} {f c : Addr} (h : d.at_ H f c) (s : ∀ b o, H b = some o → H' b = some o) : d.at_ H' f c := ⟨s _ _ h.1, s _ _ h.2⟩
abbrev TL := XK → Hp → VK → Prop
/-- calling the lambda, wherever its maker's frame is as it was at s and H -/
def LamCall (P : Program) (w : World) (K : PySem.W.Frag) (mg : Str → Option Value) (base : Heap) (k : Nat) (d : LD) (tl : TL) (O : List Env) (s : Shared) (H : Hp) : Prop :=
  ∀ (f c' : Addr) (A : Around) (outer : List Env) (s1 : Shared) (H1 : Hp) (E : XK) (Q : VK), Env0 P w K mg base A outer s1 H1 → Un (frs O) [] H H1 s.heap s1.heap → d.at_ H1 f c' → tl E H1 Q → Room (k + 1) A →
    codeAny (model P w) A (.call (.ref f) ⟨[], []⟩) (CR (L2.CX P w) outer P w H1 s1 Q E) s1
section
variable {P : Program} {w : World} {K : PySem.W.Frag} {mg : Str → Option Value} {base : Heap} {k : Nat} {d : LD} {tl : TL} {O : List Env} {s0 : Shared} {H0 : Hp}
theorem LamCall.frame (h : LamCall P w K mg base k d tl O s0 H0) {q : Str} {sg : Scope} {g : Addr} {cd : Value} {s : Shared} {H : Hp} (b : Un (frs O) [] H0 H s0.heap s.heap) : LamCall P w K mg base k d tl (envOfC q sg s0.heap.objs.size g cd :: O) s H :=
  fun f c' A outer s1 H1 E Q e0 u hd ht hr => h f c' A outer s1 H1 E Q e0 (un_deep b u) hd ht hr
end
section
variable {X : Cx} {pins : List (Addr × Obj)} {σ : L2.St} {H : Hp} {s : Shared}
theorem LamCall.of_inv {k : Nat} {pr : Arguments} {bd : Expr} {sc : Scope} {t : XK → TE} (I : Inv X pins σ H s) (L : LamS X.env.scope sc)
    (hbind : ∀ (q : Str) (cl : List (Str × Addr)) (pm cv ctv : Value), bindArgs (PySem.W.kla_fn "<lambda>" q pr bd sc cl pm cv ctv) ⟨[], []⟩ = pure [])
    (hbody : ∀ (A : Around) (outer : List Env) (s : Shared) (H : Hp) (E : XK) (f c' : Addr), Room k (A.deeper (lamEnv X sc s.heap.objs.size f c')) → PE (lamCx X A outer s H E sc f c') bd (t E)) :
    LamCall X.prog X.w X.K X.mg X.base k ⟨X.env.qual ++ "<lambda>", pr, bd, sc, cloFrom X.env.cells sc.names []⟩ (fun E H Q => t E σ H Q) X.stack s H := by
  intro f c' A outer s1 H1 E Q e0 un hd ht hr
  obtain ⟨hf, hc⟩ := hd
  obtain ⟨⟨pm, ctv, of1⟩, _, _⟩ := e0.hok f _ hf
  obtain ⟨⟨oc, vs, t', hoc, hdc, hvc⟩, _, _⟩ := e0.hok c' _ hc
  refine PySem.W.kla_callFunE hr.depth of1 rfl L.co L.gen rfl ⟨c', oc, vs, t', rfl, hoc, hdc, hvc⟩ ?_
  rw [hbind]
  refine wpAny_pure (wpAny_newFunctionEnv (fun y hy => (L.own y hy).2) (fun y hy => absurd hy (by simp)) ?_ L.kind)
  intro h₁ hns hsb
  have nl : s1.heap.NoLimit := e0.mod.nolimit.keeps fun b o e => (e0.bs b o e).1
  refine ⟨nl.fresh _ hsb, ?_⟩
  have kp : ∀ b o, s1.heap.get? b = some o → h₁.get? b = some o := by
    intro b o e
    exact hsb.extBut b o (Nat.ne_of_lt (Heap.lt_size e)) (Heap.get?_push_of_some _ e)
  have J := lam_start2 (E := E) (f := f) (c' := c') (tk := s1.toks + ([] : List (Str × Value)).length) I L e0 hr.hd un hns kp
  refine PySem.W.kla_codeExpr (wpAny_mono ((hbody A outer s1 H1 E f c' (hr.deeper _)).run [] _ _ H1 Q J ht) ?_ fun e s' hq => hq)
  rintro v s' ⟨w', H', J', rv, q⟩
  exact ⟨w', H', J'.os, J'.bare, J'.base, J'.hok, rv, q⟩
/-- what a frame knows of the lambdas that it may be handed -/
def Knows (X : Cx) (k : Nat) {ι : Type} (d : ι → LD) (tl : ι → L2.St → TL) : Prop := ∀ (pins : List (Addr × Obj)) (σ : L2.St) (H : Hp) (s : Shared), Inv X pins σ H s → ∀ j, LamCall X.prog X.w X.K X.mg X.base k (d j) (tl j σ) X.stack s H
theorem Knows.of {CX : CXT} {P : Program} {w : World} {K : PySem.W.Frag} {mg : Str → Option Value} {base : Heap} {k : Nat} {ι : Type} {d : ι → LD} {tl : ι → TL} {O : List Env} {s0 : Shared} {H0 : Hp} {N : List Str} {q : Str} {sg : Scope} {g : Addr} {cd : Value} {A : Around} {E : XK}
    (h : ∀ j, LamCall P w K mg base k (d j) (tl j) O s0 H0) : Knows (cxOf CX P w K mg base N q sg g cd A O s0 H0 E).nox k d (fun j _ => tl j) := fun pins σ H s I j => (h j).frame I.base
variable {ι : Type} {k : Nat} {d : ι → LD} {tl : ι → L2.St → TL}
/-- a(), a lambda that is known -/
theorem pe_actL {i : Nat} {a : Str} {E : XK} {p1 p2 : Pos} (kn : Knows X k d tl) (hr : Room (k + 1) X.A) (hx : Passes (L2.CX X.prog X.w) X E)
    (hN : X.N[i]? = some a) (hv : Vis X.env.scope a) (hd : (a == ("__debug__" : Str)) = false := by decide) (hcd : (a == ("__classdict__" : Str)) = false := by decide) :
    PE X (.Call (.Name a p1) [] [] p2) (fun σZ HZ Q => ∃ j f c', σZ[i]? = some (some (.ref f)) ∧ (d j).at_ HZ f c' ∧ tl j σZ E HZ Q) := by
  refine ⟨fun pinsZ sZ σZ HZ Q IZ h => ?_⟩
  obtain ⟨j, f, c', hs, hf, ht⟩ := h
  refine wpAny_Call_Name_kw (thn ((pe_var (pos := p1) (i := i) hN hv hd hcd).run pinsZ sZ σZ HZ (fun v H1 => v = .ref f ∧ H1 = HZ) IZ ⟨.ref f, hs, rfl, rfl⟩) ?_)
  rintro u s1 ⟨v, H1, I1, r1, rfl, rfl⟩
  obtain rfl : u = Value.ref f := r1
  obtain ⟨⟨pm, ctv, of1⟩, _, _⟩ := I1.hok f _ hf.1
  refine PySem.W.callWith_F0 ⟨_, _, _, _, of1⟩ ?_
  refine wpAny_call (codeAny_mono (kn pinsZ σZ H1 s1 I1 j f c' X.A X.stack s1 H1 E Q I1.env0 Un.refl hf ht hr) ?_)
  intro r s' hq
  cases r with
  | error e => exact hx pinsZ σZ H1 s1 e s' I1 hq
  | ok fl =>
    cases fl with
    | ret u => exact I1.after hq
    | next => exact False.elim hq
    | brk => exact False.elim hq
    | cont => exact False.elim hq
theorem Knows.ofT {CX : CXT} {P : Program} {w : World} {K : PySem.W.Frag} {mg : Str → Option Value} {base : Heap} {k : Nat} {ι : Type} {d : ι → LD} {tl : ι → TL} {O : List Env} {s0 : Shared} {H0 : Hp} {N : List Str} {q : Str} {sg : Scope} {g : Addr} {cd : Value} {A : Around} {E : XK} {pn : List (Addr × Obj)} {xe : Value → Shared → Prop}
    (h : ∀ j, LamCall P w K mg base k (d j) (tl j) O s0 H0) : Knows ((cxOf CX P w K mg base N q sg g cd A O s0 H0 E).tr pn xe) k d (fun j _ => tl j) := fun pins σ H s I j => (h j).frame I.base
theorem Knows.mk1 {X : Cx} {k : Nat} {pr : Arguments} {bd : Expr} {sc : Scope} {t : XK → TE} (L : LamS X.env.scope sc)
    (hbind : ∀ (q : Str) (cl : List (Str × Addr)) (pm cv ctv : Value), bindArgs (PySem.W.kla_fn "<lambda>" q pr bd sc cl pm cv ctv) ⟨[], []⟩ = pure [])
    (hbody : ∀ (A : Around) (outer : List Env) (s : Shared) (H : Hp) (E : XK) (f c' : Addr), Room k (A.deeper (lamEnv X sc s.heap.objs.size f c')) → PE (lamCx X A outer s H E sc f c') bd (t E)) :
    Knows X k (fun _ : Unit => ⟨X.env.qual ++ "<lambda>", pr, bd, sc, cloFrom X.env.cells sc.names []⟩) (fun _ σ E H Q => t E σ H Q) := fun pins σ H s I _ => LamCall.of_inv I L hbind hbody
theorem Knows.or {X : Cx} {k : Nat} {ι κ : Type} {d1 : ι → LD} {d2 : κ → LD} {t1 : ι → L2.St → TL} {t2 : κ → L2.St → TL} (h1 : Knows X k d1 t1) (h2 : Knows X k d2 t2) : Knows X k (fun j : ι ⊕ κ => Sum.elim d1 d2 j) (fun j σ => Sum.elim (fun i => t1 i σ) (fun i => t2 i σ) j) := fun pins σ H s I j => by
  cases j with
  | inl i => exact h1 pins σ H s I i
  | inr i => exact h2 pins σ H s I i
/-- a call whose body is told the caller's frame -/
theorem pe_callI {x : Str} {st : Stmt} {g : Addr} {fd : FuncData} {Ng ps : List Str} {e : Expr} {es : List Expr} {ta : TA} {kk : Nat} {p pos : Pos} {G : L2.St → List V → Hp → VK → Prop} (F : Fun X.K x x st g fd) (Sg : FnScope Ng ps (defScope st)) (hb : L2.Binds X.K fd ps []) (hg : Gl X x) (hm : X.mg x = some (.ref g)) (hr : Room (kk + 1) X.A)
    (hG : ∀ (pins : List (Addr × Obj)) (σ : L2.St) (H : Hp) (s : Shared) (vs : List V) (Q : VK) (cdv : Value), Inv X pins σ H s → G σ vs H Q → vs.length = ps.length ∧ (Room kk (X.A.deeper (envOfC x (defScope st) s.heap.objs.size g cdv)) →
      ∃ t, PSs (cxOf C8.CX0 X.prog X.w X.K X.mg X.base Ng x (defScope st) g cdv X.A X.stack s H C8.E0).nox (defBody st) t ∧ t { nx := fun _ H' => Q .non H', rt := Q } (L2.start Ng vs) H))
    (ha : PA X (e :: es) ta) (hdb : (x == ("__debug__" : Str)) = false := by decide) (he : starEach (e :: es) X.env = (false, eval e X.env) :: starEach es X.env := by rfl) (hpl : (backTo pos (starEach es X.env)).any (·.1) = false := by rfl) :
    PE X (.Call (.Name x p) (e :: es) [] pos) (fun σ H Q => ta σ H fun vs H1 => G σ vs H1 Q) := by
  refine ⟨fun pins s σ H Q I h => ?_⟩
  obtain ⟨oc, od, kV, doc, pm, an, cdv, ct, osl, rfl, lk, hcd⟩ := F.ex
  refine wpAny_Call_Name_kw (ld_glob I hg hm ?_ hdb)
  refine PySem.W.callWith_K (h₀ := X.base) I.ok.mod.kin F.kp (thn (ha.run pos pins s σ H _ I h) ?_) he hpl
  rintro us s1 ⟨vs, H1, I1, r, hq⟩
  refine ⟨I1.kIn, ?_⟩
  obtain ⟨hl, body⟩ := hG pins σ H1 s1 vs Q cdv I1 hq
  have hb1 := hb s1 us I1.kIn (by rw [List.append_nil, ← r.length]; exact hl)
  rw [List.append_nil] at hb1
  have rc : codeAny (model X.prog X.w) X.A (.call (.ref g) ⟨us, []⟩) (CR C8.CX0 X.stack X.prog X.w H1 s1 Q C8.E0) s1 := by
    refine run_ofS (N := Ng) (ps := ps) (us := us) (vs := vs) lk hcd Sg hr I1.env0 hb1 r hl ?_
    intro hr'
    obtain ⟨t', ht', hq'⟩ := body hr'
    exact ⟨t', ht'.nox, hq'⟩
  refine wpAny_call (codeAny_mono rc ?_)
  intro r' s2 hq'
  cases r' with
  | error e => exact (show False from hq').elim
  | ok fl =>
    cases fl with
    | ret u => exact I1.after hq'
    | next => exact False.elim hq'
    | brk => exact False.elim hq'
    | cont => exact False.elim hq'
end
/-- _law_caught, handed a lambda that is known -/
theorem caught_body {P : Program} {w : World} {K : PySem.W.Frag} {mg : Str → Option Value} {base : Heap} {k : Nat} {d : LD} {tl : TL} {O : List Env} {s : Shared} {H : Hp} {A : Around} {sg : Scope} {g W f c' : Addr} {cdg : Value} {Q : VK} {j1 : Nat} {p1 p2 p3 p4 p5 p6 p7 p8 p9 p10 p11 p12 p13 p14 : Pos}
    (hge : sg.names.lookup ("WaitError" : Str) = some .globalImplicit) (hme : mg "WaitError" = some (.ref W)) (hl0 : sg.names.lookup ("work" : Str) = some .local) (hl1 : sg.names.lookup ("caught" : Str) = some .local) (hl2 : sg.names.lookup ("error" : Str) = some .local)
    (hL : LamCall P w K mg base k d tl O s H) (hr : Room (k + 1) (A.deeper (envOfC "_law_caught" sg s.heap.objs.size g cdg))) (hd : d.at_ H f c') (h : TTc K W tl H Q) :
    ∃ t, PSs (cxOf C8.CX0 P w K mg base nCaught "_law_caught" sg g cdg A O s H C8.E0).nox [.Assign [.Name "caught" p1] (.Constant .none j1 p2) p3,
      .Try [.Expr (.Call (.Name "work" p4) [] [] p5) p6] [.ExceptHandler (some (.Name "WaitError" p7)) (some "error") [.Assign [.Name "caught" p8] (.Name "error" p9) p10] p11] [] [] p12,
      .Return (some (.Name "caught" p13)) p14] t ∧ t { nx := fun _ H' => Q .non H', rt := Q } (L2.start nCaught [.ref f]) H := by
  have nd : nCaught.Nodup := by decide +kernel
  refine ⟨_, pss_cons (ps_set (i := 1) nd rfl (Or.inl hl1) pe_non)
    (pss_cons (ps_try_err (X := (cxOf C8.CX0 P w K mg base nCaught "_law_caught" sg g cdg A O s H C8.E0).nox) (c := .ref W) (i := 2)
        (tb := fun W' D σ H => ∃ Ech : XK, (∀ cls d σ' H', Ech cls d H' → W' cls d σ' H') ∧ σ[0]? = some (some (.ref f)) ∧ d.at_ H f c' ∧ tl Ech H (fun _ H' => D.nx σ H'))
        rfl rfl rfl nd rfl hl2 ⟨hge, by decide, .inl hme⟩ (fun W' pn xe tk => ?_) (fun a pn => pss_one (ps_set (i := 1) nd rfl (Or.inl hl1) (pe_var (i := 2) rfl (Or.inl hl2)))))
    (pss_one (ps_ret (pe_var (i := 1) rfl (Or.inl hl1))))), ?_⟩
  · refine ⟨fun pins s' σ H' D I h' => ?_⟩
    obtain ⟨Ech, hW, h1, h0, h3⟩ := h'
    exact (pss_one (ps_expr (pos := p6) (pe_actL (X := (cxOf C8.CX0 P w K mg base nCaught "_law_caught" sg g cdg A O s H C8.E0).nox.tr pn xe) (ι := Unit) (i := 0) (a := "work") (p1 := p4) (p2 := p5) (E := Ech) (Knows.ofT (CX := C8.CX0) (E := C8.E0) fun _ => hL) hr (passes_call tk hW) rfl (Or.inl hl0)))).run pins s' σ H' D I ⟨(), f, c', h1, h0, h3⟩
  · refine ⟨_, fun cls d σ' H' h' => ?_, rfl, hd, h⟩
    obtain ⟨e1, e2⟩ := h'
    refine ⟨e1, fun hl a ha => ?_⟩
    match σ', hl with
    | [x0, x1, x2], _ => exact ⟨.ref a, rfl, .ref a, rfl, e2 a ha⟩
end WY
end

section
set_option Elab.async false
set_option linter.all false
set_option maxRecDepth 100000
set_option maxHeartbeats 8000000
namespace WW
open PySem L2 WO WG RZ WQ WT WC WV WY
abbrev sAli : Stmt := top 72
abbrev sIsd : Stmt := top 75
abbrev sAref : Stmt := top 79
section
variable {P : Program} {w : World} {K : PySem.W.Frag} {mg : Str → Option Value} {base : Heap}
abbrev nAli : List Str := ["found", "due"]
theorem scAli : FnScope nAli ["found", "due"] (defScope sAli) := ⟨rfl, rfl, rfl, by decide +kernel, rfl, by decide +kernel, by decide +kernel⟩
def spAli (K : PySem.W.Frag) : Sp := fun vs H Q _ => ∃ v : V, vs = [v, v] ∧ (v = .non ∨ ∃ u : Nat, v = .int u ∧ u ≤ 1000) ∧ Q (.bl true) H
theorem ok_ali {f : Addr} {fd : FuncData} (F : Fun K "_law_alike" "_law_alike" sAli f fd) (nrepr : mg "repr" = none) : FnOk P w K mg base CX0 1 f fd ["found", "due"] (spAli K) := by
  refine F.ok scAli (fun vs H Q E h => ?_) (fun cdv A outer s H vs Q E hr h => ?_)
  · obtain ⟨v, rfl, _⟩ := h
    rfl
  · obtain ⟨v, rfl, hv, k⟩ := h
    refine ⟨_, (pss_one
 (ps_ret (pe_cmpR op_eq (pe_callB call_reprV (by rfl) nrepr (by decide +kernel) (pa_cons (pv 0) pa_nil)) (pe_callB call_reprV (by rfl) nrepr (by decide +kernel) (pa_cons (pv 1) pa_nil)) (nomark _)))), ?_⟩
    have hv' : v = .non ∨ ∃ i : Int, v = .int i ∧ i.natAbs.log2 < 1920 := by
      rcases hv with h | ⟨u, h, hu⟩
      · exact .inl h
      · refine .inr ⟨_, h, ?_⟩
        have : SmallI (u : Int) := by unfold SmallI; omega
        have := small_log this
        omega
    refine ⟨_, rfl, v, rfl, hv', _, rfl, v, rfl, hv', rfl, ?_⟩
    rw [decide_eq_true rfl]
    exact k
end
/-- _law_caught(e), e a lambda that is known -/
theorem pe_caughtL {X : Cx} {k : Nat} {ι : Type} {d : ι → LD} {tl : ι → L2.St → TL} {g W : Addr} {fd : FuncData} {e : Expr} {ta : TA} {p pos : Pos} (kn : Knows X k d tl) (F : Fun X.K "_law_caught" "_law_caught" sCaught g fd) (hb : L2.Binds X.K fd ["work"] []) (hg : Gl X "_law_caught") (hm : X.mg "_law_caught" = some (.ref g)) (mW : X.mg "WaitError" = some (.ref W)) (hr : Room (k + 2) X.A)
    (ha : PA X [e] ta) (he : starEach [e] X.env = (false, eval e X.env) :: starEach [] X.env := by rfl) (hpl : (backTo pos (starEach [] X.env)).any (·.1) = false := by rfl) :
    PE X (.Call (.Name "_law_caught" p) [e] [] pos) (fun σ H Q => ta σ H fun vs H1 => ∃ j f c', vs = [.ref f] ∧ (d j).at_ H1 f c' ∧ TTc X.K W (tl j σ) H1 Q) :=
  pe_callI (G := fun σ vs H Q => ∃ j f c', vs = [.ref f] ∧ (d j).at_ H f c' ∧ TTc X.K W (tl j σ) H Q) (kk := k + 1) F scCaught hb hg hm hr
    (fun pins σ H s vs Q cdv I ⟨j, f, c', e, hd, h⟩ => ⟨by rw [e] <;> rfl, fun hr' => by
      subst e
      exact caught_body rfl mW rfl rfl rfl (kn pins σ H s I j) hr' hd h⟩) ha (by decide) he hpl
section
variable {P : Program} {w : World} {K : PySem.W.Frag} {mg : Str → Option Value} {base : Heap} {A : Around} {O : List Env} {s : Shared} {H : Hp} {cdv : Value} {g fC W CB CN CT C : Addr} {dC : FuncData} {d : LD} {tl : TL} {f c' : Addr} {Q : VK}
/-- that the lambda raises such an error -/
def Errs (K : PySem.W.Frag) (W E : Addr) (f : Str) (y : V) (tl : TL) (H : Hp) : Prop := ∀ Qc : VK, (∀ ad H', ErrC H' ad E (some (f, y)) → Same H H' → Qc (.ref ad) H') → TTc K W tl H Qc
abbrev nAref : List Str := ["asks", "work", "caught"]
theorem scAref : FnScope nAref ["asks"] (defScope sAref) := ⟨rfl, rfl, rfl, by decide +kernel, rfl, by decide +kernel, by decide +kernel⟩
theorem aref_body {ι : Type} {dd : ι → LD} {tt : ι → TL} {a : Addr} {xs : List V} (hr : Room 10 (A.deeper (PyProof.Rows.envOfC "_law_all_refused" (defScope sAref) s.heap.objs.size g cdv))) (T : CurG mg) (FC : Fun K "_law_caught" "_law_caught" sCaught fC dC) (bC : L2.Binds K dC ["work"] []) (mC : mg "_law_caught" = some (.ref fC)) (mW : mg "WaitError" = some (.ref W)) (EB : ErrGf K W CB "part") (mCB : mg "BadCurve" = some (.ref CB))
    (hL : ∀ j, LamCall P w K mg base 8 (dd j) (tt j) O s H) (ha : H a = some (.lst xs)) (hd : ∀ x ∈ xs, ∃ j f c', x = .ref f ∧ (dd j).at_ H f c') (h : ∀ j H', Same H H' → Errs K W CB "part" .non (tt j) H') (kq : ∀ H', Same H H' → Q (.bl true) H') :
    ∃ t, PSs (cxOf CX0 P w K mg base nAref "_law_all_refused" (defScope sAref) g cdv A O s H C8.E0).nox (defBody sAref) t ∧ t { nx := fun _ H' => Q .non H', rt := Q } (L2.start nAref [.ref a]) H := by
  have kn : Knows (cxOf CX0 P w K mg base nAref "_law_all_refused" (defScope sAref) g cdv A O s H C8.E0).nox 8 dd (fun j _ => tt j) := Knows.of hL
  refine ⟨_, (C8.pss_cut (ps_for PassesOwn.never rfl (pi_list (pv 0)) (pg_name (i := 1) scAref.nd rfl (Or.inl rfl)) (C8.pss_cut (ps_set (i := 2) scAref.nd rfl (Or.inl rfl) (pe_caughtL kn FC bC rfl mC mW hr (pa_cons (pv 1) pa_nil)))
 (pss_one
 (ps_if (PW.pt (pw_or (pt_not (pt_val (pe_callB (r := rIsA K) call_isA (by rfl) T.isi (by decide +kernel) (pa_cons (pv 2) (pa_cons (pe_glob (v := .ref CB) rfl mCB rfl) pa_nil))))) (pw_or1 (pt_cmpR op_notN (pe_ctF (pv 2)) pe_non (nomark _))))) (pss_one
 (ps_ret pe_bl)) pss_nil))))
 (pss_one
 (ps_ret pe_bl))), ?_⟩
  refine ⟨fun σ H' => Same H H', ?_, fun σ H' s' => kq H' s'⟩
  refine ⟨_, rfl, a, rfl, ⟨_, SqL.of ha⟩, for_list (K := K) (a := a) (xs := xs) (fun i σ H' => ∃ w1 w2, σ = [some (.ref a), w1, w2] ∧ Same H H') ⟨_, _, rfl, Same.refl _⟩ (fun i σ H' _ ⟨_, _, _, s'⟩ => SqL.of (s' _ _ ha)) ?_ fun σ H' ⟨_, _, _, s'⟩ => s'⟩
  rintro i v σ H1 hv ⟨w1, w2, rfl, s1⟩
  obtain ⟨j, f, c', rfl, hd⟩ := hd v (List.mem_of_getElem? hv)
  refine ⟨fun σ H' => ∃ ad, σ = [some (.ref a), some (.ref f), some (.ref ad)] ∧ ErrC H' ad CB (some ("part", .non)) ∧ Same H H', ?_, ?_⟩
  · exact ⟨_, rfl, j, f, c', rfl, LD.at_same hd s1, h j H1 s1 _ fun ad H' er s' => ⟨ad, rfl, er, Same.trans s1 s'⟩⟩
  rintro σ H2 ⟨ad, rfl, er, s2⟩
  refine ⟨_, rfl, .inl ⟨ad, CB, some ("part", .non), .ref CB, .ref CB, true, rfl, er, .own _, EB.ask, EB.one, true, rfl, iteF ⟨_, rfl, ad, CB, .non, rfl, er, EB.ask, EB.hd, EB.hf, rfl, _, rfl, ?_⟩⟩⟩
  exact iteF ⟨_, _, rfl, s2⟩
abbrev nIsd : List Str := ["work", "due", "caught"]
theorem scIsd : FnScope nIsd ["work", "due"] (defScope sIsd) := ⟨rfl, rfl, rfl, by decide +kernel, rfl, by decide +kernel, by decide +kernel⟩
/-- that the lambda tells a curve -/
def Tells (K : PySem.W.Frag) (W C : Addr) (U : Nat → V) (tl : TL) (H : Hp) : Prop := (∀ Qc : VK, (∀ x H', Same H H' → Qc x H') → tl (fun cls d H' => PySem.W.exmOne K cls (.ref W) = some true ∧ ∀ a, H' a = none → Qc (.ref a) (upd H' a (Caught cls d a))) H Qc) ∧ ∀ Qc : VK, (∀ xa H', IsCur H' C xa U → Same H H' → Qc (.ref xa) H') → tl C8.E0 H Qc
theorem isd_body {y : V} (hr : Room 10 (A.deeper (PyProof.Rows.envOfC "_law_is_due" (defScope sIsd) s.heap.objs.size g cdv))) (hgu : (A.deeper (PyProof.Rows.envOfC "_law_is_due" (defScope sIsd) s.heap.objs.size g cdv)).guards = some []) (T : CurG mg) (FC : Fun K "_law_caught" "_law_caught" sCaught fC dC) (bC : L2.Binds K dC ["work"] []) (mC : mg "_law_caught" = some (.ref fC)) (mW : mg "WaitError" = some (.ref W)) (ET : ErrGf K W CT "most") (mCT : mg "TooMany" = some (.ref CT))
    (c_isc : CalG P w K mg base CX0 2 "_law_is_curve" nIsCur (spIsCur K C))
    (hL : LamCall P w K mg base 8 d tl O s H) (hd : d.at_ H f c') (kq : ∀ H', Same H H' → Q (.bl true) H')
    (h : (y = .non ∧ Errs K W CT "most" (.int 4000) tl H) ∨ (∃ (T9 b : Addr) (m p1 : Nat) (g1 : Int) (U : Nat → V), y = .ref T9 ∧ DueAt H T9 b m p1 g1 U ∧ (∀ Qc : VK, (∀ H', Same H H' → Qc .non H') → TTc K W tl H Qc) ∧ ∀ H', Same H H' → ∀ Qc : VK, (∀ xa H'', IsCur H'' C xa U → Same H' H'' → Qc (.ref xa) H'') → tl C8.E0 H' Qc)) :
    ∃ t, PSs (cxOf CX0 P w K mg base nIsd "_law_is_due" (defScope sIsd) g cdv A O s H C8.E0).nox (defBody sIsd) t ∧ t { nx := fun _ H' => Q .non H', rt := Q } (L2.start nIsd [.ref f, y]) H := by
  have kn : Knows (cxOf CX0 P w K mg base nIsd "_law_is_due" (defScope sIsd) g cdv A O s H C8.E0).nox 8 (fun _ : Unit => d) (fun _ _ => tl) := Knows.of fun _ => hL
  refine ⟨_, (C8.pss_cut (ps_set (i := 2) scIsd.nd rfl (Or.inl rfl) (pe_caughtL kn FC bC rfl mC mW hr (pa_cons (pv 0) pa_nil)))
 (C8.pss_cut (ps_if (pt_cmpR op_isN (pv 1) pe_non (nomark _)) (pss_one
 (ps_ret (pe_and (pe_callB (r := rIsA K) call_isA (by rfl) T.isi (by decide +kernel) (pa_cons (pv 2) (pa_cons (pe_glob (v := .ref CT) rfl mCT rfl) pa_nil))) (pe_one (pe_cmpR op_eq (pe_ctF (pv 2)) pe_int (nomark _)))))) pss_nil)
 (pss_one
 (ps_ret (pe_and (pe_cmpR op_isN (pv 2) pe_non (nomark _)) (pe_one (pe_callCG c_isc hgu (hr.mono (by decide)) rfl pass0 (pa_cons (WY.pe_actL (i := 0) kn (hr.mono (by decide)) passF rfl (Or.inl rfl)) (pa_cons (pe_ix ix_tup (pv 1) pe_int (fun _ _ => rfl)) (pa_cons (pe_ix ix_tup (pv 1) pe_int (fun _ _ => rfl)) (pa_cons (pe_ix ix_tup (pv 1) pe_int (fun _ _ => rfl)) pa_nil))))))))))), ?_⟩
  rcases h with ⟨rfl, h⟩ | ⟨T9, b, m, p1, g1, U, rfl, D, h1, h2⟩
  · refine ⟨fun σ H' => ∃ ad, σ = [some (.ref f), some .non, some (.ref ad)] ∧ ErrC H' ad CT (some ("most", .int 4000)) ∧ Same H H', ?_, ?_⟩
    · exact ⟨_, rfl, (), f, c', rfl, hd, h _ fun ad H' er s' => ⟨ad, rfl, er, s'⟩⟩
    rintro σ H1 ⟨ad, rfl, er, s1⟩
    refine ⟨fun _ _ => False, ?_, fun _ _ z => z.elim⟩
    refine ⟨_, rfl, rfl, true, rfl, iteT ⟨_, rfl, .inl ⟨ad, CT, some ("most", .int 4000), .ref CT, .ref CT, true, rfl, er, .own _, ET.ask, ET.one, true, rfl, ?_⟩⟩⟩
    refine iteT ⟨_, rfl, ad, CT, .int 4000, rfl, er, ET.ask, ET.hd, ET.hf, rfl, ?_⟩
    rw [decide_eq_true rfl]
    exact kq H1 s1
  · refine ⟨fun σ H' => σ = [some (.ref f), some (.ref T9), some .non] ∧ Same H H', ?_, ?_⟩
    · exact ⟨_, rfl, (), f, c', rfl, hd, h1 _ fun H' s' => ⟨rfl, s'⟩⟩
    rintro σ H1 ⟨rfl, s1⟩
    refine ⟨fun σ H' => σ = [some (.ref f), some (.ref T9), some .non] ∧ H' = H1, ⟨_, rfl, rfl, false, rfl, iteF ⟨rfl, rfl⟩⟩, ?_⟩
    rintro σ H1 ⟨rfl, rfl⟩
    refine ⟨_, rfl, rfl, true, rfl, iteT ⟨(), f, c', rfl, LD.at_same hd s1, h2 H1 s1 _ fun xa H2 cu s2 => ?_⟩⟩
    have D2 := D.same (Same.trans s1 s2)
    refine ⟨_, rfl, T9, _, _, .ref b, rfl, rfl, SqT.of D2.tu, rfl, _, rfl, T9, _, _, .int p1, rfl, rfl, SqT.of D2.tu, rfl, _, rfl, T9, _, _, .int g1, rfl, rfl, SqT.of D2.tu, rfl, ?_⟩
    exact ⟨xa, b, _, p1, g1, U, rfl, cu, D2.li, D2.fi, D2.row, fun j hj => D2.sm j (by rw [List.length_map, List.length_range] at hj; exact hj), fun H3 s3 => kq H3 (Same.trans s1 (Same.trans s2 s3))⟩
end
end WW
end

section
set_option Elab.async false
set_option linter.all false
set_option maxRecDepth 100000
set_option maxHeartbeats 8000000
namespace WW
open PySem L2 WO WG RZ WQ WT WC WV WY
variable {X : Cx} {ι : Type} {d : ι → LD} {tl : ι → L2.St → TL} {g fC W CB CN CT C : Addr} {fd dC : FuncData} {p pos : Pos} {ta : TA} {e1 e2 : Expr}
/-- what _law_is_due is handed -/
def DueSay (K : PySem.W.Frag) (W C CT : Addr) (tl : TL) (y : V) (H : Hp) : Prop := (y = .non ∧ Errs K W CT "most" (.int 4000) tl H) ∨ (∃ (T9 b : Addr) (m p1 : Nat) (g1 : Int) (U : Nat → V), y = .ref T9 ∧ DueAt H T9 b m p1 g1 U ∧ (∀ Qc : VK, (∀ H', Same H H' → Qc .non H') → TTc K W tl H Qc) ∧ ∀ H', Same H H' → ∀ Qc : VK, (∀ xa H'', IsCur H'' C xa U → Same H' H'' → Qc (.ref xa) H'') → tl C8.E0 H' Qc)
theorem pe_dueL (kn : Knows X 8 d tl) (F : Fun X.K "_law_is_due" "_law_is_due" sIsd g fd) (hb : L2.Binds X.K fd ["work", "due"] []) (hg : Gl X "_law_is_due") (hm : X.mg "_law_is_due" = some (.ref g)) (hr : Room 11 X.A) (hgu : X.A.guards = some [])
    (T : CurG X.mg) (FC : Fun X.K "_law_caught" "_law_caught" sCaught fC dC) (bC : L2.Binds X.K dC ["work"] []) (mC : X.mg "_law_caught" = some (.ref fC)) (mW : X.mg "WaitError" = some (.ref W)) (ET : ErrGf X.K W CT "most") (mCT : X.mg "TooMany" = some (.ref CT))
    (c_isc : CalG X.prog X.w X.K X.mg X.base CX0 2 "_law_is_curve" nIsCur (spIsCur X.K C))
    (ha : PA X [e1, e2] ta) (he : starEach [e1, e2] X.env = (false, eval e1 X.env) :: starEach [e2] X.env := by rfl) (hpl : (backTo pos (starEach [e2] X.env)).any (·.1) = false := by rfl) :
    PE X (.Call (.Name "_law_is_due" p) [e1, e2] [] pos) (fun σ H Q => ta σ H fun vs H1 => ∃ j f c' y, vs = [.ref f, y] ∧ (d j).at_ H1 f c' ∧ DueSay X.K W C CT (tl j σ) y H1 ∧ ∀ H', Same H1 H' → Q (.bl true) H') :=
  pe_callI (G := fun σ vs H1 Q => ∃ j f c' y, vs = [.ref f, y] ∧ (d j).at_ H1 f c' ∧ DueSay X.K W C CT (tl j σ) y H1 ∧ ∀ H', Same H1 H' → Q (.bl true) H') (kk := 10) F scIsd hb hg hm hr
    (fun pins σ H s vs Q cdv I ⟨j, f, c', y, e, hd, h, kq⟩ => ⟨by rw [e] <;> rfl, fun hr' => by
      subst e
      exact isd_body hr' hgu T FC bC mC mW ET mCT c_isc (kn pins σ H s I j) hd kq h⟩) ha (by decide) he hpl
theorem pe_arefL (kn : Knows X 8 d tl) (F : Fun X.K "_law_all_refused" "_law_all_refused" sAref g fd) (hb : L2.Binds X.K fd ["asks"] []) (hg : Gl X "_law_all_refused") (hm : X.mg "_law_all_refused" = some (.ref g)) (hr : Room 11 X.A)
    (T : CurG X.mg) (FC : Fun X.K "_law_caught" "_law_caught" sCaught fC dC) (bC : L2.Binds X.K dC ["work"] []) (mC : X.mg "_law_caught" = some (.ref fC)) (mW : X.mg "WaitError" = some (.ref W)) (EB : ErrGf X.K W CB "part") (mCB : X.mg "BadCurve" = some (.ref CB))
    (ha : PA X [e1] ta) (he : starEach [e1] X.env = (false, eval e1 X.env) :: starEach [] X.env := by rfl) (hpl : (backTo pos (starEach [] X.env)).any (·.1) = false := by rfl) :
    PE X (.Call (.Name "_law_all_refused" p) [e1] [] pos) (fun σ H Q => ta σ H fun vs H1 => ∃ a xs, vs = [.ref a] ∧ H1 a = some (.lst xs) ∧ (∀ x ∈ xs, ∃ j f c', x = .ref f ∧ (d j).at_ H1 f c') ∧ (∀ j H', Same H1 H' → Errs X.K W CB "part" .non (tl j σ) H') ∧ ∀ H', Same H1 H' → Q (.bl true) H') :=
  pe_callI (G := fun σ vs H1 Q => ∃ a xs, vs = [.ref a] ∧ H1 a = some (.lst xs) ∧ (∀ x ∈ xs, ∃ j f c', x = .ref f ∧ (d j).at_ H1 f c') ∧ (∀ j H', Same H1 H' → Errs X.K W CB "part" .non (tl j σ) H') ∧ ∀ H', Same H1 H' → Q (.bl true) H') (kk := 10) F scAref hb hg hm hr
    (fun pins σ H s vs Q cdv I ⟨a, xs, e, ha, hd, h, kq⟩ => ⟨by rw [e] <;> rfl, fun hr' => by
      subst e
      exact aref_body (tt := fun j => tl j σ) hr' T FC bC mC mW EB mCB (kn pins σ H s I) ha hd h kq⟩) ha (by decide) he hpl
end WW
end

section
set_option Elab.async false
set_option linter.all false
set_option maxRecDepth 100000
set_option maxHeartbeats 8000000
namespace WW
open PySem L2 WO WG RZ WQ WT WC
abbrev sLeast : Stmt := top 69
abbrev sPla : Stmt := top 80
/-- the least place of a row with at least k -/
def PlA (F : Nat → V) (n : Nat) (k : Int) (lv x : V) : Prop := (x = lv ∧ ∀ t, t < n → ¬ Ge (F t) k) ∨ ∃ t : Nat, t < n ∧ x = .int t ∧ Ge (F t) k ∧ ∀ s, s < t → ¬ Ge (F s) k
theorem PlA.uniq {F : Nat → V} {n : Nat} {k : Int} {lv x y : V} (h : PlA F n k lv x) (h' : PlA F n k lv y) : x = y := by
  rcases h with ⟨rfl, h⟩ | ⟨t, l, rfl, a, lo⟩ <;> rcases h' with ⟨rfl, h'⟩ | ⟨t', l', rfl, a', lo'⟩
  · rfl
  · exact absurd a' (h _ l')
  · exact absurd a (h' _ l)
  · have a1 : ¬ t < t' := fun l => lo' t l a
    have a2 : ¬ t' < t := fun l => lo t' l a'
    have : t = t' := by omega
    rw [this]
theorem pla_ex (F : Nat → V) (n : Nat) (k : Int) (lv : V) : ∃ x, PlA F n k lv x := by
  by_cases c : ∃ t, t < n ∧ Ge (F t) k
  · obtain ⟨t, l, ht⟩ := c
    have dec : DecidablePred fun t => Ge (F t) k := fun _ => Classical.propDecidable _
    obtain ⟨u, hu, a, lo⟩ := MF.least_below (P := fun t => Ge (F t) k) (n := n) ⟨t, l, ht⟩
    exact ⟨.int u, .inr ⟨u, hu, rfl, a, lo⟩⟩
  · exact ⟨lv, .inl ⟨rfl, fun t l ht => c ⟨t, l, ht⟩⟩⟩
/-- over a row that is long enough it is the inverse -/
theorem PlA.inv {L : Nat → V} {m i n : Nat} {k : Int} {lv x u : V} (h : PlA L n k lv x) (hu : InvA L m i u) (e : k = (i : Int) + (m : Int)) (far : (∀ t, t < n → ¬ Ge (L t) k) → u = lv) : x = u := by
  subst e
  rcases h with ⟨rfl, h⟩ | ⟨t, l, rfl, a, lo⟩
  · exact (far h).symm
  · exact (hu.uniq (.inr ⟨t, rfl, a, lo⟩)).symm
/-- the numbers among some values -/
def numsV (v : List V) : List V := v.filter fun x => !decide (x = .non)
theorem numsV_int {α : Type} (f : α → Int) (l : List α) : numsV (l.map fun j => V.int (f j)) = l.map fun j => V.int (f j) := by
  unfold numsV
  rw [List.filter_eq_self]
  intro x hx
  obtain ⟨j, _, rfl⟩ := List.mem_map.mp hx
  rfl
theorem numsV_end (s : List Int) : numsV (s.map V.int ++ [.non]) = s.map V.int := by
  have := numsV_int (fun i : Int => i) s
  unfold numsV at this ⊢
  rw [List.filter_append, this]
  exact List.append_nil _
theorem numsV_at (v : List V) : ((List.range v.length).filter fun i => !decide (v.getD i .non = .non)).map (fun i => v.getD i .non) = numsV v := by
  have e : (List.range v.length).map (fun i => v.getD i .non) = v := by
    apply List.ext_getElem
    · simp
    · intro i h1 h2
      simp at h1
      rw [List.getElem_map, List.getElem_range, List.getD_eq_getElem?_getD, List.getElem?_eq_getElem h2]
      try rfl
  unfold numsV
  conv => rhs; rw [← e, List.filter_map]
  congr 1
section
variable {P : Program} {w : World} {K : PySem.W.Frag} {mg : Str → Option Value} {base : Heap}
def spLeast (K : PySem.W.Frag) : Sp := fun vs H Q _ => ∃ (x : V) (k : Int), vs = [.int k, x] ∧ (x = .non ∨ ∃ i : Int, x = .int i) ∧ (Ge x k → Q (.bl true) H) ∧ (¬ Ge x k → Q (.bl false) H)
theorem scLeast : FnScope ["one", "other"] ["one", "other"] (defScope sLeast) := ⟨rfl, rfl, rfl, by decide +kernel, rfl, by decide +kernel, by decide +kernel⟩
theorem ok_least {f : Addr} {fd : FuncData} (F : Fun K "_law_is_least" "_law_is_least" sLeast f fd) : FnOk P w K mg base CX0 1 f fd ["one", "other"] (spLeast K) := by
  refine F.ok scLeast (fun vs H Q E h => ?_) (fun cdv A outer s H vs Q E hr h => ?_)
  · obtain ⟨x, k, rfl, _⟩ := h
    rfl
  · obtain ⟨x, k, rfl, h, k1, k2⟩ := h
    refine ⟨_, pss_one (ps_ret (pe_or (pe_cmpR op_isN (pv 1) pe_non (nomark _)) (pe_one (pe_and (pe_cmpR op_notN (pv 0) pe_non (nomark _)) (pe_one (pe_cmpR op_le (pv 0) (pv 1) (nomark _))))))), ?_⟩
    rcases h with rfl | ⟨i, rfl⟩
    · exact ⟨_, rfl, rfl, true, rfl, iteT (k1 ge_non)⟩
    · refine ⟨_, rfl, rfl, false, rfl, iteF ⟨_, rfl, rfl, true, rfl, iteT ⟨_, rfl, _, rfl, _, _, rfl, rfl, ?_⟩⟩⟩
      by_cases c : k ≤ i
      · have := k1 (ge_int.mpr c)
        show Q (.bl (decide (k ≤ i))) H
        rw [show decide (k ≤ i) = true from decide_eq_true c]
        exact this
      · have := k2 (fun z => c (ge_int.mp z))
        show Q (.bl (decide (k ≤ i))) H
        rw [show decide (k ≤ i) = false from decide_eq_false c]
        exact this
abbrev nPla : List Str := ["row", "first", "size", "last", "found", "place", "number", "lap"]
theorem scPla : FnScope nPla ["row", "first", "size", "last"] (defScope sPla) := ⟨rfl, rfl, rfl, by decide +kernel, rfl, by decide +kernel, by decide +kernel⟩
def spPla (K : PySem.W.Frag) : Sp := fun vs H Q _ => ∃ (a : Addr) (F X : Nat → V) (n size : Nat) (first : Int) (lv : V), vs = [.ref a, .int first, .int size, lv] ∧ H a = some (.lst ((List.range n).map F)) ∧ (∀ j, j < n → F j = .non ∨ ∃ i : Int, F j = .int i) ∧ n ≤ 5000 ∧ size ≤ 20000 ∧ 0 ≤ first ∧ first ≤ 100000 ∧ (∀ i, i < size → PlA F n (first + (i : Int)) lv (X i)) ∧
  ∀ D H', H' D = some (.lst ((List.range size).map X)) → Same H H' → Q (.ref D) H'
theorem ok_pla {f : Addr} {fd : FuncData} (F : Fun K "_law_places" "_law_places" sPla f fd) (T : CurG mg) (c_lea : Cal P w K mg base CX0 1 "_law_is_least" ["one", "other"] (spLeast K)) : FnOk P w K mg base CX0 2 f fd ["row", "first", "size", "last"] (spPla K) := by
  refine F.ok scPla (fun vs H Q E h => ?_) (fun cdv A outer s H vs Q E hr h => ?_)
  · obtain ⟨a, F, X, n, size, first, lv, rfl, _⟩ := h
    rfl
  · obtain ⟨a, F, X, n, size, first, lv, rfl, ha, hF, hn, hs, fi0, fi1, hX, k⟩ := h
    refine ⟨_, (C8.pss_cut (ps_set (i := 4) scPla.nd rfl (Or.inl rfl) (pe_lst pa_nil))
 (C8.pss_cut (ps_set (i := 5) scPla.nd rfl (Or.inl rfl) pe_int)
 (C8.pss_cut (ps_for PassesOwn.never rfl (pi_range2 (by rfl) T.range (pa_cons (pv 1) (pa_cons (pe_op op_add (pv 1) (pv 2)) pa_nil))) (pg_name (i := 6) scPla.nd rfl (Or.inl rfl)) (C8.pss_cut (ps_for PassesOwn.never rfl (pi_range1 rfl T.range (pa_cons (pe_callB call_len_seq (by rfl) T.len PySem.boot_len (pa_cons (pv 0) pa_nil)) pa_nil)) (pg_name (i := 7) scPla.nd rfl (Or.inl rfl)) (C8.pss_cut (ps_if (PW.pt (pw_or (pt_cmpR op_ge (pv 5) (pe_callB call_len_seq (by rfl) T.len PySem.boot_len (pa_cons (pv 0) pa_nil)) (nomark _)) (pw_or1 (pt_val (pe_callC c_lea (hr.mono (by decide)) rfl pass0 (pa_cons (pv 6) (pa_cons (pe_ix ix_list (pv 0) (pv 5) (fun _ _ => rfl)) pa_nil))))))) (pss_one
 ps_break) pss_nil)
 (pss_one
 (ps_set (i := 5) scPla.nd rfl (Or.inl rfl) (pe_op op_add (pv 5) pe_int)))))
 (pss_one
 (ps_expr (pe_bm PySem.F.plainAttrs_list PySem.F.slot_list_append PySem.F.type_list_append mt_append (pv 4) (pa_cons (pe_ifExp (pt_cmpR op_lt (pv 5) (pe_callB call_len_seq (by rfl) T.len PySem.boot_len (pa_cons (pv 0) pa_nil)) (nomark _)) (pv 5) (pv 3)) pa_nil))))))
 (pss_one
 (ps_ret (pv 4)))))), ?_⟩
    have lr : ∀ (n : Nat) (F : Nat → V), ((List.range n).map F).length = n := fun n F => by rw [List.length_map, List.length_range]
    refine ⟨fun σ H' => ∃ D, σ = [some (.ref a), some (.int first), some (.int size), some (lv), some (.ref D), none, none, none] ∧ H D = none ∧ Same H H' ∧ H' D = some (.lst []), ?_, ?_⟩
    · exact ⟨(by show 0 ≤ sizeLine; decide), fun D hD => ⟨D, rfl, hD, same_new hD, upd_same⟩⟩
    rintro σ H1 ⟨D, rfl, hD, s1, h1⟩
    refine ⟨fun σ H' => σ = [some (.ref a), some (.int first), some (.int size), some (lv), some (.ref D), some (.int 0), none, none] ∧ H' = H1, ⟨rfl, rfl⟩, ?_⟩
    rintro σ H1 ⟨rfl, rfl⟩
    refine ⟨fun σ H' => Same H H' ∧ (∃ v5 v6 v7, σ = [some (.ref a), some (.int first), some (.int size), some (lv), some (.ref D), v5, v6, v7]) ∧ H' D = some (.lst ((List.range size).map X)), ?_, ?_⟩
    · refine ⟨_, rfl, _, rfl, _, rfl, _, _, rfl, rfl, first, first + (size : Int), rfl, ?_, for_range (lo := first) (n := ((first + (size : Int)) - first).toNat) (fun i σ H' => ∃ (t : Nat) (v6 v7 : Option V), σ = [some (.ref a), some (.int first), some (.int size), some (lv), some (.ref D), some (.int t), v6, v7] ∧ Same H H' ∧ H' D = some (.lst ((List.range i).map X)) ∧ t ≤ n ∧ ∀ s, s < t → ¬ Ge (F s) (first + (i : Int))) ⟨0, _, _, rfl, s1, h1, Nat.zero_le _, fun s hs => absurd hs (Nat.not_lt_zero s)⟩ ?_ ?_⟩
      · exact ⟨by omega, by omega⟩
      · rintro i σ H2 hi ⟨t, v6, v7, rfl, s2, h2, tn, lo⟩
        have hi : i < size := by omega
        have ha2 := s2 _ _ ha
        refine ⟨fun σ H' => ∃ (t : Nat) (v7 : Option V), σ = [some (.ref a), some (.int first), some (.int size), some (lv), some (.ref D), some (.int t), some (.int (first + (i : Int))), v7] ∧ H2 = H' ∧ t ≤ n ∧ (∀ s, s < t → ¬ Ge (F s) (first + (i : Int))) ∧ (t < n → Ge (F t) (first + (i : Int))), ?_, ?_⟩
        · refine ⟨_, rfl, a, _, rfl, .inl (SqL.of ha2), n, ?_, ?_, ?_, for_range (lo := 0) (n := ((n : Nat) : Int).toNat) (fun j σ H' => ∃ (t : Nat) (v7 : Option V), σ = [some (.ref a), some (.int first), some (.int size), some (lv), some (.ref D), some (.int t), some (.int (first + (i : Int))), v7] ∧ H2 = H' ∧ j ≤ t ∧ t ≤ n ∧ (∀ s, s < t → ¬ Ge (F s) (first + (i : Int)))) ⟨t, _, rfl, rfl, Nat.zero_le _, tn, lo⟩ ?_ ?_⟩
          · rw [lr]
          · omega
          · omega
          · rintro j σ H3 hj ⟨t, v7, rfl, rfl, jt, tn, lo⟩
            have hj : j < n := by omega
            by_cases c : t < n
            · by_cases g : Ge (F t) (first + (i : Int))
              · refine ⟨fun _ _ => False, ?_, fun _ _ z => z.elim⟩
                refine ⟨_, rfl, _, rfl, a, _, rfl, .inl (SqL.of ha2), _, _, rfl, rfl, ?_⟩
                rw [lr]
                refine ⟨false, bF (by omega), iteF ⟨_, rfl, _, rfl, _, rfl, a, _, _, F t, rfl, rfl, SqL.of ha2, atI_nat (get_r c), F t, _, rfl, hF t c, fun _ => ⟨true, rfl, iteT ⟨t, _, rfl, rfl, tn, lo, fun _ => g⟩⟩, fun z => absurd g z⟩⟩
              · refine ⟨fun σ H' => σ = [some (.ref a), some (.int first), some (.int size), some (lv), some (.ref D), some (.int t), some (.int (first + (i : Int))), some (.int (0 + (j : Int)))] ∧ H2 = H', ?_, ?_⟩
                · refine ⟨_, rfl, _, rfl, a, _, rfl, .inl (SqL.of ha2), _, _, rfl, rfl, ?_⟩
                  rw [lr]
                  refine ⟨false, bF (by omega), iteF ⟨_, rfl, _, rfl, _, rfl, a, _, _, F t, rfl, rfl, SqL.of ha2, atI_nat (get_r c), F t, _, rfl, hF t c, fun z => absurd z g, fun _ => ⟨false, rfl, iteF ⟨rfl, rfl⟩⟩⟩⟩
                rintro σ H4 ⟨rfl, rfl⟩
                refine ⟨_, rfl, _, _, rfl, rfl, t + 1, some (.int (0 + (j : Int))), ?_, rfl, by omega, by omega, fun s hs => ?_⟩
                · rw [Int.natCast_add]
                  try rfl
                · by_cases z : s = t
                  · rw [z]; exact g
                  · exact lo s (by omega)
            · refine ⟨fun _ _ => False, ?_, fun _ _ z => z.elim⟩
              refine ⟨_, rfl, _, rfl, a, _, rfl, .inl (SqL.of ha2), _, _, rfl, rfl, ?_⟩
              rw [lr]
              exact ⟨true, bT (by omega), iteT (iteT ⟨t, _, rfl, rfl, tn, lo, fun z => absurd z c⟩)⟩
          · rintro σ H3 ⟨t, v7, rfl, rfl, jt, tn, lo⟩
            exact ⟨t, _, rfl, rfl, tn, lo, fun z => by omega⟩
        rintro σ H3 ⟨t, v7, rfl, rfl, tn, lo, hi2⟩
        have xe : X i = if t < n then .int t else lv := by
          refine (hX i hi).uniq ?_
          by_cases c : t < n
          · rw [if_pos c]
            exact .inr ⟨t, c, rfl, hi2 c, lo⟩
          · rw [if_neg c]
            exact .inl ⟨rfl, fun s hs => lo s (by omega)⟩
        have stp : ∀ v6 v7, (∃ (t' : Nat) (v6' v7' : Option V), ([some (.ref a), some (.int first), some (.int size), some (lv), some (.ref D), some (.int t), v6, v7] : L2.St) = [some (.ref a), some (.int first), some (.int size), some (lv), some (.ref D), some (.int t'), v6', v7'] ∧ Same H (upd H2 D (.lst ((List.range i).map X ++ [X i]))) ∧ (upd H2 D (.lst ((List.range i).map X ++ [X i]))) D = some (.lst ((List.range (i + 1)).map X)) ∧ t' ≤ n ∧ ∀ s, s < t' → ¬ Ge (F s) (first + ((i + 1 : Nat) : Int))) := fun v6 v7 =>
          ⟨t, _, _, rfl, fun b o e => by rw [upd_ne (ne_of_none e hD)]; exact s2 b o e, by rw [upd_same, List.range_succ, List.map_append, List.map_singleton], tn, fun s hs z => lo s hs (z.le (by omega))⟩
        refine ⟨_, rfl, .inl ⟨rfl, _, SqL.of h2⟩, _, rfl, _, rfl, a, _, rfl, .inl (SqL.of ha2), _, _, rfl, rfl, ?_⟩
        rw [lr]
        by_cases c : t < n
        · rw [if_pos c] at xe
          refine ⟨true, bT (by omega), iteT ⟨_, rfl, D, _, _, rfl, rfl, h2, ?_, ?_⟩⟩
          · rw [lr]
            exact line_lt (by omega)
          · have z := stp (some (.int (first + (i : Int)))) v7
            rw [xe] at z
            exact z
        · rw [if_neg c] at xe
          refine ⟨false, bF (by omega), iteF ⟨_, rfl, D, _, _, rfl, rfl, h2, ?_, ?_⟩⟩
          · rw [lr]
            exact line_lt (by omega)
          · have z := stp (some (.int (first + (i : Int)))) v7
            rw [xe] at z
            exact z
      · rintro σ H2 ⟨t, v6, v7, rfl, s2, h2, _⟩
        exact ⟨s2, ⟨_, _, _, rfl⟩, by rw [show ((first + (size : Int)) - first).toNat = size by omega] at h2; exact h2⟩
    rintro σ H2 ⟨s2, ⟨v5, v6, v7, rfl⟩, h2⟩
    exact ⟨_, rfl, k D H2 h2 s2⟩
end
end WW
end

section
set_option Elab.async false
set_option linter.all false
set_option maxRecDepth 100000
set_option maxHeartbeats 8000000
namespace WW
open PySem L2 WO WG RZ WQ WT WC
abbrev sRch : Stmt := top 81
theorem pla_of {L : Nat → V} {m i n : Nat} {lv u : V} (hu : InvA L m i u) (far : (∀ t, t < n → ¬ Ge (L t) ((i : Int) + (m : Int))) → u = lv) : PlA L n ((m : Int) + (i : Int)) lv u := by
  rw [Int.add_comm]
  obtain ⟨x, hx⟩ := pla_ex L n ((i : Int) + (m : Int)) lv
  obtain rfl := hx.inv hu rfl far
  exact hx
theorem lskv_in {xs : List V} {p : Nat} {g : Int} {L : Nat → V} (h : LskV xs p g L) : FormIn xs p g := by
  have g0 := h.g0
  have g1 := h.g1
  have ln := h.ln
  have p6 := h.p6
  rcases h.row.cases' with ⟨f, n, eL, ex, p0, pn, _, Q⟩ | ⟨s, k, eL, ex⟩
  · rw [ex, List.length_map, List.length_range] at ln
    rw [ex]
    exact in_int p0 pn (by omega) g0 (by omega)
  · rw [ex, List.length_append, List.length_map, List.length_replicate] at ln
    rw [ex]
    exact .mkN s k p g (by omega)
theorem lskv_take {xs : List V} {p : Nat} {g : Int} {L : Nat → V} (h : LskV xs p g L) : (List.range xs.length).map L = xs := by
  have tk := h.row.take (n := xs.length)
  rw [Nat.min_self, List.take_of_length_le (Nat.le_refl _)] at tk
  exact tk.symm
section
variable {P : Program} {w : World} {K : PySem.W.Frag} {mg : Str → Option Value} {base : Heap}
theorem sho_due {H5 : Hp} {T D : Addr} {U : Nat → V} {many per : Nat} {gr : Int} {Q : VK} {E : XK} (fi : FormIn ((List.range many).map U) per gr) (ro : RowF ((List.range many).map U) per gr U) (sm : ∀ j, j < many → SmallV (U j))
    (hT : H5 T = some (.tup [.ref D, .int per, .int gr])) (hD : H5 D = some (.lst ((List.range many).map U))) (k1 : ∀ H', DueAt H' T D many per gr U → Same H5 H' → Q (.ref T) H') (k2 : ∀ H', (∀ v q r, FormG U v q r → 4000 < v.length) → Same H5 H' → Q .non H') : spSho K [.ref T] H5 Q E := by
  refine ⟨T, D, _, per, gr, rfl, hT, hD, fi, fun v q r fv => ?_⟩
  obtain ⟨q', rfl, fg⟩ := form_g fv ro
  constructor
  · intro l H' s
    exact k1 H' ⟨s _ _ hT, s _ _ hD, fi, ro, sm, fun v' q' r' fg' => by rw [(fg'.uniq fg).1]; exact l⟩ s
  · intro l H' s
    exact k2 H' (fun v' q' r' fg' => by rw [(fg'.uniq fg).1]; exact l) s
abbrev nRch : List Str := ["sketch", "first", "form", "row", "size", "more", "last", "item"]
theorem scRch : FnScope nRch ["sketch", "first"] (defScope sRch) := ⟨rfl, rfl, rfl, by decide +kernel, rfl, by decide +kernel, by decide +kernel⟩
def spRch (K : PySem.W.Frag) : Sp := fun vs H Q _ => ∃ (e a : Addr) (xs : List V) (p m : Nat) (g : Int) (L U : Nat → V), vs = [.ref e, .int m] ∧ Lsk H e a xs p g L ∧ UpL L ∧ m ≤ 1 ∧ (∀ n, InvA L m n (U n)) ∧
  (∀ (T b : Addr) (k p1 : Nat) (g1 : Int) (H' : Hp), DueAt H' T b k p1 g1 U → Same H H' → Q (.ref T) H') ∧ (∀ H', (∀ v q r, FormG U v q r → 4000 < v.length) → Same H H' → Q .non H')
theorem ok_rch {f : Addr} {fd : FuncData} (F : Fun K "_law_reached" "_law_reached" sRch f fd) (T : CurG mg)
    (c_lfo : Cal P w K mg base CX0 1 "_law_form" ["row", "period_here", "growth_here"] (spForm K)) (c_row : Cal P w K mg base CX0 2 "_law_row" ["sketch", "beats"] (spRow K)) (c_goe : Cal P w K mg base CX0 1 "_law_goes" ["sketch"] (spGoe K))
    (c_pla : Cal P w K mg base CX0 2 "_law_places" ["row", "first", "size", "last"] (spPla K)) (c_sho : Cal P w K mg base CX0 2 "_law_short" ["found"] (spSho K)) : FnOk P w K mg base CX0 3 f fd ["sketch", "first"] (spRch K) := by
  refine F.ok scRch (fun vs H Q E h => ?_) (fun cdv A outer s H vs Q E hr h => ?_)
  · obtain ⟨e, a, xs, p, m, g, L, U, rfl, _⟩ := h
    rfl
  · obtain ⟨e, a, xs, p, m, g, L, U, rfl, S, up, m1, hU, k1, k2⟩ := h
    have hu := hu_of hr
    have hu64 := hr.units
    refine ⟨_, (C8.pss_cut (ps_set (i := 2) scRch.nd rfl (Or.inl rfl) (pe_callC c_lfo (hr.mono (by decide)) rfl pass0 (pa_cons (pe_callC c_row (hr.mono (by decide)) rfl pass0 (pa_cons (pv 0) (pa_cons (pe_callB call_len_seq (by rfl) T.len PySem.boot_len (pa_cons (pe_dget hu (pv 0) pe_str (fun _ _ => rfl)) pa_nil)) pa_nil))) (pa_cons (pe_dget hu (pv 0) pe_str (fun _ _ => rfl)) (pa_cons (pe_dget hu (pv 0) pe_str (fun _ _ => rfl)) pa_nil)))))
 (C8.pss_cut (ps_setLc (i := 3) (own := [("item", 7)]) (g := (gName 7)) rfl scRch.nd rfl rfl (sw_true rfl rfl rfl (by decide +kernel)) (pi_tup (pe_ix ix_tup (pv 2) pe_int (fun _ _ => rfl))) (blkOk_by (N := nRch) (sc := defScope sRch) (by decide +kernel)) (fun _ _ _ _ _ => (pg_name (i := 7) scRch.nd rfl (Or.inl rfl))) (fun _ _ _ _ _ => pts_one (pt_cmpR op_notN (pv 7) pe_non (nomark _))) (fun _ _ _ _ _ => (pv 7)))
 (C8.pss_cut (ps_if (pt_cmpR (op_eqD hu64) (pv 3) (pe_lst pa_nil) (nomark _)) (pss_one
 (ps_ret (pe_tup (pa_cons (pe_lst (pa_cons pe_int pa_nil)) (pa_cons pe_int (pa_cons pe_int pa_nil)))))) pss_nil)
 (C8.pss_cut (ps_if (pt_cmpR op_gt (pe_ix ix_tup (pv 2) pe_int (fun _ _ => rfl)) pe_int (nomark _)) (C8.pss_cut (ps_set (i := 4) scRch.nd rfl (Or.inl rfl) (pe_op op_add (pe_op op_add (pe_ix ix_list (pv 3) (pe_op op_sub (pe_callB call_len_seq (by rfl) T.len PySem.boot_len (pa_cons (pv 3) pa_nil)) (pe_ix ix_tup (pv 2) pe_int (fun _ _ => rfl))) (fun _ _ => rfl)) pe_int) (pe_ix ix_tup (pv 2) pe_int (fun _ _ => rfl))))
 (C8.pss_cut (ps_if (pt_cmpR op_gt (pv 4) pe_int (nomark _)) (pss_one
 (ps_ret pe_non)) pss_nil)
 (C8.pss_cut (ps_set (i := 5) scRch.nd rfl (Or.inl rfl) (pe_callC c_row (hr.mono (by decide)) rfl pass0 (pa_cons (pv 0) (pa_cons (pe_op op_add (pe_callB call_len_seq (by rfl) T.len PySem.boot_len (pa_cons (pv 3) pa_nil)) (pe_op op_mul pe_int (pe_ix ix_tup (pv 2) pe_int (fun _ _ => rfl)))) pa_nil))))
 (pss_one
 (ps_ret (pe_callC c_sho (hr.mono (by decide)) rfl pass0 (pa_cons (pe_tup (pa_cons (pe_callC c_pla (hr.mono (by decide)) rfl pass0 (pa_cons (pv 5) (pa_cons (pv 1) (pa_cons (pv 4) (pa_cons pe_non pa_nil))))) (pa_cons (pe_ix ix_tup (pv 2) pe_int (fun _ _ => rfl)) (pa_cons (pe_ix ix_tup (pv 2) pe_int (fun _ _ => rfl)) pa_nil)))) pa_nil))))))) pss_nil)
 (C8.pss_cut (ps_if (pt_cmpR op_gt (pe_ix ix_list (pv 3) (pe_un un_neg pe_int) (fun _ _ => rfl)) pe_int (nomark _)) (pss_one
 (ps_ret pe_non)) pss_nil)
 (C8.pss_cut (ps_set (i := 6) scRch.nd rfl (Or.inl rfl) (pe_ifExp (pt_val (pe_callC c_goe (hr.mono (by decide)) rfl pass0 (pa_cons (pv 0) pa_nil))) pe_non (pe_callB call_len_seq (by rfl) T.len PySem.boot_len (pa_cons (pv 3) pa_nil))))
 (pss_one
 (ps_ret (pe_callC c_sho (hr.mono (by decide)) rfl pass0 (pa_cons (pe_tup (pa_cons (pe_callC c_pla (hr.mono (by decide)) rfl pass0 (pa_cons (pv 3) (pa_cons (pv 1) (pa_cons (pe_op op_sub (pe_op op_add (pe_ix ix_list (pv 3) (pe_un un_neg pe_int) (fun _ _ => rfl)) pe_int) (pv 1)) (pa_cons (pv 6) pa_nil))))) (pa_cons pe_int (pa_cons pe_int pa_nil)))) pa_nil)))))))))), ?_⟩
    have V1 := S.vl
    have ln := V1.ln
    have lr : ∀ (n : Nat) (F : Nat → V), ((List.range n).map F).length = n := fun n F => by rw [List.length_map, List.length_range]
    refine ⟨fun σ H' => ∃ (Tf tv : Addr) (v : List V) (q : Nat) (r : Int), σ = [some (.ref e), some (.int m), some (.ref Tf), none, none, none, none, none] ∧ Same H H' ∧ H' Tf = some (.tup [.ref tv, .int q, .int r]) ∧ H' tv = some (.tup v) ∧ FormG L v q r ∧ v.length ≤ 8, ?_, ?_⟩
    · refine ⟨_, rfl, _, rfl, e, _, rfl, sk_start S.ob, a, _, rfl, .inl (SqL.of S.li), e, a, xs, p, xs.length, g, L, rfl, S.ob, S.li, V1.row, by omega, fun z H1 hz h1 s1 => ?_⟩
      refine ⟨_, rfl, e, _, rfl, sk_period (s1 _ _ S.ob), _, rfl, e, _, rfl, sk_growth (s1 _ _ S.ob), z, xs, p, g, rfl, by rw [lskv_take V1] at h1; exact h1, lskv_in V1, fun v q r t T2 H2 fv ht hT s2 => ?_⟩
      obtain ⟨q', rfl, fg⟩ := form_g fv V1.row
      have := formV_len fv
      exact ⟨T2, t, v, q', r, rfl, Same.trans s1 s2, hT, ht, fg, by omega⟩
    rintro σ H1 ⟨Tf, tv, v, q, r, rfl, s1, hTf, htv, fg, vl⟩
    refine ⟨fun σ H' => ∃ D, σ = [some (.ref e), some (.int m), some (.ref Tf), some (.ref D), none, none, none, none] ∧ Same H1 H' ∧ H' D = some (.lst (numsV v)), ?_, ?_⟩
    · refine ⟨_, rfl, Tf, _, _, .ref tv, rfl, rfl, SqT.of hTf, rfl, tv, rfl, ⟨_, SqT.of htv⟩, fun D hD => LM.lcF (walk_tup (xs := v)) (fun i => !decide (v.getD i .non = .non)) (fun i => v.getD i .non) hD (by omega) (fun H2 s2 => SqT.of (s2 _ _ htv)) ?_ fun H3 h3 s3 => ⟨D, rfl, s3, by rw [h3, numsV_at]⟩⟩
      rintro i x H3 H4 hi s3 ⟨rfl, hy⟩ R N k1 k2
      obtain rfl : x = v.getD i .non := by rw [List.getD_eq_getElem?_getD, hy] <;> rfl
      refine ⟨rfl, _, rfl, rfl, ?_⟩
      by_cases c : v.getD i .non = .non
      · exact ⟨false, by rw [c] <;> rfl, iteF (k2 (by rw [decide_eq_true c] <;> rfl) _ (Same.refl _))⟩
      · exact ⟨true, by show V.bl (!decide (v.getD i .non = .non)) = .bl true; rw [decide_eq_false c] <;> rfl, iteT ⟨_, rfl, k1 (by rw [decide_eq_false c] <;> rfl) _ (Same.refl _)⟩⟩
    rintro σ H2 ⟨D, rfl, s2, hD⟩
    have hTf := s2 _ _ hTf
    have S := (S.same s1).same s2
    have s12 := Same.trans s1 s2
    have k1 := fun T b k p1 g1 H' D' s => k1 T b k p1 g1 H' D' (Same.trans s12 s)
    have k2 := fun H' h s => k2 H' h (Same.trans s12 s)
    clear s1 s2 s12 htv
    have nf : FlatR [] := fun v hv => by cases hv
    have flN : FlatR (numsV v) := fun x hx => fg.flat x ((List.mem_filter.mp hx).1)
    obtain ⟨lv0, hlv, goes⟩ := V1.last
    rcases fg.cases' with ⟨f, b, eL, hf, rfl⟩ | ⟨s, eL, rfl, rfl, rfl⟩
    · obtain rfl : L = fun j => .int (f j) := funext eL
      rw [numsV_int] at hD flN
      have q0 := hf.pos
      rw [List.length_map, List.length_range] at vl
      have sm := fun j (hj : j ≤ 100000) => V1.sm j (f j) hj rfl
      have mo := up.mono
      obtain ⟨c, ec⟩ : ∃ c, c = f (b + q - 1) := ⟨_, rfl⟩
      have lastS : ((List.range (b + q)).map fun j => V.int (f j))[((List.range (b + q)).map fun j => V.int (f j)).length - 1]? = some (.int c) := by
        rw [ec]
        exact last_int q0
      have bc : f b ≤ c := by rw [ec]; exact mo.le (by omega)
      have rq := hf.qp b (Nat.le_refl _)
      have r0 : 0 ≤ r := by have := mo.le (show b ≤ b + q by omega); omega
      have cr : c ≤ f b + r := by rw [ec]; have := mo.le (show b + q - 1 ≤ b + q by omega); omega
      have lvn : lv0 ≠ .non ∧ r < 2 ^ 30 := by
        rcases goes with ⟨z, h, eh, Qh⟩ | ⟨_, s, z, _⟩
        · refine ⟨z, ?_⟩
          have : f = h := funext fun j => V.int.inj (congrFun eh j)
          subst this
          have fr := MF.form_rise V1.p0 Qh hf
          have g1 := V1.g1
          have g0 := V1.g0
          have : (q : Int) * g ≤ 8 * 10000000 := Int.mul_le_mul (by omega) g1 g0 (by omega)
          have : 1 * r ≤ (p : Int) * r := Int.mul_le_mul_of_nonneg_right (by have := V1.p0; omega) r0
          omega
        · have := congrFun z s.length
          rw [fn_high (Nat.le_refl _)] at this
          cases this
      obtain ⟨lvn, r30⟩ := lvn
      refine ⟨fun σ H' => σ = [some (.ref e), some (.int m), some (.ref Tf), some (.ref D), none, none, none, none] ∧ Same H2 H', ?_, ?_⟩
      · refine ⟨_, rfl, (by show 0 ≤ sizeLine; decide), fun u hu => ?_⟩
        generalize g3 : upd H2 u _ = H3
        obtain ⟨s3, f3⟩ := alloc g3 hu
        refine ⟨rowD _, rowD [], .lst (SqL.of (s3 _ _ hD)) (dpAll_row _ flN), .lst (SqL.of f3) .nil, shaped_row _, shaped_row _, ?_⟩
        rw [eqv_row flN nf, decide_eq_false (fun z => by have := congrArg List.length z; rw [lr] at this; have : b + q = 0 := this; omega)]
        exact ⟨false, rfl, iteF ⟨rfl, s3⟩⟩
      rintro σ H3 ⟨rfl, s3⟩
      have hTf := s3 _ _ hTf
      have hD := s3 _ _ hD
      have S := S.same s3
      have ixq : atI ((List.range (b + q)).map fun j => V.int (f j)) ((((List.range (b + q)).map fun j => V.int (f j)).length : Int) - (q : Int)) = some (.int (f b)) := by
        rw [lr, show ((b + q : Nat) : Int) - (q : Int) = ((b : Nat) : Int) by omega]
        exact atI_nat (get_r (F := fun j => V.int (f j)) (by omega))
      by_cases rz : r = 0
      · subst rz
        have Q1 : MF.QP f 1 0 b := fun j hj => by
          have a1 := mo.le (show j ≤ j + 1 by omega)
          have a2 := mo.le (show j + 1 ≤ j + q by omega)
          have a3 := hf.qp j hj
          omega
        obtain rfl : q = 1 := by
          have := hf.least 1 (by decide) ⟨b, Q1.dp⟩
          omega
        obtain rfl : c = f b := by rw [ec, Nat.add_sub_cancel]
        have flat := flat_tail Q1
        have smb := sm b (by omega)
        have iN := invn_flat m1 up flat (by omega) (by omega)
        obtain ⟨many, em⟩ : ∃ many, many = (f b + 2 - (m : Int)).toNat := ⟨_, rfl⟩
        rw [← em] at iN
        obtain ⟨p0, pm, g0, g4, mb, iU⟩ := iN
        obtain ⟨iF, iL, iS⟩ := iU U hU
        refine ⟨fun σ H' => σ = [some (.ref e), some (.int m), some (.ref Tf), some (.ref D), none, none, none, none] ∧ H3 = H', ?_, ?_⟩
        · exact ⟨_, rfl, Tf, _, _, .int 0, rfl, rfl, SqT.of hTf, rfl, _, _, rfl, rfl, false, rfl, iteF ⟨rfl, rfl⟩⟩
        rintro σ H3 ⟨rfl, rfl⟩
        refine ⟨fun σ H' => σ = [some (.ref e), some (.int m), some (.ref Tf), some (.ref D), none, none, none, none] ∧ H3 = H' ∧ f b ≤ 4000, ?_, ?_⟩
        · refine ⟨_, rfl, 1, rfl, D, _, _, .int (f b), rfl, rfl, SqL.of hD, last_get lastS, _, _, rfl, rfl, ?_⟩
          by_cases c4 : f b > 4000
          · refine ⟨true, bT c4, iteT (k2 _ (fun v q r fg => ?_) s3)⟩
            have := iL v q r fg
            omega
          · exact ⟨false, bF c4, iteF ⟨rfl, rfl, by omega⟩⟩
        rintro σ H3 ⟨rfl, rfl, c4⟩
        refine ⟨fun σ H' => σ = [some (.ref e), some (.int m), some (.ref Tf), some (.ref D), none, none, some (.non), none] ∧ H3 = H', ?_, ?_⟩
        · refine ⟨_, rfl, e, a, xs, p, g, lv0, rfl, S.ob, S.li, hlv, true, ?_, iteT ⟨rfl, rfl⟩⟩
          rw [decide_eq_false lvn]
          try rfl
        rintro σ H3 ⟨rfl, rfl⟩
        have em2 : f b + 2 - (m : Int) = (many : Int) := by omega
        refine ⟨_, rfl, _, rfl, _, rfl, 1, rfl, D, _, _, .int (f b), rfl, rfl, SqL.of hD, last_get lastS, _, _, rfl, rfl, _, rfl, _, _, rfl, rfl, _, rfl, D, (fun j => .int (f j)), U, b + 1, many, m, .non, ?_, hD, fun j _ => .inr ⟨_, rfl⟩, by omega, by omega, by omega, by omega, fun i hi => pla_of (hU i) fun far => ?_, fun D4 H4 h4 s4 => ⟨(by show 3 ≤ sizeLine; decide), fun t ht => ?_⟩⟩
        · show [V.ref D, V.int (m : Int), V.int (f b + 2 - (m : Int)), V.non] = _
          rw [em2]
        · refine (hU i).uniq (.inl ⟨rfl, fun t ge => far b (by omega) (ge_int.mpr ?_)⟩)
          have := ge_int.mp ge
          rcases Nat.le_total t b with z | z
          · have := mo.le z
            omega
          · rw [← flat t z]; exact this
        generalize g5 : upd H4 t _ = H5
        obtain ⟨s5, f5⟩ := alloc g5 ht
        obtain ⟨fi, ro⟩ := iF (by omega)
        have s35 := Same.trans s3 (Same.trans s4 s5)
        refine sho_due (K := K) (E := E) fi ro (fun j hj => ?_) f5 (s5 _ _ h4) (fun H' D' s => k1 _ _ _ _ _ _ D' (Same.trans s35 s)) (fun H' h s => k2 _ h (Same.trans s35 s))
        rcases hU j with ⟨z, _⟩ | ⟨t', z, _⟩
        · exact .inl z
        · have := iS j t' (by omega) z
          exact .inr ⟨_, z, by unfold SmallI; omega⟩
      have rp : 0 < r := by omega
      have smb := sm b (by omega)
      have smc := sm (b + q - 1) (by omega)
      obtain ⟨irr, e2, leA, leB⟩ : ∃ irr : Int, (irr = f (b + q - 1) - r ∨ (0 < b ∧ irr = f (b - 1))) ∧ f (b + q - 1) - r ≤ irr ∧ (0 < b → f (b - 1) ≤ irr) := by
        by_cases z : 0 < b ∧ f (b + q - 1) - r ≤ f (b - 1)
        · exact ⟨_, .inr ⟨z.1, rfl⟩, z.2, fun _ => Int.le_refl _⟩
        · exact ⟨_, .inl rfl, Int.le_refl _, fun b0 => by omega⟩
      have irrB : irr < 2 ^ 50 := by
        rcases e2 with e | ⟨_, e⟩
        · omega
        · have := sm (b - 1) (by omega)
          omega
      have iN := invn_grow m1 up hf rp r30 (by omega) irrB e2 leA leB
      obtain ⟨p0, pm, g0, g4, mb, iU⟩ := iN
      obtain ⟨iF, iL, iS⟩ := iU U hU
      obtain ⟨h, hh⟩ := Classical.axiomOfChoice fun n => inv_grow q0 rp hf.qp m n
      obtain rfl : U = fun n => .int ((h n : Nat) : Int) := funext fun n => (hU n).uniq (hh n)
      obtain ⟨size, es⟩ : ∃ size : Nat, (size : Int) = f b + 1 + r := ⟨(f b + 1 + r).toNat, by omega⟩
      refine ⟨fun _ _ => False, ?_, fun _ _ z => z.elim⟩
      refine ⟨_, rfl, Tf, _, _, .int r, rfl, rfl, SqT.of hTf, rfl, _, _, rfl, rfl, true, bT rp, iteT ?_⟩
      refine ⟨fun σ H' => σ = [some (.ref e), some (.int m), some (.ref Tf), some (.ref D), some (.int size), none, none, none] ∧ H3 = H', ?_, ?_⟩
      · refine ⟨_, rfl, _, rfl, D, _, rfl, .inl (SqL.of hD), _, rfl, Tf, _, _, .int q, rfl, rfl, SqT.of hTf, rfl, _, _, rfl, rfl, D, _, _, .int (f b), rfl, rfl, SqL.of hD, ixq, _, _, rfl, rfl, _, rfl, Tf, _, _, .int r, rfl, rfl, SqT.of hTf, rfl, _, _, rfl, rfl, ?_, rfl⟩
        rw [es]
        try rfl
      rintro σ H3 ⟨rfl, rfl⟩
      refine ⟨fun σ H' => σ = [some (.ref e), some (.int m), some (.ref Tf), some (.ref D), some (.int size), none, none, none] ∧ H3 = H' ∧ size ≤ 9000, ?_, ?_⟩
      · refine ⟨_, rfl, _, _, rfl, rfl, ?_⟩
        by_cases c9 : (size : Int) > 9000
        · refine ⟨true, bT c9, iteT (k2 _ (fun v q r fg => ?_) s3)⟩
          have := iL v q r fg
          omega
        · exact ⟨false, bF c9, iteF ⟨rfl, rfl, by omega⟩⟩
      rintro σ H3 ⟨rfl, rfl, c9⟩
      refine ⟨fun σ H' => ∃ D2, σ = [some (.ref e), some (.int m), some (.ref Tf), some (.ref D), some (.int size), some (.ref D2), none, none] ∧ Same H3 H' ∧ H' D2 = some (.lst ((List.range (b + 3 * q)).map fun j => V.int (f j))), ?_, ?_⟩
      · refine ⟨_, rfl, _, rfl, D, _, rfl, .inl (SqL.of hD), _, rfl, Tf, _, _, .int q, rfl, rfl, SqT.of hTf, rfl, _, _, rfl, rfl, ?_, _, _, rfl, rfl, e, a, xs, p, b + 3 * q, g, (fun j => .int (f j)), ?_, S.ob, S.li, V1.row, by omega, fun z H4 _ h4 s4 => ⟨z, rfl, s4, h4⟩⟩
        · unfold CMul
          omega
        show [V.ref e, V.int ((((List.range (b + q)).map fun j => V.int (f j)).length : Int) + 2 * (q : Int))] = _
        rw [lr, show ((b + q : Nat) : Int) + 2 * (q : Int) = ((b + 3 * q : Nat) : Int) by omega]
      rintro σ H4 ⟨D2, rfl, s4, hD2⟩
      have hTf := s4 _ _ hTf
      have Qn := inv_qp (n0 := size - r.toNat) mo q0 rp hf.qp hh (by omega) (fun b0 => by have := mo.le (show b - 1 ≤ b by omega); omega)
      have f2 : f (b + 2 * q) = f b + 2 * r := by
        have := hf.qp.mul (j := b) (Nat.le_refl _) 2
        omega
      have hb : ∀ n, n < size → h n ≤ b + 2 * q := fun n hn => (inv_iff mo (hh n) _).mpr (by omega)
      refine ⟨_, rfl, _, rfl, _, rfl, D2, (fun j => .int (f j)), _, b + 3 * q, size, m, .non, rfl, hD2, fun j _ => .inr ⟨_, rfl⟩, by omega, by omega, by omega, by omega, fun i hi => pla_of (hU i) fun far => ?_, fun D5 H5 h5 s5 => ⟨_, rfl, Tf, _, _, .int r, rfl, rfl, SqT.of (s5 _ _ hTf), rfl, _, rfl, Tf, _, _, .int q, rfl, rfl, SqT.of (s5 _ _ hTf), rfl, (by show 3 ≤ sizeLine; decide), fun t ht => ?_⟩⟩
      · have z := hb i hi
        rcases hh i with ⟨y, _⟩ | ⟨t, e, ge, _⟩
        · cases y
        · have : h i = t := Int.ofNat.inj (V.int.inj e)
          exact absurd ge (far t (by omega))
      generalize g6 : upd H5 t _ = H6
      obtain ⟨s6, f6⟩ := alloc g6 ht
      have s36 := Same.trans s3 (Same.trans s4 (Same.trans s5 s6))
      refine sho_due (K := K) (E := E) (per := r.toNat) (gr := (q : Int)) (in_int (f := fun n => ((h n : Nat) : Int)) (by omega) (by omega) (by omega) (by omega) (by omega)) (row_int (f := fun n => ((h n : Nat) : Int)) (by omega) (by omega) (by omega) Qn) (fun j hj => ?_) ?_ (s6 _ _ h5) (fun H' D' s => k1 _ _ _ _ _ _ D' (Same.trans s36 s)) (fun H' h s => k2 _ h (Same.trans s36 s))
      · have := hb j hj
        exact .inr ⟨_, rfl, by unfold SmallI; omega⟩
      · rw [f6, show ((r.toNat : Nat) : Int) = r by omega]
    obtain rfl : L = FN s := funext eL
    rw [numsV_end] at hD flN
    have lvn : lv0 = .non := by
      rcases goes with ⟨_, f, z, _⟩ | ⟨z, _⟩
      · have := congrFun z s.length
        rw [fn_high (Nat.le_refl _)] at this
        cases this
      · exact z
    subst lvn
    rw [ends_len] at vl
    have big : ∀ j, j < s.length → s.getD j 0 < 2 ^ 50 := fun j hj => by
      have := V1.sm j (s.getD j 0) (by omega) (by rw [fn_low hj])
      omega
    obtain ⟨I0, I1⟩ := invn_end m1 up (by omega) big
    by_cases n0 : s.length = 0
    · obtain rfl := List.length_eq_zero_iff.mp n0
      refine ⟨fun _ _ => False, ?_, fun _ _ z => z.elim⟩
      refine ⟨_, rfl, (by show 0 ≤ sizeLine; decide), fun u hu => ?_⟩
      generalize g3 : upd H2 u _ = H3
      obtain ⟨s3, f3⟩ := alloc g3 hu
      refine ⟨rowD _, rowD [], .lst (SqL.of (s3 _ _ hD)) (dpAll_row _ flN), .lst (SqL.of f3) .nil, shaped_row _, shaped_row _, ?_⟩
      rw [eqv_row flN nf]
      refine ⟨true, rfl, iteT ⟨(by show 1 ≤ sizeLine; decide), fun b hb => ?_⟩⟩
      generalize g4 : upd H3 b _ = H4
      obtain ⟨s4, f4⟩ := alloc g4 hb
      refine ⟨(by show 3 ≤ sizeLine; decide), fun t ht => ?_⟩
      generalize g5 : upd H4 t _ = H5
      obtain ⟨s5, f5⟩ := alloc g5 ht
      have eU : U = fun _ => V.int 0 := funext fun n => (hU n).uniq (inv_at (t := 0) (by have z : FN [] 0 = .non := fn_high (Nat.zero_le 0); rw [z]; exact ge_non) fun s hs => absurd hs (Nat.not_lt_zero s))
      subst eU
      exact k1 t b 1 1 0 H5 (flat_due (.inr ⟨0, rfl, by decide, by decide⟩) f5 (s5 _ _ f4)) (Same.trans s3 (Same.trans s4 s5))
    obtain ⟨c, ec⟩ : ∃ c, c = s.getD (s.length - 1) 0 := ⟨_, rfl⟩
    have iN := I1 (by omega)
    rw [← ec] at iN
    have c0 : 0 ≤ c := by
      have := V1.sm (s.length - 1) c (by omega) (by rw [fn_low (by omega), ec])
      exact this.1
    obtain ⟨many, em⟩ : ∃ many, many = (c + 2 - (m : Int)).toNat := ⟨_, rfl⟩
    rw [← em] at iN
    have ls : (s.map V.int).length = s.length := List.length_map _
    have lastS : (s.map V.int)[(s.map V.int).length - 1]? = some (.int c) := by
      have e1 : s[s.length - 1]? = some c := by
        rw [ec, List.getD_eq_getElem?_getD, List.getElem?_eq_getElem (show s.length - 1 < s.length by omega)]
        try rfl
      rw [ls, List.getElem?_map, e1]
      try rfl
    obtain ⟨p0, pm, g0, g4, mb, iU⟩ := iN
    obtain ⟨iF, iL, iS⟩ := iU U hU
    refine ⟨fun σ H' => σ = [some (.ref e), some (.int m), some (.ref Tf), some (.ref D), none, none, none, none] ∧ Same H2 H', ?_, ?_⟩
    · refine ⟨_, rfl, (by show 0 ≤ sizeLine; decide), fun u hu => ?_⟩
      generalize g3 : upd H2 u _ = H3
      obtain ⟨s3, f3⟩ := alloc g3 hu
      refine ⟨rowD _, rowD [], .lst (SqL.of (s3 _ _ hD)) (dpAll_row _ flN), .lst (SqL.of f3) .nil, shaped_row _, shaped_row _, ?_⟩
      rw [eqv_row flN nf, decide_eq_false (fun z => n0 (by rw [← ls, z] <;> rfl))]
      exact ⟨false, rfl, iteF ⟨rfl, s3⟩⟩
    rintro σ H3 ⟨rfl, s3⟩
    have hTf := s3 _ _ hTf
    have hD := s3 _ _ hD
    have S := S.same s3
    refine ⟨fun σ H' => σ = [some (.ref e), some (.int m), some (.ref Tf), some (.ref D), none, none, none, none] ∧ H3 = H', ?_, ?_⟩
    · exact ⟨_, rfl, Tf, _, _, .int 0, rfl, rfl, SqT.of hTf, rfl, _, _, rfl, rfl, false, rfl, iteF ⟨rfl, rfl⟩⟩
    rintro σ H3 ⟨rfl, rfl⟩
    refine ⟨fun σ H' => σ = [some (.ref e), some (.int m), some (.ref Tf), some (.ref D), none, none, none, none] ∧ H3 = H' ∧ c ≤ 4000, ?_, ?_⟩
    · refine ⟨_, rfl, 1, rfl, D, _, _, .int c, rfl, rfl, SqL.of hD, last_get lastS, _, _, rfl, rfl, ?_⟩
      by_cases c4 : c > 4000
      · refine ⟨true, bT c4, iteT (k2 _ (fun v q r fg => ?_) s3)⟩
        have := iL v q r fg
        omega
      · exact ⟨false, bF c4, iteF ⟨rfl, rfl, by omega⟩⟩
    rintro σ H3 ⟨rfl, rfl, c4⟩
    refine ⟨fun σ H' => σ = [some (.ref e), some (.int m), some (.ref Tf), some (.ref D), none, none, some (.int s.length), none] ∧ H3 = H', ?_, ?_⟩
    · refine ⟨_, rfl, e, a, xs, p, g, .non, rfl, S.ob, S.li, hlv, false, rfl, iteF ⟨_, rfl, D, _, rfl, .inl (SqL.of hD), ?_⟩⟩
      rw [ls]
      exact ⟨rfl, rfl⟩
    rintro σ H3 ⟨rfl, rfl⟩
    have em2 : c + 2 - (m : Int) = (many : Int) := by omega
    have eD : s.map V.int = (List.range s.length).map (FN s) := by rw [range_fn (Nat.le_refl _), Nat.sub_self]; exact (List.append_nil _).symm
    rw [eD] at hD
    have fnF : ∀ j, FN s j = .non ∨ ∃ i : Int, FN s j = .int i := fun j => by
      by_cases h : j < s.length
      · exact .inr ⟨_, fn_low h⟩
      · exact .inl (fn_high (by omega))
    refine ⟨_, rfl, _, rfl, _, rfl, 1, rfl, D, _, _, .int c, rfl, rfl, SqL.of hD, by rw [← eD]; exact last_get lastS, _, _, rfl, rfl, _, rfl, _, _, rfl, rfl, _, rfl, D, FN s, U, s.length, many, m, .int s.length, ?_, hD, fun j _ => fnF j, by omega, by omega, by omega, by omega, fun i hi => pla_of (hU i) fun far => ?_, fun D4 H4 h4 s4 => ⟨(by show 3 ≤ sizeLine; decide), fun t ht => ?_⟩⟩
    · show [V.ref D, V.int (m : Int), V.int (c + 2 - (m : Int)), V.int (s.length : Int)] = _
      rw [em2]
    · refine (hU i).uniq (inv_at (t := s.length) (by rw [fn_high (Nat.le_refl _)]; exact ge_non) far)
    generalize g5 : upd H4 t _ = H5
    obtain ⟨s5, f5⟩ := alloc g5 ht
    obtain ⟨fi, ro⟩ := iF (by omega)
    have s35 := Same.trans s3 (Same.trans s4 s5)
    refine sho_due (K := K) (E := E) fi ro (fun j hj => ?_) f5 (s5 _ _ h4) (fun H' D' s => k1 _ _ _ _ _ _ D' (Same.trans s35 s)) (fun H' h s => k2 _ h (Same.trans s35 s))
    rcases hU j with ⟨z, _⟩ | ⟨t', z, _⟩
    · exact .inl z
    · have := iS j t' (by omega) z
      exact .inr ⟨_, z, by unfold SmallI; omega⟩
end
end WW
end

section
set_option Elab.async false
set_option linter.all false
set_option maxRecDepth 100000
set_option maxHeartbeats 8000000
namespace WW
open PySem L2 WO WG RZ WQ WT WC WV WY
open LamX (ExtN Tabs TabS TabB lamS_by)
theorem Sk.wide {L L' pm : Nat} {B B' : Int} {xs : List V} {p : Nat} {g : Int} (h : Sk L pm B xs p g) (l : L ≤ L') (b : B ≤ B') : Sk L' pm B' xs p g := by
  have wd : ∀ {s}, Within s B → Within s B' := fun w i x hx => ⟨(w i x hx).1, Int.le_trans (w i x hx).2 b⟩
  cases h with
  | mkI s p g h => exact .mkI s p g ⟨h.p0, h.pn, h.pm, Nat.le_trans h.le l, h.asc, wd h.wi, h.g0, Int.le_trans h.g1 b, h.fit⟩
  | mkN s k g le asc wi g0 g1 => exact .mkN s k g (Nat.le_trans le l) asc (wd wi) g0 (Int.le_trans g1 b)
/-- grown by more -/
theorem Sk.more {L pm : Nat} {B : Int} {xs : List V} {p : Nat} {g t : Int} (h : Sk L pm B xs p g) (t0 : 0 ≤ t) : Sk L pm (B + t) xs p (g + t) := by
  have wd : ∀ {s}, Within s B → Within s (B + t) := fun w i x hx => ⟨(w i x hx).1, by have := (w i x hx).2; omega⟩
  cases h with
  | mkI s p g h => exact .mkI s p (g + t) ⟨h.p0, h.pn, h.pm, h.le, h.asc, wd h.wi, by have := h.g0; omega, by have := h.g1; omega, fun x y e1 e2 => by have := h.fit x y e1 e2; omega⟩
  | mkN s k g le asc wi g0 g1 => exact .mkN s k (g + t) le asc (wd wi) (by omega) (by omega)
theorem ski_bd8 {B : Int} {s : List Int} {p : Nat} {g : Int} (h : SkI 8 6 B s p g) (j : Nat) : 0 ≤ MF.at_ s p g j ∧ MF.at_ s p g j ≤ B + ((j + 1 : Nat) : Int) * B := by
  have g0 := h.g0
  have g1 := h.g1
  have gd : ∀ i, i < s.length → 0 ≤ s.getD i 0 ∧ s.getD i 0 ≤ B := fun i hi => by
    rw [List.getD_eq_getElem?_getD, List.getElem?_eq_getElem hi]
    exact h.wi i _ (List.getElem?_eq_getElem hi)
  by_cases c : j < s.length
  · rw [MF.at_low c]
    have := gd j c
    have : 0 ≤ ((j + 1 : Nat) : Int) * B := Int.mul_nonneg (by omega) (by omega)
    omega
  · unfold MF.at_
    rw [if_neg c]
    have p0 := h.p0
    have pn := h.pn
    have hm := Nat.mod_add_div (j - s.length) p
    have hml := Nat.mod_lt (j - s.length) p0
    have hq : (j - s.length) / p ≤ j - s.length := Nat.div_le_self _ _
    generalize (j - s.length) / p = qq at *
    have hmul : (qq + 1) * p = p * qq + p := by rw [Nat.succ_mul, Nat.mul_comm]
    have := gd (j - (qq + 1) * p) (by omega)
    have m0 : 0 ≤ ((qq + 1 : Nat) : Int) * g := Int.mul_nonneg (by omega) g0
    have m1 : ((qq + 1 : Nat) : Int) * g ≤ ((j + 1 : Nat) : Int) * B := Int.mul_le_mul (by omega) g1 g0 (by omega)
    omega
theorem Sk.lsk {B : Int} {xs : List V} {p : Nat} {g : Int} (h : Sk 8 6 B xs p g) (hB : B ≤ 9000010) : ∃ L, LskV xs p g L := by
  cases h with
  | mkI s p g h =>
    have n0 : 0 < s.length := Nat.lt_of_lt_of_le h.p0 h.pn
    have pm := h.pm
    have le := h.le
    have g1 := h.g1
    refine ⟨_, .mkI s p g h.p0 h.pn (by omega), h.p0, pm, by rw [List.length_map]; exact h.pn, by rw [List.length_map]; exact le, h.g0, by omega, fun j i hj e => ?_⟩
    obtain rfl := V.int.inj e
    have b := ski_bd8 h j
    have g0 := h.g0
    have : ((j + 1 : Nat) : Int) * B ≤ 100001 * 9000010 := Int.mul_le_mul (by omega) hB (by omega) (by decide)
    omega
  | mkN s k g le asc wi g0 g1 =>
    have lx : (s.map V.int ++ List.replicate (k + 1) V.non).length = s.length + (k + 1) := by rw [List.length_append, List.length_map, List.length_replicate]
    refine ⟨_, .mkN s k 1 g, by decide, by decide, by rw [lx]; omega, by rw [lx]; omega, g0, by omega, fun j i hj e => ?_⟩
    by_cases c : j < s.length
    · rw [fn_low c] at e
      obtain rfl := V.int.inj e
      rw [List.getD_eq_getElem?_getD, List.getElem?_eq_getElem c]
      have := wi j _ (List.getElem?_eq_getElem c)
      show 0 ≤ s[j] ∧ s[j] ≤ _
      omega
    · rw [fn_high (by omega)] at e
      cases e
/-- due, as the law says it -/
def DueIs (H : Hp) (du : V) (U : Nat → V) (fl : Bool) (go : Prop) : Prop := (du = .non ∧ ∀ v q r, FormG U v q r → 4000 < v.length) ∨ ∃ (T b : Addr) (m p1 : Nat) (g1 : Int), du = .ref T ∧ DueAt H T b m p1 g1 U ∧ (go → inV .non ((List.range m).map U) = fl)
theorem DueAt.extN {H H' : Hp} {T b : Addr} {m p1 : Nat} {g1 : Int} {U : Nat → V} (h : DueAt H T b m p1 g1 U) (s : ExtN H H') : DueAt H' T b m p1 g1 U := ⟨s _ _ h.tu (fun _ z => by cases z), s _ _ h.li (fun _ z => by cases z), h.fi, h.row, h.sm, h.sh⟩
theorem DueIs.extN {H H' : Hp} {du : V} {U : Nat → V} {fl : Bool} {go : Prop} (h : DueIs H du U fl go) (s : ExtN H H') : DueIs H' du U fl go := by
  rcases h with h | ⟨T, b, m, p1, g1, e, D, f⟩
  · exact .inl h
  · exact .inr ⟨T, b, m, p1, g1, e, D.extN s, f⟩
section
variable {K : PySem.W.Frag} {H : Hp} {W C CB CN CT x y : Addr} {L M U : Nat → V} {v v' : List V} {q q' : Nat} {r r' : Int} {tl : TL}
theorem caught_errc {E ad d' : Addr} {f : Str} {yv : V} {H H' : Hp} (rd : Raised H f yv d' H') (ha : H' ad = none) : ErrC (upd H' ad (Caught (.ref E) (some d') ad)) ad E (some (f, yv)) ∧ Same H (upd H' ad (Caught (.ref E) (some d') ad)) := by
  generalize g7 : upd H' ad _ = HG
  obtain ⟨s7, f7⟩ := alloc g7 ha
  exact ⟨.with_ f7 (s7 _ _ rd.2.1), Same.trans rd.2.2 s7⟩
end
end WW
end

section
set_option Elab.async false
set_option linter.all false
set_option maxRecDepth 100000
set_option maxHeartbeats 4000000
/-! of several defs that a name may hold, such as raise: the promise goes with the address -/
namespace WY
open PySem PySem.Spec L2 PyProof.Rows
structure HeldX (P : Program) (w : World) (K : PySem.W.Frag) (mg : Str → Option Value) (base : Heap) (k : Nat) (f : Addr) (sp : Sp) : Prop where
  ex : ∃ (fd : FuncData) (ps : List Str), FnOk P w K mg base (L2.CX P w) k f fd ps sp ∧ PySem.W.keepIn K (.ref f) = true ∧ Binds K fd ps []
theorem HeldX.of {P : Program} {w : World} {K : PySem.W.Frag} {mg : Str → Option Value} {base : Heap} {k : Nat} {f : Addr} {fd : FuncData} {ps : List Str} {sp : Sp} (h : FnOk P w K mg base (L2.CX P w) k f fd ps sp) (kp : PySem.W.keepIn K (.ref f) = true) (b : Binds K fd ps []) : HeldX P w K mg base k f sp := ⟨_, _, h, kp, b⟩
variable {X : Cx} {k i : Nat} {E : XK} {x : Str} {p pos : Pos} {e : Expr} {es : List Expr} {t : TA}
theorem pe_callAX {S : Addr → Sp → Prop} (A : ∀ f sp, S f sp → HeldX X.prog X.w X.K X.mg X.base k f sp) (hr : Room k X.A) (hN : X.N[i]? = some x) (hv : Vis X.env.scope x) (hx : Passes (L2.CX X.prog X.w) X E) (ha : PA X (e :: es) t)
    (hdb : (x == ("__debug__" : Str)) = false := by decide) (hcd : (x == ("__classdict__" : Str)) = false := by decide)
    (he : starEach (e :: es) X.env = (false, eval e X.env) :: starEach es X.env := by rfl) (hpl : (backTo pos (starEach es X.env)).any (·.1) = false := by rfl) :
    PE X (.Call (.Name x p) (e :: es) [] pos) (fun σ H Q => ∃ f sp, σ[i]? = some (some (.ref f)) ∧ S f sp ∧ t σ H fun vs H1 => sp vs H1 Q E) := by
  refine ⟨fun pins s σ H Q I h => ?_⟩
  obtain ⟨f, sp, hs, hS, ht⟩ := h
  obtain ⟨fd, ps, F, hk, hb⟩ := (A f sp hS).ex
  refine (pe_callL (i := i) (f := f) (sp := sp) (dvs := []) (E := E) F hr hN hv hk hb .nil hx ha hdb hcd he hpl).run pins s σ H Q I ⟨hs, ?_⟩
  have e0 : (fun (vs : List V) (H1 : Hp) => sp (vs ++ []) H1 Q E) = fun vs H1 => sp vs H1 Q E := by
    funext vs H1
    rw [List.append_nil]
  show t σ H (fun vs H1 => sp (vs ++ []) H1 Q E)
  rw [e0]
  exact ht
theorem pt_either {t u : TT} (h1 : PT X e t) (h2 : PT X e u) : PT X e (fun σ H Q => t σ H Q ∨ u σ H Q) := by
  refine ⟨fun pins s σ H Q I h => ?_⟩
  rcases h with h | h
  · exact h1.run pins s σ H Q I h
  · exact h2.run pins s σ H Q I h
/-- a promise as a thing of its own, not to be looked into -/
structure Wrap (sp : Sp) (vs : List V) (H : Hp) (Q : VK) (E : XK) : Prop where
  out : sp vs H Q E
def wr (sp : Sp) : Sp := fun vs H Q E => Wrap sp vs H Q E
section
variable {P : Program} {w : World} {K : PySem.W.Frag} {mg : Str → Option Value} {base : Heap} {CX : CXT} {ps : List Str} {sp : Sp}
theorem Cal_wr {x : Str} {k : Nat} (c : WC.Cal P w K mg base CX k x ps sp) : WC.Cal P w K mg base CX k x ps (wr sp) := by
  obtain ⟨f, fd, F, kp, b, m⟩ := c.ex
  exact ⟨f, fd, F.imp fun vs H Q E h => h.out, kp, b, m⟩
theorem CalG_wr {x : Str} {k : Nat} (c : WC.CalG P w K mg base CX k x ps sp) : WC.CalG P w K mg base CX k x ps (wr sp) := by
  obtain ⟨f, fd, F, kp, b, m⟩ := c.ex
  exact ⟨f, fd, ⟨fun vs H Q E h => F.len vs H Q E h.out, fun A outer s H args us vs Q E hr hga e0 hb r hsp => F.run A outer s H args us vs Q E hr hga e0 hb r hsp.out⟩, kp, b, m⟩
end
end WY
end

section
set_option Elab.async false
set_option linter.all false
set_option maxRecDepth 100000
set_option maxHeartbeats 8000000
namespace WW
open PySem L2 WO WG RZ WQ WT WL WC WV WY
open LamX (ExtN Tabs TabS TabB lamS_by)
abbrev sTri : Stmt := top 76
abbrev sL2 : Stmt := top 77
abbrev sL1 : Stmt := top 78
def IsC4 (H : Hp) (C x : Addr) (U : Nat → V) : Prop := ∃ (v : List V) (q : Nat) (r : Int), CurveAt H C x v q r ∧ FormG U v q r ∧ v.length ≤ 4000
/-- that there is a curve of U that is not too long -/
def Fit (U : Nat → V) : Prop := ∃ (v : List V) (q : Nat) (r : Int), FormG U v q r ∧ v.length ≤ 4000
/-- the curve of U, or None where that is too long -/
def MbC (H : Hp) (C : Addr) (U : Nat → V) (z : V) : Prop := (z = .non ∧ ¬ Fit U) ∨ ∃ a : Addr, z = .ref a ∧ IsC4 H C a U
theorem IsC4.fit {H : Hp} {C a : Addr} {U : Nat → V} (h : IsC4 H C a U) : Fit U := by
  obtain ⟨v, q, r, _, fg, l⟩ := h
  exact ⟨v, q, r, fg, l⟩
theorem IsC4.cur {H : Hp} {C a : Addr} {U : Nat → V} (h : IsC4 H C a U) : IsCur H C a U := by
  obtain ⟨v, q, r, cu, fg, l⟩ := h
  exact ⟨v, q, r, cu, fg⟩
theorem IsC4.extN {H H' : Hp} {C x : Addr} {L : Nat → V} (h : IsC4 H C x L) (s : ExtN H H') : IsC4 H' C x L := by
  obtain ⟨v, q, r, cu, h2⟩ := h
  exact ⟨v, q, r, cu.extN s, h2⟩
theorem MbC.extN {H H' : Hp} {C : Addr} {U : Nat → V} {z : V} (h : MbC H C U z) (s : ExtN H H') : MbC H' C U z := by
  rcases h with h | ⟨a, e, h⟩
  · exact .inl h
  · exact .inr ⟨a, e, h.extN s⟩
theorem MbC.same {H H' : Hp} {C : Addr} {U : Nat → V} {z : V} (h : MbC H C U z) (s : Same H H') : MbC H' C U z := h.extN (ExtN.of_same s)
/-- x == y of two curves of one function -/
theorem eq_cur1 {K : PySem.W.Frag} {mg : Str → Option Value} {C fI fE : Addr} {E : XK} {H : Hp} {Q : VK} {x y : Addr} {L : Nat → V} (U : CurT K mg C fI fE) (h1 : IsCur H C x L) (h2 : IsCur H C y L) (k : ∀ H', Same H H' → Q (.bl true) H') : rOw K C (spEqC K C) E (.ref x) (.ref y) H Q := by
  obtain ⟨v, q, r, c1, f1⟩ := h1
  obtain ⟨v', q', r', c2, f2⟩ := h2
  obtain ⟨rfl, rfl, rfl⟩ := f1.uniq f2
  obtain ⟨dx, tx, x1, x2⟩ := id c1
  obtain ⟨dy, ty, y1, y2⟩ := id c2
  refine ⟨x, dx, _, .ref C, rfl, x1, .base (.ins y1 U.cl U.cc U.cg U.ct U.co), U.nfC, x, .ref y, v, q, r, rfl, c1, f1.flat, .inl ⟨y, v, q, r, rfl, c2, f2.flat, fun H8 s8 => ⟨⟨_, rfl⟩, ?_⟩⟩⟩
  rw [decide_eq_true ⟨rfl, rfl, rfl⟩]
  exact k H8 s8
section
variable {P : Program} {w : World} {K : PySem.W.Frag} {mg : Str → Option Value} {base : Heap}
abbrev nTri : List Str := ["work"]
theorem scTri : FnScope nTri ["work"] (defScope sTri) := ⟨rfl, rfl, rfl, by decide +kernel, rfl, by decide +kernel, by decide +kernel⟩
/-- that the lambda raises such an error -/
def ErrsX (K : PySem.W.Frag) (W E : Addr) (f : Str) (y : V) (tl : TL) (H : Hp) : Prop := ∀ Qc : VK, (∀ ad H', ErrC H' ad E (some (f, y)) → Same H H' → Qc (.ref ad) H') → TTc K W tl H Qc
/-- what _law_tried is handed: the lambda makes the curve of U, or is TooMany where that is too long -/
def TriSay (K : PySem.W.Frag) (W C CT : Addr) (tl : TL) (U : Nat → V) (H : Hp) : Prop := (¬ Fit U ∧ ErrsX K W CT "most" (.int 4000) tl H) ∨ (Fit U ∧ (∀ Qc : VK, (∀ H', Same H H' → Qc .non H') → TTc K W tl H Qc) ∧ ∀ H', Same H H' → ∀ Qc : VK, (∀ z H'', IsC4 H'' C z U → Same H' H'' → Qc (.ref z) H'') → tl C8.E0 H' Qc)
section
variable {A : Around} {O : List Env} {s : Shared} {H : Hp} {cdv : Value} {g fC W CT C : Addr} {dC : FuncData} {d : LD} {tl : TL} {f c' : Addr} {Q : VK}
theorem tri_body {U : Nat → V} (hr : Room 11 (A.deeper (PyProof.Rows.envOfC "_law_tried" (defScope sTri) s.heap.objs.size g cdv))) (T : CurG mg) (FC : Fun K "_law_caught" "_law_caught" sCaught fC dC) (bC : L2.Binds K dC ["work"] []) (mC : mg "_law_caught" = some (.ref fC)) (mW : mg "WaitError" = some (.ref W)) (ET : ErrGf K W CT "most") (mCT : mg "TooMany" = some (.ref CT)) (nT : PySem.W.kitOne K (.type "NoneType") (.ref CT) = some false)
    (hL : LamCall P w K mg base 9 d tl O s H) (hd : d.at_ H f c') (kq : ∀ z H', MbC H' C U z → Same H H' → Q z H') (h : TriSay K W C CT tl U H) :
    ∃ t, PSs (cxOf CX0 P w K mg base nTri "_law_tried" (defScope sTri) g cdv A O s H C8.E0).nox (defBody sTri) t ∧ t { nx := fun _ H' => Q .non H', rt := Q } (L2.start nTri [.ref f]) H := by
  have kn : Knows (cxOf CX0 P w K mg base nTri "_law_tried" (defScope sTri) g cdv A O s H C8.E0).nox 9 (fun _ : Unit => d) (fun _ _ => tl) := Knows.of fun _ => hL
  refine ⟨_, (C8.pss_cut (ps_if (pt_val (pe_callB (r := rIsA K) call_isA (by rfl) T.isi (by decide +kernel) (pa_cons (pe_caughtL kn FC bC rfl mC mW hr (pa_cons (pv 0) pa_nil)) (pa_cons (pe_glob (v := .ref CT) rfl mCT rfl) pa_nil)))) (pss_one
 (ps_ret pe_non)) pss_nil)
 (pss_one
 (ps_ret (WY.pe_actL (i := 0) kn (hr.mono (by decide)) passF rfl (Or.inl rfl))))), ?_⟩
  rcases h with ⟨nf, h⟩ | ⟨ft, h1, h2⟩
  · refine ⟨fun _ _ => False, ?_, fun _ _ z => z.elim⟩
    refine ⟨_, rfl, (), f, c', rfl, hd, h _ fun ad H' er s' => ?_⟩
    exact .inl ⟨ad, CT, some ("most", .int 4000), .ref CT, .ref CT, true, rfl, er, .own _, ET.ask, ET.one, true, rfl, iteT (kq .non H' (.inl ⟨rfl, nf⟩) s')⟩
  · refine ⟨fun σ H' => σ = [some (.ref f)] ∧ Same H H', ?_, ?_⟩
    · refine ⟨_, rfl, (), f, c', rfl, hd, h1 _ fun H' s' => ?_⟩
      exact .inr ⟨.non, .ref CT, .type "NoneType", _, false, rfl, .own _, .base .non, nT, false, rfl, iteF ⟨rfl, s'⟩⟩
    rintro σ H1 ⟨rfl, s1⟩
    exact ⟨(), f, c', rfl, LD.at_same hd s1, h2 H1 s1 _ fun z H2 cz s2 => kq _ _ (.inr ⟨z, rfl, cz⟩) (Same.trans s1 s2)⟩
end
end
section
variable {X : Cx} {ι : Type} {d : ι → LD} {tl : ι → L2.St → TL} {g fC W CT C : Addr} {fd dC : FuncData} {p pos : Pos} {ta : TA} {e1 : Expr}
theorem pe_triL (kn : Knows X 9 d tl) (F : Fun X.K "_law_tried" "_law_tried" sTri g fd) (hb : L2.Binds X.K fd ["work"] []) (hg : Gl X "_law_tried") (hm : X.mg "_law_tried" = some (.ref g)) (hr : Room 12 X.A)
    (T : CurG X.mg) (FC : Fun X.K "_law_caught" "_law_caught" sCaught fC dC) (bC : L2.Binds X.K dC ["work"] []) (mC : X.mg "_law_caught" = some (.ref fC)) (mW : X.mg "WaitError" = some (.ref W)) (ET : ErrGf X.K W CT "most") (mCT : X.mg "TooMany" = some (.ref CT)) (nT : PySem.W.kitOne X.K (.type "NoneType") (.ref CT) = some false)
    (ha : PA X [e1] ta) (he : starEach [e1] X.env = (false, eval e1 X.env) :: starEach [] X.env := by rfl) (hpl : (backTo pos (starEach [] X.env)).any (·.1) = false := by rfl) :
    PE X (.Call (.Name "_law_tried" p) [e1] [] pos) (fun σ H Q => ta σ H fun vs H1 => ∃ j f c' U, vs = [.ref f] ∧ (d j).at_ H1 f c' ∧ TriSay X.K W C CT (tl j σ) U H1 ∧ ∀ z H', MbC H' C U z → Same H1 H' → Q z H') :=
  pe_callI (G := fun σ vs H1 Q => ∃ j f c' U, vs = [.ref f] ∧ (d j).at_ H1 f c' ∧ TriSay X.K W C CT (tl j σ) U H1 ∧ ∀ z H', MbC H' C U z → Same H1 H' → Q z H') (kk := 11) F scTri hb hg hm hr
    (fun pins σ H s vs Q cdv I ⟨j, f, c', U, e, hd, h, kq⟩ => ⟨by rw [e] <;> rfl, fun hr' => by
      subst e
      exact tri_body hr' T FC bC mC mW ET mCT nT (kn pins σ H s I j) hd kq h⟩) ha (by decide) he hpl
end
def retE : Stmt → Expr
  | .Return (some e) _ => e
  | _ => .Constant .none 0 ⟨0, 0, 0, 0⟩
def argsE : Expr → List Expr
  | .Call _ es _ _ => es
  | _ => []
def lamX2 : Expr := (argsE (retE ((defBody sL2).getD 1 (.Pass ⟨0, 0, 0, 0⟩)))).getD 0 (.Constant .none 0 ⟨0, 0, 0, 0⟩)
def lamP2 : Expr → Arguments
  | .Lambda p _ _ _ => p
  | _ => ⟨[], [], none, [], [], none, []⟩
def lamB2 : Expr → Expr
  | .Lambda _ b _ _ => b
  | e => e
def lamC2 : Expr → Scope
  | .Lambda _ _ s _ => s
  | _ => ⟨.function, [], false, false, []⟩
section
variable {P : Program} {w : World} {K : PySem.W.Frag} {mg : Str → Option Value} {base : Heap}
abbrev nL2 : List Str := ["ask", "one", "other"]
theorem scL2 : FnScope nL2 ["ask", "one", "other"] (defScope sL2) := ⟨rfl, rfl, rfl, by decide +kernel, rfl, by decide +kernel, by decide +kernel⟩
abbrev lamQ2 : Str := "_law_two.<locals>.<lambda>"
def spL2 (K : PySem.W.Frag) (C CT : Addr) (TT : List (Addr × Str)) (S : Addr → Sp → Prop) : Sp := fun vs H Q _ => ∃ (f : Addr) (x y : V), vs = [.ref f, x, y] ∧ Tabs TT H ∧
  (((x = .non ∨ y = .non) ∧ Q .non H) ∨
   (x ≠ .non ∧ y ≠ .non ∧ ∃ (sp : Sp) (U : Nat → V), S f sp ∧ (∀ H', ExtN H H' → ∀ (Q' : VK) (E' : XK), Hands C CT U H' Q' E' → sp [x, y] H' Q' E') ∧
     ∀ (z : V) (H' : Hp), MbC H' C U z → ExtN H H' → Tabs TT H' → Q z H'))
theorem ok_l2 {f fC fT c tb2 W C CT : Addr} {TT : List (Addr × Str)} {fd dC dT : FuncData} {S : Addr → Sp → Prop} (F : Fun K "_law_two" "_law_two" sL2 f fd) (hcode : fd.code = .ref c) (TB : TabB base mg c tb2) (mTT : (tb2, lamQ2) ∈ TT) (uTT : ∀ p ∈ TT, p.1 = tb2 → p.2 = lamQ2) (T : CurG mg) (AH : ∀ f sp, S f sp → HeldX P w K mg base 9 f sp)
    (FC : Fun K "_law_caught" "_law_caught" sCaught fC dC) (bC : L2.Binds K dC ["work"] []) (mC : mg "_law_caught" = some (.ref fC)) (FT : Fun K "_law_tried" "_law_tried" sTri fT dT) (bT' : L2.Binds K dT ["work"] []) (mT' : mg "_law_tried" = some (.ref fT))
    (mW : mg "WaitError" = some (.ref W)) (ET : ErrGf K W CT "most") (mCT : mg "TooMany" = some (.ref CT)) (nT : PySem.W.kitOne K (.type "NoneType") (.ref CT) = some false) :
    FnG P w K mg base CX0 13 f fd ["ask", "one", "other"] (spL2 K C CT TT S) := by
  refine okC F hcode scL2 (fun vs H Q E h => ?_) (fun A outer s H vs Q E hr hgu h => ?_)
  · obtain ⟨fa, x, y, rfl, _⟩ := h
    rfl
  · obtain ⟨fa, x, y, rfl, TB0, h⟩ := h
    refine ⟨_, (C8.pss_cut (ps_if (PW.pt (pw_or (pt_cmpR op_isN (pv 1) pe_non (nomark _)) (pw_or1 (pt_cmpR op_isN (pv 2) pe_non (nomark _))))) (pss_one
 (ps_ret pe_non)) pss_nil)
 (pss_one
 (ps_ret (pe_triL (C := C) (WY.Knows.mk1 (k := 9) (pr := lamP2 lamX2) (bd := lamB2 lamX2) (sc := lamC2 lamX2) (lamS_by (sc := defScope sL2) (by decide +kernel)) (fun _ _ _ _ _ => by rfl)
                (fun A outer s H E f c' hr' => (WY.pe_callAX (S := S) (i := 0) AH (hr'.mono (by decide)) rfl (Or.inr (Or.inr rfl)) (passX (takes_of rfl rfl rfl rfl) fun _ _ _ _ h => h) (pa_cons (pv 1) (pa_cons (pv 2) pa_nil)))))
      FT bT' rfl mT' hr T FC bC mC mW ET mCT nT (pa_cons (pe_lamV (T := TT) TB rfl mTT uTT (by rfl) (lamS_by (sc := defScope sL2) (by decide +kernel))) pa_nil))))), ?_⟩
    rcases h with ⟨hn, k⟩ | ⟨nx, ny, sp, U, hS, ask, k⟩
    · refine ⟨fun _ _ => False, ?_, fun _ _ z => z.elim⟩
      refine ⟨_, rfl, rfl, ?_⟩
      by_cases c : x = .non
      · exact ⟨true, bT c, iteT (iteT k)⟩
      · exact ⟨false, bF c, iteF ⟨_, rfl, rfl, true, bT (hn.resolve_left c), iteT k⟩⟩
    · refine ⟨fun σ H' => σ = [some (.ref fa), some x, some y] ∧ H' = H, ?_, ?_⟩
      · exact ⟨_, rfl, rfl, false, bF nx, iteF ⟨_, rfl, rfl, false, bF ny, iteF ⟨rfl, rfl⟩⟩⟩
      rintro σ H ⟨rfl, rfl⟩
      refine ⟨TB0, fun f1 c1 H2 x2 T2 n1 hc1 => ?_⟩
      generalize g2 : upd H2 f1 _ = H3
      obtain ⟨s2, hf1⟩ := alloc g2 n1
      have a1 : ExtN H H3 := x2.trans (ExtN.of_same s2)
      refine ⟨(), f1, c1, U, rfl, ⟨hf1, s2 _ _ hc1⟩, ?_, fun z H' m s' => k z H' m (a1.trans (ExtN.of_same s')) (Tabs.same (Tabs.same T2 s2) s')⟩
      by_cases ft : Fit U
      · have ex : ¬ ∀ v q r, FormG U v q r → 4000 < v.length := fun h => by
          obtain ⟨v, q, r, fg, l⟩ := ft
          have := h v q r fg
          omega
        refine .inr ⟨ft, fun Qc kc => ?_, fun H4 s4 Qc kc => ?_⟩
        · exact ⟨fa, sp, rfl, hS, _, rfl, _, rfl, ask _ a1 _ _ ⟨fun v p g z H' fg l hz cu s' => ⟨.non, rfl, kc H' s'⟩, fun h => absurd h ex⟩⟩
        · exact ⟨fa, sp, rfl, hS, _, rfl, _, rfl, ask _ (a1.trans (ExtN.of_same s4)) _ _ ⟨fun v p g z H' fg l hz cu s' => kc z H' ⟨v, p, g, cu, fg, l⟩ s', fun h => absurd h ex⟩⟩
      · refine .inl ⟨ft, fun Qc kc => ?_⟩
        exact ⟨fa, sp, rfl, hS, _, rfl, _, rfl, ask _ a1 _ _ ⟨fun v p g z H' fg l => absurd ⟨v, p, g, fg, l⟩ ft, fun _ d' H' rd => ⟨ET.ex, fun ad ha => by
          generalize g7 : upd H' ad _ = HG
          obtain ⟨s7, f7⟩ := alloc g7 ha
          exact kc ad _ (.with_ f7 (s7 _ _ rd.2.1)) (Same.trans rd.2.2 s7)⟩⟩⟩
end
def ifB : Expr → Expr
  | .IfExp _ _ e _ => e
  | e => e
def lamX1 : Expr := (argsE (ifB (retE ((defBody sL1).getD 0 (.Pass ⟨0, 0, 0, 0⟩))))).getD 0 (.Constant .none 0 ⟨0, 0, 0, 0⟩)
section
variable {P : Program} {w : World} {K : PySem.W.Frag} {mg : Str → Option Value} {base : Heap}
abbrev nL1 : List Str := ["ask", "thing"]
theorem scL1 : FnScope nL1 ["ask", "thing"] (defScope sL1) := ⟨rfl, rfl, rfl, by decide +kernel, rfl, by decide +kernel, by decide +kernel⟩
abbrev lamQ1 : Str := "_law_one.<locals>.<lambda>"
def spL1 (K : PySem.W.Frag) (C CT : Addr) (TT : List (Addr × Str)) (S : Addr → Sp → Prop) : Sp := fun vs H Q _ => ∃ (f : Addr) (x : V), vs = [.ref f, x] ∧ Tabs TT H ∧
  ((x = .non ∧ Q .non H) ∨
   (x ≠ .non ∧ ∃ (sp : Sp) (U : Nat → V), S f sp ∧ (∀ H', ExtN H H' → ∀ (Q' : VK) (E' : XK), Hands C CT U H' Q' E' → sp [x] H' Q' E') ∧
     ∀ (z : V) (H' : Hp), MbC H' C U z → ExtN H H' → Tabs TT H' → Q z H'))
theorem ok_l1 {f fC fT c tb1 W C CT : Addr} {TT : List (Addr × Str)} {fd dC dT : FuncData} {S : Addr → Sp → Prop} (F : Fun K "_law_one" "_law_one" sL1 f fd) (hcode : fd.code = .ref c) (TB : TabB base mg c tb1) (mTT : (tb1, lamQ1) ∈ TT) (uTT : ∀ p ∈ TT, p.1 = tb1 → p.2 = lamQ1) (T : CurG mg) (AH : ∀ f sp, S f sp → HeldX P w K mg base 9 f sp)
    (FC : Fun K "_law_caught" "_law_caught" sCaught fC dC) (bC : L2.Binds K dC ["work"] []) (mC : mg "_law_caught" = some (.ref fC)) (FT : Fun K "_law_tried" "_law_tried" sTri fT dT) (bT' : L2.Binds K dT ["work"] []) (mT' : mg "_law_tried" = some (.ref fT))
    (mW : mg "WaitError" = some (.ref W)) (ET : ErrGf K W CT "most") (mCT : mg "TooMany" = some (.ref CT)) (nT : PySem.W.kitOne K (.type "NoneType") (.ref CT) = some false) :
    FnG P w K mg base CX0 13 f fd ["ask", "thing"] (spL1 K C CT TT S) := by
  refine okC F hcode scL1 (fun vs H Q E h => ?_) (fun A outer s H vs Q E hr hgu h => ?_)
  · obtain ⟨fa, x, rfl, _⟩ := h
    rfl
  · obtain ⟨fa, x, rfl, TB0, h⟩ := h
    refine ⟨_, (pss_one
 (ps_ret (pe_ifExp (pt_cmpR op_isN (pv 1) pe_non (nomark _)) pe_non (pe_triL (C := C) (WY.Knows.mk1 (k := 9) (pr := lamP2 lamX1) (bd := lamB2 lamX1) (sc := lamC2 lamX1) (lamS_by (sc := defScope sL1) (by decide +kernel)) (fun _ _ _ _ _ => by rfl)
                (fun A outer s H E f c' hr' => (WY.pe_callAX (S := S) (i := 0) AH (hr'.mono (by decide)) rfl (Or.inr (Or.inr rfl)) (passX (takes_of rfl rfl rfl rfl) fun _ _ _ _ h => h) (pa_cons (pv 1) pa_nil))))
      FT bT' rfl mT' hr T FC bC mC mW ET mCT nT (pa_cons (pe_lamV (T := TT) TB rfl mTT uTT (by rfl) (lamS_by (sc := defScope sL1) (by decide +kernel))) pa_nil))))), ?_⟩
    rcases h with ⟨rfl, k⟩ | ⟨nx, sp, U, hS, ask, k⟩
    · exact ⟨_, rfl, rfl, true, rfl, iteT k⟩
    · refine ⟨_, rfl, rfl, false, bF nx, iteF ?_⟩
      refine ⟨TB0, fun f1 c1 H2 x2 T2 n1 hc1 => ?_⟩
      generalize g2 : upd H2 f1 _ = H3
      obtain ⟨s2, hf1⟩ := alloc g2 n1
      have a1 : ExtN H H3 := x2.trans (ExtN.of_same s2)
      refine ⟨(), f1, c1, U, rfl, ⟨hf1, s2 _ _ hc1⟩, ?_, fun z H' m s' => k z H' m (a1.trans (ExtN.of_same s')) (Tabs.same (Tabs.same T2 s2) s')⟩
      by_cases ft : Fit U
      · have ex : ¬ ∀ v q r, FormG U v q r → 4000 < v.length := fun h => by
          obtain ⟨v, q, r, fg, l⟩ := ft
          have := h v q r fg
          omega
        refine .inr ⟨ft, fun Qc kc => ?_, fun H4 s4 Qc kc => ?_⟩
        · exact ⟨fa, sp, rfl, hS, _, rfl, ask _ a1 _ _ ⟨fun v p g z H' fg l hz cu s' => ⟨.non, rfl, kc H' s'⟩, fun h => absurd h ex⟩⟩
        · exact ⟨fa, sp, rfl, hS, _, rfl, ask _ (a1.trans (ExtN.of_same s4)) _ _ ⟨fun v p g z H' fg l hz cu s' => kc z H' ⟨v, p, g, cu, fg, l⟩ s', fun h => absurd h ex⟩⟩
      · refine .inl ⟨ft, fun Qc kc => ?_⟩
        exact ⟨fa, sp, rfl, hS, _, rfl, ask _ a1 _ _ ⟨fun v p g z H' fg l => absurd ⟨v, p, g, fg, l⟩ ft, fun _ d' H' rd => ⟨ET.ex, fun ad ha => by
          generalize g7 : upd H' ad _ = HG
          obtain ⟨s7, f7⟩ := alloc g7 ha
          exact kc ad _ (.with_ f7 (s7 _ _ rd.2.1)) (Same.trans rd.2.2 s7)⟩⟩⟩
end
abbrev lamQ : Str := "law.<locals>.<lambda>"
/-- the three tables of code -/
def TQ (tb tb1 tb2 : Addr) : List (Addr × Str) := [(tb, lamQ), (tb1, lamQ1), (tb2, lamQ2)]
end WW
end

section
set_option Elab.async false
set_option linter.all false
set_option maxRecDepth 100000
set_option maxHeartbeats 8000000
namespace WW
open PySem L2 WO WG RZ WQ WT WC
/-! ### there and back -/
theorem UpL.ge {L : Nat → V} (up : UpL L) {s t : Nat} {k : Int} (l : s ≤ t) (h : Ge (L s) k) : Ge (L t) k := by
  rcases up.fl t with e | ⟨i, e, _⟩
  · rw [e]; exact ge_non
  · obtain ⟨i', e', l'⟩ := up.mo s t i l e
    rw [e'] at h
    rw [e]
    have := ge_int.mp h
    exact ge_int.mpr (by omega)
theorem upinv {L U : Nat → V} {m : Nat} (hU : ∀ n, InvA L m n (U n)) : UpL U where
  fl j := by
    rcases hU j with ⟨e, _⟩ | ⟨t, e, _⟩
    · exact .inl e
    · exact .inr ⟨t, e, Int.natCast_nonneg _⟩
  mo s t k l e := by
    rcases hU t with ⟨z, _⟩ | ⟨t', z, ge, _⟩
    · rw [z] at e; cases e
    · rw [z] at e
      have e := V.int.inj e
      rcases hU s with ⟨_, no⟩ | ⟨s', e', _, lo⟩
      · exact absurd (ge.le (by omega)) (no t')
      · refine ⟨s', e', ?_⟩
        have : ¬ t' < s' := fun h => lo t' h (ge.le (by omega))
        omega
theorem inv_ge {L : Nat → V} {m j : Nat} {x : V} (up : UpL L) (h : InvA L m j x) (t : Nat) : Ge x ((t : Int) + 1) ↔ ¬ Ge (L t) ((j : Int) + (m : Int)) := by
  rcases h with ⟨rfl, no⟩ | ⟨t', rfl, ge, lo⟩
  · exact ⟨fun _ => no t, fun _ => ge_non⟩
  · rw [ge_int]
    constructor
    · exact fun l => lo t (by omega)
    · intro ng
      have : ¬ t' ≤ t := fun l => ng (up.ge l ge)
      omega
theorem back_rai {L N : Nat → V} (up : UpL L) (hN : ∀ j, InvA L 0 j (N j)) (n : Nat) : InvA N 1 n (raiV L 1 n) := by
  have key := fun j => inv_ge up (hN j) n
  rcases up.fl n with e | ⟨i, e, i0⟩
  · refine .inl ⟨by unfold raiV; rw [e], fun j hj => (key j).mp hj ?_⟩
    rw [e]; exact ge_non
  · refine .inr ⟨(i + 1).toNat, by unfold raiV; rw [e]; show V.int (i + 1) = _; congr 1; omega, (key _).mpr fun z => ?_, fun s hs z => (key s).mp z ?_⟩
    · rw [e] at z
      have := ge_int.mp z
      omega
    · rw [e]
      exact ge_int.mpr (by omega)
theorem back_lat {L N : Nat → V} (up : UpL L) (hN : ∀ j, InvA L 1 j (N j)) (n : Nat) : InvA N 0 n (latV L 1 n) := by
  cases n with
  | zero =>
    refine .inr ⟨0, rfl, ?_, fun s hs => absurd hs (Nat.not_lt_zero s)⟩
    rcases (upinv hN).fl 0 with e | ⟨i, e, i0⟩
    · rw [e]; exact ge_non
    · rw [e]; exact ge_int.mpr (by omega)
  | succ t =>
    have key := fun j => inv_ge up (hN j) t
    have eq : latV L 1 (t + 1) = L t := by
      unfold latV
      rw [if_neg (by omega), Nat.add_sub_cancel]
    rw [eq]
    have cs : (((t + 1 : Nat) : Int) + ((0 : Nat) : Int)) = (t : Int) + 1 := by omega
    rcases up.fl t with e | ⟨i, e, i0⟩
    · refine .inl ⟨e, fun j hj => ?_⟩
      rw [cs] at hj
      exact (key j).mp hj (by rw [e]; exact ge_non)
    · refine .inr ⟨i.toNat, by rw [e]; congr 1; omega, ?_, fun s hs z => ?_⟩
      · rw [cs]
        refine (key _).mpr fun z => ?_
        rw [e] at z
        have := ge_int.mp z
        omega
      · rw [cs] at z
        refine (key s).mp z ?_
        rw [e]
        exact ge_int.mpr (by omega)
/-! ### the inverse of a folding -/
section
variable {L M W A B : Nat → V} {n : Nat}
theorem bad_iff (uL : UpL L) (uM : UpL M) (hW : ∀ t, FoA L M t (W t)) (hA : ∀ i, InvA L 1 i (A i)) (hB : ∀ i, InvA M 1 i (B i)) (t : Nat) :
    ¬ Ge (W t) ((n : Int) + ((1 : Nat) : Int)) ↔ ∃ i s, i ≤ n ∧ s ≤ t ∧ Ge (A i) ((s : Int) + 1) ∧ Ge (B (n - i)) (((t - s : Nat) : Int) + 1) := by
  constructor
  · intro h
    rcases hW t with ⟨e, _⟩ | ⟨m, e, ⟨s, st, a, b, ea, eb, em⟩, _⟩
    · rw [e] at h; exact absurd ge_non h
    · rw [e] at h
      have h : ¬ ((n : Int) + ((1 : Nat) : Int) ≤ m) := fun z => h (ge_int.mpr z)
      have a0 : 0 ≤ a := by
        rcases uL.fl s with z | ⟨i, z, i0⟩
        · rw [z] at ea; cases ea
        · rw [z] at ea; rw [← V.int.inj ea]; exact i0
      have b0 : 0 ≤ b := by
        rcases uM.fl (t - s) with z | ⟨i, z, i0⟩
        · rw [z] at eb; cases eb
        · rw [z] at eb; rw [← V.int.inj eb]; exact i0
      refine ⟨a.toNat, s, by omega, st, (inv_ge uL (hA _) s).mpr fun z => ?_, (inv_ge uM (hB _) (t - s)).mpr fun z => ?_⟩
      · rw [ea] at z
        have := ge_int.mp z
        omega
      · rw [eb] at z
        have := ge_int.mp z
        omega
  · rintro ⟨i, s, hi, hs, h1, h2⟩ ge
    have h1 := (inv_ge uL (hA _) s).mp h1
    have h2 := (inv_ge uM (hB _) (t - s)).mp h2
    rcases uL.fl s with z | ⟨a, ea, _⟩
    · rw [z] at h1; exact h1 ge_non
    rcases uM.fl (t - s) with z | ⟨b, eb, _⟩
    · rw [z] at h2; exact h2 ge_non
    rw [ea] at h1
    rw [eb] at h2
    have h1 : ¬ ((i : Int) + ((1 : Nat) : Int) ≤ a) := fun z => h1 (ge_int.mpr z)
    have h2 : ¬ (((n - i : Nat) : Int) + ((1 : Nat) : Int) ≤ b) := fun z => h2 (ge_int.mpr z)
    rcases hW t with ⟨_, no⟩ | ⟨m, e, _, le⟩
    · exact no s (a + b) ⟨hs, a, b, ea, eb, rfl⟩
    · have := le s (a + b) ⟨hs, a, b, ea, eb, rfl⟩
      rw [e] at ge
      have := ge_int.mp ge
      omega
/-- what the loop holds ahead of a part -/
def CrI (A B : Nat → V) (n k : Nat) (fl : Bool) (m : Int) : Prop := (fl = true ↔ ∃ i, i < k ∧ A i ≠ .int 0 ∧ B (n - i) ≠ .int 0 ∧ (A i = .non ∨ B (n - i) = .non)) ∧
  (∀ i a b, i < k → A i = .int a → B (n - i) = .int b → a ≠ 0 → b ≠ 0 → a + b - 1 ≤ m) ∧ (m = 0 ∨ ∃ i a b, i < k ∧ A i = .int a ∧ B (n - i) = .int b ∧ a ≠ 0 ∧ b ≠ 0 ∧ m = a + b - 1)
theorem cri_zero : CrI A B n 0 false 0 := ⟨⟨fun z => (by cases z), fun ⟨i, hi, _⟩ => absurd hi (Nat.not_lt_zero i)⟩, fun i a b hi => absurd hi (Nat.not_lt_zero i), .inl rfl⟩
theorem CrI.skip {k : Nat} {fl : Bool} {m : Int} (h : CrI A B n k fl m) (z : A k = .int 0 ∨ B (n - k) = .int 0) : CrI A B n (k + 1) fl m := by
  obtain ⟨h1, h2, h3⟩ := h
  have less : ∀ {i}, i < k + 1 → i = k ∨ i < k := fun h => by omega
  refine ⟨⟨fun e => ?_, fun ⟨i, hi, a, b, c⟩ => ?_⟩, fun i a b hi ea eb a0 b0 => ?_, ?_⟩
  · obtain ⟨i, hi, r⟩ := h1.mp e
    exact ⟨i, by omega, r⟩
  · rcases less hi with rfl | hi
    · rcases z with z | z
      · exact absurd z a
      · exact absurd z b
    · exact h1.mpr ⟨i, hi, a, b, c⟩
  · rcases less hi with rfl | hi
    · rcases z with z | z
      · rw [z] at ea; exact absurd (V.int.inj ea).symm a0
      · rw [z] at eb; exact absurd (V.int.inj eb).symm b0
    · exact h2 i a b hi ea eb a0 b0
  · rcases h3 with e | ⟨i, a, b, hi, r⟩
    · exact .inl e
    · exact .inr ⟨i, a, b, by omega, r⟩
theorem CrI.none {k : Nat} {fl : Bool} {m : Int} (h : CrI A B n k fl m) (z1 : A k ≠ .int 0) (z2 : B (n - k) ≠ .int 0) (z : A k = .non ∨ B (n - k) = .non) : CrI A B n (k + 1) true m := by
  obtain ⟨h1, h2, h3⟩ := h
  have less : ∀ {i}, i < k + 1 → i = k ∨ i < k := fun h => by omega
  refine ⟨⟨fun _ => ⟨k, by omega, z1, z2, z⟩, fun _ => rfl⟩, fun i a b hi ea eb a0 b0 => ?_, ?_⟩
  · rcases less hi with rfl | hi
    · rcases z with z | z
      · rw [z] at ea; cases ea
      · rw [z] at eb; cases eb
    · exact h2 i a b hi ea eb a0 b0
  · rcases h3 with e | ⟨i, a, b, hi, r⟩
    · exact .inl e
    · exact .inr ⟨i, a, b, by omega, r⟩
theorem CrI.both {k : Nat} {fl : Bool} {m a b : Int} (h : CrI A B n k fl m) (ea : A k = .int a) (eb : B (n - k) = .int b) (a0 : a ≠ 0) (b0 : b ≠ 0) : CrI A B n (k + 1) fl (max m (a + b - 1)) := by
  obtain ⟨h1, h2, h3⟩ := h
  have less : ∀ {i}, i < k + 1 → i = k ∨ i < k := fun h => by omega
  refine ⟨⟨fun e => ?_, fun ⟨i, hi, a', b', c⟩ => ?_⟩, fun i a' b' hi ea' eb' a0 b0 => ?_, ?_⟩
  · obtain ⟨i, hi, r⟩ := h1.mp e
    exact ⟨i, by omega, r⟩
  · rcases less hi with rfl | hi
    · rcases c with c | c
      · rw [ea] at c; cases c
      · rw [eb] at c; cases c
    · exact h1.mpr ⟨i, hi, a', b', c⟩
  · rcases less hi with rfl | hi
    · rw [ea] at ea'
      rw [eb] at eb'
      have := V.int.inj ea'
      have := V.int.inj eb'
      omega
    · have := h2 i a' b' hi ea' eb' a0 b0
      omega
  · by_cases c : m ≤ a + b - 1
    · exact .inr ⟨k, a, b, by omega, ea, eb, a0, b0, by omega⟩
    · rcases h3 with e | ⟨i, a', b', hi, e1, e2, e3, e4, e5⟩
      · exact .inl (by omega)
      · exact .inr ⟨i, a', b', by omega, e1, e2, e3, e4, by omega⟩
theorem ge_one {A : Nat → V} (uA : UpL A) {i : Nat} (h : A i ≠ .int 0) : Ge (A i) 1 := by
  rcases uA.fl i with e | ⟨a, e, a0⟩
  · rw [e]; exact ge_non
  · rw [e]
    refine ge_int.mpr ?_
    have : a ≠ 0 := fun z => h (by rw [e, z])
    omega
theorem cross_end (uL : UpL L) (uM : UpL M) (hW : ∀ t, FoA L M t (W t)) (hA : ∀ i, InvA L 1 i (A i)) (hB : ∀ i, InvA M 1 i (B i)) {fl : Bool} {m : Int} (h : CrI A B n (n + 1) fl m) {x : V} (hx : InvA W 1 n x) : x = if fl = true then .non else .int m := by
  obtain ⟨h1, h2, h3⟩ := h
  have bad := bad_iff (n := n) uL uM hW hA hB
  have uA := upinv hA
  have uB := upinv hB
  have nz : ∀ {C : Nat → V} {i s : Nat}, Ge (C i) ((s : Int) + 1) → C i ≠ .int 0 := fun {C i s} h z => by
    rw [z] at h
    have := ge_int.mp h
    omega
  refine hx.uniq ?_
  by_cases c : fl = true
  · rw [if_pos c]
    obtain ⟨i, hi, a0, b0, e⟩ := h1.mp c
    refine .inl ⟨rfl, fun t => (bad t).mpr ?_⟩
    rcases e with e | e
    · exact ⟨i, t, by omega, Nat.le_refl _, by rw [e]; exact ge_non, by rw [Nat.sub_self]; exact ge_one uB b0⟩
    · exact ⟨i, 0, by omega, Nat.zero_le _, ge_one uA a0, by rw [e]; exact ge_non⟩
  · rw [if_neg c]
    have nn : ∀ i, i ≤ n → A i ≠ .int 0 → B (n - i) ≠ .int 0 → (∃ a, A i = .int a ∧ 0 ≤ a) ∧ ∃ b, B (n - i) = .int b ∧ 0 ≤ b := fun i hi a0 b0 => by
      have no : ¬ (A i = .non ∨ B (n - i) = .non) := fun z => c (h1.mpr ⟨i, by omega, a0, b0, z⟩)
      exact ⟨(uA.fl i).resolve_left fun z => no (.inl z), (uB.fl (n - i)).resolve_left fun z => no (.inr z)⟩
    have m0 : 0 ≤ m := by
      rcases h3 with e | ⟨i, a, b, hi, ea, eb, a0, b0, e⟩
      · omega
      · obtain ⟨⟨a', ea', p1⟩, ⟨b', eb', p2⟩⟩ := nn i (by omega) (by rw [ea]; exact fun z => a0 (V.int.inj z)) (by rw [eb]; exact fun z => b0 (V.int.inj z))
        rw [ea] at ea'
        rw [eb] at eb'
        have := V.int.inj ea'
        have := V.int.inj eb'
        omega
    refine .inr ⟨m.toNat, by congr 1; omega, Classical.not_not.mp fun z => ?_, fun t ht => (bad t).mpr ?_⟩
    · obtain ⟨i, s, hi, hs, g1, g2⟩ := (bad m.toNat).mp z
      obtain ⟨⟨a, ea, _⟩, ⟨b, eb, _⟩⟩ := nn i hi (nz g1) (nz g2)
      have n1 := nz g1
      have n2 := nz g2
      rw [ea] at g1 n1
      rw [eb] at g2 n2
      have := h2 i a b (by omega) ea eb (fun z => n1 (by rw [z])) (fun z => n2 (by rw [z]))
      have := ge_int.mp g1
      have := ge_int.mp g2
      omega
    · rcases h3 with e | ⟨i, a, b, hi, ea, eb, a0, b0, e⟩
      · omega
      · obtain ⟨⟨a', ea', p1⟩, ⟨b', eb', p2⟩⟩ := nn i (by omega) (by rw [ea]; exact fun z => a0 (V.int.inj z)) (by rw [eb]; exact fun z => b0 (V.int.inj z))
        rw [ea] at ea'
        rw [eb] at eb'
        have := V.int.inj ea'
        have := V.int.inj eb'
        by_cases q : (t : Int) ≤ a - 1
        · exact ⟨i, t, by omega, Nat.le_refl _, by rw [ea]; exact ge_int.mpr (by omega), by rw [eb]; exact ge_int.mpr (by omega)⟩
        · exact ⟨i, (a - 1).toNat, by omega, by omega, by rw [ea]; exact ge_int.mpr (by omega), by rw [eb]; exact ge_int.mpr (by omega)⟩
theorem up_fo (uL : UpL L) (uM : UpL M) (hW : ∀ t, FoA L M t (W t)) : UpL W where
  fl t := by
    rcases hW t with ⟨e, _⟩ | ⟨m, e, ⟨s, st, a, b, ea, eb, em⟩, _⟩
    · exact .inl e
    · refine .inr ⟨m, e, ?_⟩
      rcases uL.fl s with z | ⟨i, z, i0⟩
      · rw [z] at ea; cases ea
      rcases uM.fl (t - s) with y | ⟨j, y, j0⟩
      · rw [y] at eb; cases eb
      rw [z] at ea
      rw [y] at eb
      have := V.int.inj ea
      have := V.int.inj eb
      omega
  mo t u k l e := by
    rcases hW u with ⟨z, _⟩ | ⟨m, z, ⟨s, st, a, b, ea, eb, em⟩, _⟩
    · rw [z] at e; cases e
    rw [z] at e
    have e := V.int.inj e
    have : ∃ s' a' b', s' ≤ t ∧ L s' = .int a' ∧ M (t - s') = .int b' ∧ a' + b' ≤ a + b := by
      by_cases c : s ≤ t
      · obtain ⟨b', eb', lb⟩ := uM.mo (t - s) (u - s) b (by omega) eb
        exact ⟨s, a, b', c, ea, eb', by omega⟩
      · obtain ⟨a', ea', la⟩ := uL.mo t s a (by omega) ea
        obtain ⟨b', eb', lb⟩ := uM.mo 0 (u - s) b (by omega) eb
        exact ⟨t, a', b', Nat.le_refl _, ea', by rw [Nat.sub_self]; exact eb', by omega⟩
    obtain ⟨s', a', b', l', ea', eb', le'⟩ := this
    rcases hW t with ⟨_, no⟩ | ⟨m', e', _, le⟩
    · exact absurd ⟨l', a', b', ea', eb', rfl⟩ (no s' (a' + b'))
    · have := le s' (a' + b') ⟨l', a', b', ea', eb', rfl⟩
      exact ⟨m', e', by omega⟩
end
/-- what never falls and does not rise too far is calm -/
theorem up_calm {U : Nat → V} {v : List V} {q : Nat} {r : Int} (up : UpL U) (fg : FormG U v q r) (l : v.length ≤ 4000) (bd : ∀ n (i : Int), n ≤ 8000 → U n = .int i → i < 2 ^ 30) : Calm v q r := by
  rcases fg.cases' with ⟨f, b, e, hf, rfl⟩ | ⟨s, e, rfl, rfl, rfl⟩
  · obtain rfl : U = fun j => .int (f j) := funext e
    have mo := up.mono
    have q0 := hf.pos
    rw [List.length_map, List.length_range] at l
    have Q := hf.qp b (Nat.le_refl _)
    have := mo.le (show b ≤ b + q by omega)
    have := up.nn b
    have := bd (b + q) _ (by omega) rfl
    refine ⟨by omega, by omega, fun z hz => ?_, fun z => ?_⟩
    · obtain ⟨j, hj, ej⟩ := List.mem_map.mp hz
      have := List.mem_range.mp hj
      obtain rfl := V.int.inj ej
      have := up.nn j
      have := bd j _ (by omega) rfl
      omega
    · subst z
      exact mo.flat hf
  · obtain rfl : U = FN s := funext e
    rw [ends_len] at l
    refine ⟨by decide, by decide, fun z hz => ?_, fun _ => rfl⟩
    rcases List.mem_append.mp hz with h | h
    · obtain ⟨i, hi, ei⟩ := List.mem_map.mp h
      obtain rfl := V.int.inj ei
      obtain ⟨j, hj⟩ := List.getElem?_of_mem hi
      have jl := (List.getElem?_eq_some_iff.mp hj).1
      have ev : FN s j = .int i := by
        rw [fn_low jl, List.getD_eq_getElem?_getD, hj]
        try rfl
      have := bd j i (by omega) ev
      rcases up.fl j with z | ⟨k, z, k0⟩
      · rw [ev] at z; cases z
      · rw [ev] at z
        have := V.int.inj z
        omega
    · cases List.mem_singleton.mp h
/-- the inverse of a sketch is soon come to -/
theorem lsk_soon {xs : List V} {p : Nat} {g : Int} {L : Nat → V} (V1 : LskV xs p g L) (up : UpL L) {m n t : Nat} (m1 : m ≤ 1) (h : InvA L m n (.int t)) : t ≤ 8 + 6 * (n + 1) := by
  have ln := V1.ln
  have p6 := V1.p6
  have pn := V1.pn
  have p0 := V1.p0
  rcases h with ⟨z, _⟩ | ⟨t', e, ge, lo⟩
  · cases z
  have e : t = t' := Int.ofNat.inj (V.int.inj e)
  subst e
  obtain ⟨lv, _, ⟨_, f, rfl, Q⟩ | ⟨_, s, rfl, ls⟩⟩ := V1.last
  · have mo := up.mono
    by_cases g0 : g = 0
    · subst g0
      refine Nat.not_lt.mp fun c => lo (t - p) (by omega) ?_
      have := Q (t - p) (by omega)
      rw [show t - p + p = t by omega] at this
      have := ge_int.mp ge
      exact ge_int.mpr (by omega)
    · have g1 : 1 ≤ g := by have := V1.g0; omega
      have Qm := Q.mul (j := xs.length - p) (Nat.le_refl _) (n + 1)
      have nn := up.nn (xs.length - p)
      have : ((n + 1 : Nat) : Int) * 1 ≤ ((n + 1 : Nat) : Int) * g := Int.mul_le_mul_of_nonneg_left g1 (by omega)
      have : (n + 1) * p ≤ (n + 1) * 6 := Nat.mul_le_mul_left _ p6
      refine Nat.not_lt.mp fun c => lo (xs.length - p + (n + 1) * p) (by omega) (ge_int.mpr (by omega))
  · refine Nat.not_lt.mp fun c => lo s.length (by omega) ?_
    rw [fn_high (Nat.le_refl _)]
    exact ge_non
end WW
end

section
set_option Elab.async false
set_option linter.all false
set_option maxRecDepth 100000
set_option maxHeartbeats 8000000
namespace WW
open PySem L2 WO WG RZ WQ WT WC WV WY
abbrev sCrs : Stmt := top 82
section
variable {P : Program} {w : World} {K : PySem.W.Frag} {mg : Str → Option Value} {base : Heap}
def spAlS (K : PySem.W.Frag) : Sp := fun vs H Q _ => ∃ v : V, vs = [v, v] ∧ SmallV v ∧ Q (.bl true) H
theorem ok_als {f : Addr} {fd : FuncData} (F : Fun K "_law_alike" "_law_alike" sAli f fd) (nrepr : mg "repr" = none) : FnOk P w K mg base CX0 1 f fd ["found", "due"] (spAlS K) := by
  refine F.ok scAli (fun vs H Q E h => ?_) (fun cdv A outer s H vs Q E hr h => ?_)
  · obtain ⟨v, rfl, _⟩ := h
    rfl
  · obtain ⟨v, rfl, hv, k⟩ := h
    refine ⟨_, (pss_one
 (ps_ret (pe_cmpR op_eq (pe_callB call_reprV (by rfl) nrepr (by decide +kernel) (pa_cons (pv 0) pa_nil)) (pe_callB call_reprV (by rfl) nrepr (by decide +kernel) (pa_cons (pv 1) pa_nil)) (nomark _)))), ?_⟩
    have hv' : v = .non ∨ ∃ i : Int, v = .int i ∧ i.natAbs.log2 < 1920 := by
      rcases hv with h | ⟨i, h, si⟩
      · exact .inl h
      · have := small_log si
        exact .inr ⟨_, h, by omega⟩
    refine ⟨_, rfl, v, rfl, hv', _, rfl, v, rfl, hv', rfl, ?_⟩
    rw [decide_eq_true rfl]
    exact k
abbrev nCrs : List Str := ["draw", "one", "other", "told", "rows_here", "far", "lap", "number", "most_here", "no_end", "part", "near", "last"]
theorem scCrs : FnScope nCrs ["draw", "one", "other", "told"] (defScope sCrs) := ⟨rfl, rfl, rfl, by decide +kernel, rfl, by decide +kernel, by decide +kernel⟩
def spCrs (K : PySem.W.Frag) (C : Addr) : Sp := fun vs H Q _ => ∃ (d l c e b e' b' z : Addr) (xs xs' : List V) (p p' : Nat) (g g' : Int) (L M W N : Nat → V) (v : List V) (q : Nat) (r : Int), vs = [.ref d, .ref e, .ref e', .ref z] ∧ DrawAt H d l c ∧ SkAt H d l e b xs p g ∧ SkAt H d l e' b' xs' p' g' ∧ LskV xs p g L ∧ LskV xs' p' g' M ∧ UpL L ∧ UpL M ∧ KcV H C z W v q r ∧ (∀ t, FoA L M t (W t)) ∧ (∀ n, InvA W 1 n (N n)) ∧ Fit N ∧
  ∀ H', DrawAt H' d l c → KeepD H H' d l → Q (.bl true) H'
theorem ok_crs {f C CB CN CT : Addr} {fd : FuncData} (F : Fun K "_law_crosswise" "_law_crosswise" sCrs f fd) (T : CurG mg) (nmax : mg "max" = none)
    (c_row : Cal P w K mg base CX0 2 "_law_row" ["sketch", "beats"] (spRow K)) (c_psd : Cal P w K mg base (L2.CX P w) 8 "passed" ["curve"] (spRea K C CB CT 1)) (c_tak : Cal P w K mg base CX0 2 "_law_take" ["draw", "amount"] (spTake K))
    (c_pla : Cal P w K mg base CX0 2 "_law_places" ["row", "first", "size", "last"] (spPla K)) (c_val : Cal P w K mg base (L2.CX P w) 5 "value" ["curve", "beat"] (spValue K C CB CN)) (c_ali : Cal P w K mg base CX0 1 "_law_alike" ["found", "due"] (spAlS K)) :
    FnOk P w K mg base (L2.CX P w) 9 f fd ["draw", "one", "other", "told"] (spCrs K C) := by
  refine F.okX scCrs (fun vs H Q E h => ?_) (fun cdv A outer s H vs Q E hr h => ?_)
  · obtain ⟨d, l, c, e, b, e', b', z, xs, xs', p, p', g, g', L, M, W, N, v, q, r, rfl, _⟩ := h
    rfl
  · obtain ⟨d, l, c, e, b, e', b', z, xs, xs', p, p', g, g', L, M, W, N, v, q, r, rfl, D0, A1, A1', V1, V1', uL, uM, kz, hW, hN, ⟨vf, qf, rf, fgf, lf⟩, k⟩ := h
    refine ⟨_, (C8.pss_cut (ps_par (i := 4) (j := 5) (by rfl) scCrs.nd rfl rfl (by decide) rfl rfl (pa_cons (pe_lst (pa_cons (pe_callC c_row (hr.mono (by decide)) rfl pass0 (pa_cons (pv 1) (pa_cons pe_int pa_nil))) (pa_cons (pe_callC c_row (hr.mono (by decide)) rfl pass0 (pa_cons (pv 2) (pa_cons pe_int pa_nil))) pa_nil))) (pa_cons (pe_callC c_psd (hr.mono (by decide)) rfl (passX (E := E) (takes_of rfl rfl rfl rfl) fun _ _ _ _ h => h) (pa_cons (pv 3) pa_nil)) pa_nil)) (by rfl))
 (C8.pss_cut (ps_for (passes_of rfl) rfl (pi_range1 rfl T.range (pa_cons pe_int pa_nil)) (pg_name (i := 6) scCrs.nd rfl (Or.inl rfl)) (C8.pss_cut (ps_par3 (i := 7) (j := 8) (l := 9) (by rfl) scCrs.nd rfl rfl rfl (by decide) (by decide) (by decide) rfl rfl rfl (pa_cons (pe_callC c_tak (hr.mono (by decide)) rfl pass0 (pa_cons (pv 0) (pa_cons pe_int pa_nil))) (pa_cons pe_int (pa_cons pe_bl pa_nil))) (by rfl))
 (C8.pss_cut (ps_for (passes_of rfl) rfl (pi_range1 rfl T.range (pa_cons (pe_op op_add (pv 7) pe_int) pa_nil)) (pg_name (i := 10) scCrs.nd rfl (Or.inl rfl)) (C8.pss_cut (ps_par (i := 11) (j := 12) (by rfl) scCrs.nd rfl rfl (by decide) rfl rfl (pa_cons (pe_ix ix_list (pe_callC c_pla (hr.mono (by decide)) rfl pass0 (pa_cons (pe_ix ix_list (pv 4) pe_int (fun _ _ => rfl)) (pa_cons (pe_op op_add (pv 10) pe_int) (pa_cons pe_int (pa_cons pe_non pa_nil))))) pe_int (fun _ _ => rfl)) (pa_cons (pe_ix ix_list (pe_callC c_pla (hr.mono (by decide)) rfl pass0 (pa_cons (pe_ix ix_list (pv 4) pe_int (fun _ _ => rfl)) (pa_cons (pe_op op_add (pe_op op_sub (pv 7) (pv 10)) pe_int) (pa_cons pe_int (pa_cons pe_non pa_nil))))) pe_int (fun _ _ => rfl)) pa_nil)) (by rfl))
 (pss_one
 (ps_if (PW.pt (pw_and (pt_cmpR op_ne (pv 11) pe_int (nomark _)) (pw_and1 (pt_cmpR op_ne (pv 12) pe_int (nomark _))))) (C8.pss_cut (ps_set (i := 9) scCrs.nd rfl (Or.inl rfl) (pe_or (pv 9) (pe_or (pe_cmpR op_isN (pv 11) pe_non (nomark _)) (pe_one (pe_cmpR op_isN (pv 12) pe_non (nomark _))))))
 (pss_one
 (ps_set (i := 8) scCrs.nd rfl (Or.inl rfl) (pe_ifExp (PW.pt (pw_or (pt_cmpR op_isN (pv 11) pe_non (nomark _)) (pw_or1 (pt_cmpR op_isN (pv 12) pe_non (nomark _))))) (pv 8) (pe_callB (call_max2 rfl) (by rfl) nmax (by decide +kernel) (pa_cons (pv 8) (pa_cons (pe_op op_sub (pe_op op_add (pv 11) (pv 12)) pe_int) pa_nil))))))) pss_nil))))
 (pss_one
 (ps_if (pt_not (pt_truth (pe_callC c_ali (hr.mono (by decide)) rfl pass0 (pa_cons (pe_callC c_val (hr.mono (by decide)) rfl (passX (E := E) (takes_of rfl rfl rfl rfl) fun _ _ _ _ h => h) (pa_cons (pv 5) (pa_cons (pv 7) pa_nil))) (pa_cons (pe_ifExp (pt_val (pv 9)) pe_non (pv 8)) pa_nil))) (by intro _; rfl))) (pss_one
 (ps_ret pe_bl)) pss_nil)))))
 (pss_one
 (ps_ret pe_bl)))), ?_⟩
    have lr : ∀ (n : Nat) (F : Nat → V), ((List.range n).map F).length = n := fun n F => by rw [List.length_map, List.length_range]
    obtain ⟨A, hA⟩ := inv_all L 1
    obtain ⟨B, hB⟩ := inv_all M 1
    have uA := upinv hA
    have uB := upinv hB
    have ex : ¬ ∀ v q r, FormG N v q r → 4000 < v.length := fun h => by
      have := h vf qf rf fgf
      omega
    refine ⟨fun σ H' => ∃ (R D1 D2 a : Addr) (va : List V) (qa : Nat) (ra : Int), σ = [some (.ref d), some (.ref e), some (.ref e'), some (.ref z), some (.ref R), some (.ref a), none, none, none, none, none, none, none] ∧ Same H H' ∧ H' R = some (.lst [.ref D1, .ref D2]) ∧ H' D1 = some (.lst ((List.range 300).map L)) ∧ H' D2 = some (.lst ((List.range 300).map M)) ∧ CurveAt H' C a va qa ra ∧ FormG N va qa ra ∧ va.length ≤ 4000 ∧ H R = none ∧ H D1 = none ∧ H D2 = none, ?_, ?_⟩
    · refine ⟨_, rfl, e, b, xs, p, 300, g, L, rfl, A1.ob, A1.li, V1.row, by decide, fun D1 H1 n1 h1 s1 => ?_⟩
      refine ⟨_, rfl, e', b', xs', p', 300, g', M, rfl, s1 _ _ A1'.ob, s1 _ _ A1'.li, V1'.row, by decide, fun D2 H2 n2 h2 s2 => ⟨(by show 2 ≤ sizeLine; decide), fun R hR => ?_⟩⟩
      generalize g3 : upd H2 R _ = H3
      obtain ⟨s3, f3⟩ := alloc g3 hR
      have s13 := Same.trans s1 (Same.trans s2 s3)
      refine ⟨_, rfl, _, rfl, .inr ⟨z, W, N, v, q, r, rfl, kz.same s13, up_fo uL uM hW, hN, fun va qa ra a H4 fg l4 hz cu s4 => ⟨_, _, rfl, R, D1, D2, a, va, qa, ra, rfl, Same.trans s13 s4, s4 _ _ f3, s4 _ _ (s3 _ _ (s2 _ _ h1)), s4 _ _ (s3 _ _ h2), cu, fg, l4, (Same.trans s1 s2).free hR, n1, s1.free n2⟩, fun h => absurd h ex⟩⟩
    rintro σ H1 ⟨R, D1, D2, a, va, qa, ra, rfl, s1, fR, fD1, fD2, cu, fg, l4, nR, n1, n2⟩
    have nd : ∀ {x : Addr}, H x = none → x ≠ d ∧ x ≠ l := fun {x} h => by
      obtain ⟨o, ho⟩ := D0.some_d
      obtain ⟨o', ho'⟩ := D0.some_l
      exact ⟨fun z => (by rw [z, ho] at h; cases h), fun z => (by rw [z, ho'] at h; cases h)⟩
    have nR := nd nR
    have n1 := nd n1
    have n2 := nd n2
    obtain ⟨G, eG⟩ : ∃ G : Hp → Prop, G = fun H' => DrawAt H' d l c ∧ KeepD H H' d l ∧ H' R = some (.lst [.ref D1, .ref D2]) ∧ H' D1 = some (.lst ((List.range 300).map L)) ∧ H' D2 = some (.lst ((List.range 300).map M)) ∧ CurveAt H' C a va qa ra := ⟨_, rfl⟩
    have G1 : G H1 := by rw [eG]; exact ⟨D0.same s1, Same.keepD d l s1, fR, fD1, fD2, cu⟩
    have gsame : ∀ {H2 H3}, G H2 → Same H2 H3 → G H3 := fun {H2 H3} h s => by
      rw [eG] at h ⊢
      obtain ⟨a1, a2, a3, a4, a5, a6⟩ := h
      exact ⟨a1.same s, a2.trans (Same.keepD d l s), s _ _ a3, s _ _ a4, s _ _ a5, a6.same s⟩
    have gkeep : ∀ {H2 H3}, G H2 → DrawAt H3 d l c → KeepD H2 H3 d l → G H3 := fun {H2 H3} h D k => by
      rw [eG] at h ⊢
      obtain ⟨a1, a2, a3, a4, a5, a6⟩ := h
      exact ⟨D, a2.trans k, k _ _ a3 nR.1 nR.2, k _ _ a4 n1.1 n1.2, k _ _ a5 n2.1 n2.2, a6.keepD a1 k⟩
    have gD : ∀ {H2}, G H2 → DrawAt H2 d l c ∧ KeepD H H2 d l ∧ H2 R = some (.lst [.ref D1, .ref D2]) ∧ H2 D1 = some (.lst ((List.range 300).map L)) ∧ H2 D2 = some (.lst ((List.range 300).map M)) ∧ CurveAt H2 C a va qa ra := fun {H2} h => by rw [eG] at h; exact h
    clear eG s1 fR fD1 fD2 cu
    have soon : ∀ i, i < 40 → (A i = .non ∨ ∃ t : Int, A i = .int t ∧ 0 ≤ t ∧ t ≤ 254) ∧ PlA L 300 (((1 : Nat) : Int) + (i : Int)) .non (A i) := fun i hi => by
      refine ⟨?_, pla_of (hA i) fun far => ?_⟩
      · rcases hA i with ⟨e, _⟩ | ⟨t, e, _⟩
        · exact .inl e
        · have := lsk_soon V1 uL (by decide) (e ▸ hA i)
          exact .inr ⟨t, e, by omega, by omega⟩
      · rcases hA i with ⟨e, _⟩ | ⟨t, e, ge, _⟩
        · exact e
        · have := lsk_soon V1 uL (by decide) (e ▸ hA i)
          exact absurd ge (far t (by omega))
    have soonB : ∀ i, i < 40 → (B i = .non ∨ ∃ t : Int, B i = .int t ∧ 0 ≤ t ∧ t ≤ 254) ∧ PlA M 300 (((1 : Nat) : Int) + (i : Int)) .non (B i) := fun i hi => by
      refine ⟨?_, pla_of (hB i) fun far => ?_⟩
      · rcases hB i with ⟨e, _⟩ | ⟨t, e, _⟩
        · exact .inl e
        · have := lsk_soon V1' uM (by decide) (e ▸ hB i)
          exact .inr ⟨t, e, by omega, by omega⟩
      · rcases hB i with ⟨e, _⟩ | ⟨t, e, ge, _⟩
        · exact e
        · have := lsk_soon V1' uM (by decide) (e ▸ hB i)
          exact absurd ge (far t (by omega))
    have flt : ∀ {L : Nat → V}, UpL L → ∀ j, j < 300 → L j = .non ∨ ∃ i : Int, L j = .int i := fun u j _ => by
      rcases u.fl j with e | ⟨i, e, _⟩
      · exact .inl e
      · exact .inr ⟨i, e⟩
    refine ⟨fun σ H' => G H', ?_, fun σ H' g => k H' (gD g).1 (gD g).2.1⟩
    refine ⟨4, rfl, by decide, by decide, for_range (lo := 0) (n := (4 : Int).toNat) (fun i σ H' => ∃ (u6 u7 u8 u9 u10 u11 u12 : Option V), σ = [some (.ref d), some (.ref e), some (.ref e'), some (.ref z), some (.ref R), some (.ref a), u6, u7, u8, u9, u10, u11, u12] ∧ G H') ⟨_, _, _, _, _, _, _, rfl, G1⟩ ?_ (fun σ H' ⟨_, _, _, _, _, _, _, _, g⟩ => g)⟩
    clear G1
    rintro i σ H1 hi ⟨u6, u7, u8, u9, u10, u11, u12, rfl, G1⟩
    generalize V.int (0 + (i : Int)) = lp
    clear hi
    refine ⟨fun σ H' => ∃ n : Nat, n < 40 ∧ σ = [some (.ref d), some (.ref e), some (.ref e'), some (.ref z), some (.ref R), some (.ref a), some (lp), some (.int n), some (.int 0), some (.bl false), u10, u11, u12] ∧ G H', ?_, ?_⟩
    · refine ⟨_, rfl, d, l, c, 40, rfl, (gD G1).1, by decide, by decide, fun r H2 r0 r1 D2 k2 => ⟨_, _, _, rfl, r.toNat, by omega, ?_, gkeep G1 D2 k2⟩⟩
      rw [show ((r.toNat : Nat) : Int) = r by omega]
      try rfl
    clear G1
    rintro σ H1 ⟨n, n4, rfl, G1⟩
    refine ⟨fun σ H' => ∃ (m : Int) (fl : Bool) (u10 u11 u12 : Option V), σ = [some (.ref d), some (.ref e), some (.ref e'), some (.ref z), some (.ref R), some (.ref a), some (lp), some (.int n), some (.int m), some (.bl fl), u10, u11, u12] ∧ G H' ∧ CrI A B n (n + 1) fl m ∧ 0 ≤ m ∧ m ≤ 600, ?_, ?_⟩
    · refine ⟨_, rfl, _, _, rfl, rfl, (n : Int) + 1, rfl, by omega, by omega, for_range (lo := 0) (n := ((n : Int) + 1).toNat) (fun k σ H' => ∃ (m : Int) (fl : Bool) (u10 u11 u12 : Option V), σ = [some (.ref d), some (.ref e), some (.ref e'), some (.ref z), some (.ref R), some (.ref a), some (lp), some (.int n), some (.int m), some (.bl fl), u10, u11, u12] ∧ G H' ∧ CrI A B n k fl m ∧ 0 ≤ m ∧ m ≤ 600) ⟨0, false, _, _, _, rfl, G1, cri_zero, by decide, by decide⟩ ?_ ?_⟩
      rotate_left
      · rintro σ H' ⟨m, fl, x1, x2, x3, e1, g1, c1, m0, m6⟩
        rw [show ((n : Int) + 1).toNat = n + 1 by omega] at c1
        exact ⟨m, fl, x1, x2, x3, e1, g1, c1, m0, m6⟩
      clear G1
      rintro k σ H1 hk ⟨m, fl, x10, x11, x12, rfl, G1, cr, m0, m6⟩
      have hk : k < n + 1 := by omega
      obtain ⟨sA, pA⟩ := soon k (by omega)
      obtain ⟨sB, pB⟩ := soonB (n - k) (by omega)
      refine ⟨fun σ H' => σ = [some (.ref d), some (.ref e), some (.ref e'), some (.ref z), some (.ref R), some (.ref a), some (lp), some (.int n), some (.int m), some (.bl fl), some (.int (0 + (k : Int))), some (A k), some (B (n - k))] ∧ G H', ?_, ?_⟩
      · obtain ⟨_, _, gR, g1, g2, _⟩ := gD G1
        refine ⟨_, rfl, R, _, _, .ref D1, rfl, rfl, SqL.of gR, rfl, _, rfl, _, _, rfl, rfl, D1, L, (fun _ => A k), 300, 1, 0 + (k : Int) + 1, .non, rfl, g1, flt uL, by decide, by decide, by omega, by omega, fun i hi => ?_, fun D9 H9 h9 s9 => ?_⟩
        · obtain rfl : i = 0 := by omega
          rw [show 0 + (k : Int) + 1 + ((0 : Nat) : Int) = ((1 : Nat) : Int) + (k : Int) by omega]
          exact pA
        have G9 := gsame G1 s9
        obtain ⟨_, _, gR, g1, g2, _⟩ := gD G9
        refine ⟨D9, _, _, A k, rfl, rfl, SqL.of h9, rfl, _, rfl, R, _, _, .ref D2, rfl, rfl, SqL.of gR, rfl, _, rfl, _, rfl, _, _, rfl, rfl, _, _, rfl, rfl, D2, M, (fun _ => B (n - k)), 300, 1, (n : Int) - (0 + (k : Int)) + 1, .non, rfl, g2, flt uM, by decide, by decide, by omega, by omega, fun i hi => ?_, fun D8 H8 h8 s8 => ⟨D8, _, _, B (n - k), rfl, rfl, SqL.of h8, rfl, _, _, rfl, rfl, gsame G9 s8⟩⟩
        obtain rfl : i = 0 := by omega
        rw [show (n : Int) - (0 + (k : Int)) + 1 + ((0 : Nat) : Int) = ((1 : Nat) : Int) + ((n - k : Nat) : Int) by omega]
        exact pB
      clear G1
      rintro σ H1 ⟨rfl, G1⟩
      have scA : scal (A k) (.int 0) = true := by rcases sA with e | ⟨t, e, _⟩ <;> rw [e] <;> rfl
      have scB : scal (B (n - k)) (.int 0) = true := by rcases sB with e | ⟨t, e, _⟩ <;> rw [e] <;> rfl
      by_cases zA : A k = .int 0
      · exact ⟨_, rfl, scA, false, by rw [zA] <;> rfl, iteF (iteF ⟨m, fl, _, _, _, rfl, G1, cr.skip (.inl zA), m0, m6⟩)⟩
      by_cases zB : B (n - k) = .int 0
      · refine ⟨_, rfl, scA, true, ?_, iteT ⟨_, rfl, scB, false, by rw [zB] <;> rfl, iteF ⟨m, fl, _, _, _, rfl, G1, cr.skip (.inr zB), m0, m6⟩⟩⟩
        show V.bl (!decide (A k = .int 0)) = _
        rw [decide_eq_false zA]
        try rfl
      refine ⟨_, rfl, scA, true, by show V.bl (!decide (A k = .int 0)) = _; rw [decide_eq_false zA] <;> rfl, iteT ⟨_, rfl, scB, true, by show V.bl (!decide (B (n - k) = .int 0)) = _; rw [decide_eq_false zB] <;> rfl, iteT ?_⟩⟩
      by_cases nn : A k = .non ∨ B (n - k) = .non
      · refine ⟨fun σ H' => σ = [some (.ref d), some (.ref e), some (.ref e'), some (.ref z), some (.ref R), some (.ref a), some (lp), some (.int n), some (.int m), some (.bl true), some (.int (0 + (k : Int))), some (A k), some (B (n - k))] ∧ G H', ?_, ?_⟩
        · refine ⟨_, rfl, ?_⟩
          cases fl with
          | true => exact ⟨true, rfl, iteT ⟨rfl, G1⟩⟩
          | false =>
            refine ⟨false, rfl, iteF ⟨_, rfl, rfl, ?_⟩⟩
            by_cases c : A k = .non
            · exact ⟨true, bT c, iteT ⟨rfl, G1⟩⟩
            · exact ⟨false, bF c, iteF ⟨_, rfl, rfl, by rw [decide_eq_true (nn.resolve_left c)]; exact ⟨rfl, G1⟩⟩⟩
        rintro σ H2 ⟨rfl, G2⟩
        refine ⟨_, rfl, rfl, ?_⟩
        by_cases c : A k = .non
        · exact ⟨true, bT c, iteT (iteT ⟨_, rfl, m, true, _, _, _, rfl, G2, cr.none zA zB nn, m0, m6⟩)⟩
        · exact ⟨false, bF c, iteF ⟨_, rfl, rfl, true, bT (nn.resolve_left c), iteT ⟨_, rfl, m, true, _, _, _, rfl, G2, cr.none zA zB nn, m0, m6⟩⟩⟩
      · have nA : A k ≠ .non := fun z => nn (.inl z)
        have nB : B (n - k) ≠ .non := fun z => nn (.inr z)
        obtain ⟨t, eA, t0, t2⟩ := sA.resolve_left nA
        obtain ⟨t', eB, t0', t2'⟩ := sB.resolve_left nB
        refine ⟨fun σ H' => σ = [some (.ref d), some (.ref e), some (.ref e'), some (.ref z), some (.ref R), some (.ref a), some (lp), some (.int n), some (.int m), some (.bl fl), some (.int (0 + (k : Int))), some (A k), some (B (n - k))] ∧ G H', ?_, ?_⟩
        · refine ⟨_, rfl, ?_⟩
          cases fl with
          | true => exact ⟨true, rfl, iteT ⟨rfl, G1⟩⟩
          | false => exact ⟨false, rfl, iteF ⟨_, rfl, rfl, false, bF nA, iteF ⟨_, rfl, rfl, by rw [decide_eq_false nB]; exact ⟨rfl, G1⟩⟩⟩⟩
        rintro σ H2 ⟨rfl, G2⟩
        refine ⟨_, rfl, rfl, false, bF nA, iteF ⟨_, rfl, rfl, false, bF nB, iteF ?_⟩⟩
        have nx := cr.both eA eB (fun z => zA (by rw [eA, z])) (fun z => zB (by rw [eB, z]))
        rw [eA, eB]
        refine ⟨_, rfl, _, rfl, _, rfl, _, _, rfl, rfl, _, _, rfl, rfl, _, _, rfl, max m (t + t' - 1), fl, some (.int (0 + (k : Int))), some (.int t), some (.int t'), ?_, G2, nx, by omega, by omega⟩
        rw [show (if m < t + t' - 1 then t + t' - 1 else m) = max m (t + t' - 1) by split <;> omega]
        try rfl
    rintro σ H2 ⟨m, fl, x10, x11, x12, rfl, G2, cr, m0, m6⟩
    have ce := cross_end uL uM hW hA hB cr (hN n)
    obtain ⟨_, _, _, _, _, cu⟩ := gD G2
    have qv : qa ≤ 1000000 := by have := fg.len; omega
    cases fl with
    | true =>
      rw [if_pos rfl] at ce
      exact ⟨_, rfl, _, rfl, _, _, rfl, .inl ⟨a, va, qa, n, ra, N, rfl, rfl, cu, fg.rowF qv, by omega, _, rfl, true, rfl, iteT ⟨.non, by rw [ce] <;> rfl, .inl rfl, true, rfl, iteF ⟨_, _, _, _, _, _, _, rfl, G2⟩⟩⟩⟩
    | false =>
      rw [if_neg (by decide)] at ce
      exact ⟨_, rfl, _, rfl, _, _, rfl, .inl ⟨a, va, qa, n, ra, N, rfl, rfl, cu, fg.rowF qv, by omega, _, rfl, false, rfl, iteF ⟨_, rfl, .int m, by rw [ce] <;> rfl, .inr ⟨m, rfl, by unfold SmallI; omega⟩, true, rfl, iteF ⟨_, _, _, _, _, _, _, rfl, G2⟩⟩⟩⟩
end
end WW
end

section
set_option Elab.async false
set_option linter.all false
set_option maxRecDepth 100000
set_option maxHeartbeats 8000000
namespace WW
open PySem L2 WO WG RZ WQ WT WC
theorem ski_monoV {N pm : Nat} {B : Int} {s : List Int} {p : Nat} {g : Int} (h : SkI N pm B s p g) : MF.Mono (MF.at_ s p g) := by
  have p0 := h.p0
  have pn := h.pn
  refine MF.mono_at p0 pn (List.pairwise_iff_getElem.mpr fun i j hi hj l => ?_) ?_
  · exact asc_le h.asc (j - i) i _ _ (List.getElem?_eq_getElem hi) (by rw [show i + (j - i) = j by omega]; exact List.getElem?_eq_getElem hj)
  · rw [MF.at_low (show s.length - 1 < s.length by omega), MF.at_low (show s.length - p < s.length by omega), List.getD_eq_getElem?_getD, List.getD_eq_getElem?_getD, List.getElem?_eq_getElem (show s.length - 1 < s.length by omega), List.getElem?_eq_getElem (show s.length - p < s.length by omega)]
    exact h.fit _ _ (List.getElem?_eq_getElem _) (List.getElem?_eq_getElem _)
/-- what a sketch tells -/
theorem Sk.upl {B : Int} {xs : List V} {p : Nat} {g : Int} (h : Sk 8 6 B xs p g) (hB : B ≤ 9000010) (B0 : 0 ≤ B) : ∃ L, LskV xs p g L ∧ UpL L ∧ ∀ (j : Nat) (i : Int), j ≤ 8000 → L j = .int i → i ≤ 8002 * B := by
  cases h with
  | mkI s p g h =>
    have n0 : 0 < s.length := Nat.lt_of_lt_of_le h.p0 h.pn
    have pm := h.pm
    have le := h.le
    have g1 := h.g1
    have mo := ski_monoV h
    refine ⟨_, ⟨.mkI s p g h.p0 h.pn (by omega), h.p0, pm, by rw [List.length_map]; exact h.pn, by rw [List.length_map]; exact le, h.g0, by omega, fun j i hj e => ?_⟩, ⟨fun j => .inr ⟨_, rfl, (ski_bd8 h j).1⟩, fun a b k l e => ⟨_, rfl, by rw [← V.int.inj e]; exact mo.le l⟩⟩, fun j i hj e => ?_⟩
    · obtain rfl := V.int.inj e
      have b := ski_bd8 h j
      have g0 := h.g0
      have : ((j + 1 : Nat) : Int) * B ≤ 100001 * 9000010 := Int.mul_le_mul (by omega) hB (by omega) (by decide)
      omega
    · obtain rfl := V.int.inj e
      have := (ski_bd8 h j).2
      have : ((j + 1 : Nat) : Int) * B ≤ 8001 * B := Int.mul_le_mul_of_nonneg_right (by omega) B0
      omega
  | mkN s k g le asc wi g0 g1 =>
    have lx : (s.map V.int ++ List.replicate (k + 1) V.non).length = s.length + (k + 1) := by rw [List.length_append, List.length_map, List.length_replicate]
    have gd : ∀ i (hi : i < s.length), s.getD i 0 = s[i] := fun i hi => by rw [List.getD_eq_getElem?_getD, List.getElem?_eq_getElem hi] <;> rfl
    refine ⟨_, ⟨.mkN s k 1 g, by decide, by decide, by rw [lx]; omega, by rw [lx]; omega, g0, by omega, fun j i hj e => ?_⟩, ⟨fun j => ?_, fun a b k l e => ?_⟩, fun j i hj e => ?_⟩
    · by_cases c : j < s.length
      · rw [fn_low c, gd j c] at e
        obtain rfl := V.int.inj e
        have := wi j _ (List.getElem?_eq_getElem c)
        omega
      · rw [fn_high (by omega)] at e
        cases e
    · by_cases c : j < s.length
      · rw [fn_low c, gd j c]
        exact .inr ⟨_, rfl, (wi j _ (List.getElem?_eq_getElem c)).1⟩
      · exact .inl (fn_high (by omega))
    · by_cases c : b < s.length
      · rw [fn_low c, gd b c] at e
        have ca : a < s.length := by omega
        rw [fn_low ca, gd a ca]
        refine ⟨_, rfl, ?_⟩
        rw [← V.int.inj e]
        exact asc_le asc (b - a) a _ _ (List.getElem?_eq_getElem ca) (by rw [show a + (b - a) = b by omega]; exact List.getElem?_eq_getElem c)
      · rw [fn_high (by omega)] at e
        cases e
    · by_cases c : j < s.length
      · rw [fn_low c, gd j c] at e
        obtain rfl := V.int.inj e
        have := (wi j _ (List.getElem?_eq_getElem c)).2
        have : 1 * B ≤ 8002 * B := Int.mul_le_mul_of_nonneg_right (by decide) B0
        omega
      · rw [fn_high (by omega)] at e
        cases e
/-- told flat behind its start -/
theorem Sk.flat {B : Int} {xs : List V} {p : Nat} {g : Int} {lv : V} (h : Sk 8 6 B xs p g) (B0 : 0 ≤ B) (hl : xs[xs.length - 1]? = some lv) (n : lv ≠ .non) : Sk 8 6 B xs 1 0 := by
  cases h with
  | mkI s p g h =>
    have p0 := h.p0
    have pn := h.pn
    refine .mkI s 1 0 ⟨by decide, by omega, by decide, h.le, h.asc, h.wi, by decide, B0, fun x y e1 e2 => ?_⟩
    rw [e1] at e2
    have := Option.some.inj e2
    omega
  | mkN s k g le asc wi g0 g1 =>
    refine absurd ?_ n
    rw [List.length_append, List.length_map, List.length_replicate, List.getElem?_append_right (by rw [List.length_map]; omega), List.length_map, List.getElem?_replicate, if_pos (by omega)] at hl
    exact (Option.some.inj hl).symm
theorem fit_rowV {xs : List V} {p : Nat} {g : Int} {U : Nat → V} (fi : FormIn xs p g) (R : RowF xs p g U) (l : xs.length ≤ 4000) : Fit U := by
  obtain ⟨v, q, r, fv⟩ := form_ex fi
  obtain ⟨q', rfl, fg⟩ := form_g fv R
  have := formV_len fv
  exact ⟨v, q', r, fg, by omega⟩
theorem LskV.fit {xs : List V} {p : Nat} {g : Int} {L : Nat → V} (V1 : LskV xs p g L) : Fit L := fit_rowV (lskv_in V1) V1.row (by have := V1.ln; omega)
theorem fit_raiV {xs : List V} {p : Nat} {g : Int} {L : Nat → V} (V1 : LskV xs p g L) : Fit (raiV L 1) := by
  have ln := V1.ln
  have p6 := V1.p6
  have g0 := V1.g0
  have g1 := V1.g1
  have pn := V1.pn
  rcases V1.last with ⟨lv, _, ⟨_, f, rfl, Q⟩ | ⟨_, s, rfl, ls⟩⟩
  · refine fit_rowV (in_int (f := fun j => f j + 1) (n := xs.length) V1.p0 pn (by omega) g0 (by omega)) (row_int (f := fun j => f j + 1) V1.p0 pn (by omega) fun j hj => ?_) (by rw [List.length_map, List.length_range]; omega)
    have := Q j hj
    show f (j + p) + 1 = f j + 1 + g
    omega
  · have eU : raiV (FN s) 1 = FN (s.map fun i => i + 1) := funext fun j => by
      unfold raiV
      by_cases c : j < s.length
      · rw [fn_low c, fn_low (by rw [List.length_map]; exact c), List.getD_eq_getElem?_getD, List.getD_eq_getElem?_getD, List.getElem?_map, List.getElem?_eq_getElem c]
        try rfl
      · rw [fn_high (by omega), fn_high (by rw [List.length_map]; omega)]
    rw [eU]
    exact fit_rowV (in_non (n := s.length + 1) (p := 1) (g := 0) (by rw [List.length_map]; omega) (by omega)) (row_non (by rw [List.length_map]; omega)) (by rw [List.length_map, List.length_range]; omega)
theorem fit_latV {xs : List V} {p : Nat} {g : Int} {L : Nat → V} (V1 : LskV xs p g L) : Fit (latV L 1) := by
  have ln := V1.ln
  have p6 := V1.p6
  have p0 := V1.p0
  have g0 := V1.g0
  have g1 := V1.g1
  have pn := V1.pn
  rcases V1.last with ⟨lv, _, ⟨_, f, rfl, Q⟩ | ⟨_, s, rfl, ls⟩⟩
  · have eU : latV (fun j => .int (f j)) 1 = fun j => .int (if j < 1 then 0 else f (j - 1)) := funext fun j => by
      unfold latV
      split <;> rfl
    rw [eU]
    refine fit_rowV (in_int (f := fun j => if j < 1 then 0 else f (j - 1)) (n := xs.length + 1) p0 (by omega) (by omega) g0 (by omega)) (row_int (f := fun j => if j < 1 then 0 else f (j - 1)) p0 (by omega) (by omega) fun j hj => ?_) (by rw [List.length_map, List.length_range]; omega)
    have := Q (j - 1) (by omega)
    show (if j + p < 1 then (0 : Int) else f (j + p - 1)) = (if j < 1 then 0 else f (j - 1)) + g
    rw [if_neg (by omega), if_neg (by omega), show j + p - 1 = j - 1 + p by omega]
    exact this
  · have eU : latV (FN s) 1 = FN (0 :: s) := funext fun j => by
      unfold latV
      cases j with
      | zero => rw [if_pos (by decide), fn_low (by rw [List.length_cons]; omega)]; rfl
      | succ t =>
        rw [if_neg (by omega), Nat.add_sub_cancel]
        by_cases c : t < s.length
        · rw [fn_low c, fn_low (by rw [List.length_cons]; omega)]
          try rfl
        · rw [fn_high (by omega), fn_high (by rw [List.length_cons]; omega)]
    rw [eU]
    exact fit_rowV (in_non (n := s.length + 2) (p := 1) (g := 0) (by rw [List.length_cons]; omega) (by omega)) (row_non (by rw [List.length_cons]; omega)) (by rw [List.length_map, List.length_range]; omega)
theorem kcv_ofV {H : Hp} {C x : Addr} {xs v : List V} {p : Nat} {g q r : Int} {L : Nat → V} (M : MakeOk xs p g) (V1 : LskV xs p g L) (fv : FormV xs p g v q r) (cu : CurveAt H C x v q r) : ∃ q', KcV H C x L v q' r ∧ q' ≤ 8 ∧ v.length ≤ 8 := by
  obtain ⟨q1, rfl, fo⟩ := form_g fv V1.row
  obtain ⟨q2, e2, CM⟩ := calm_of M fv
  obtain rfl : q1 = q2 := Int.ofNat.inj e2
  have := formV_len fv
  have := V1.ln
  have := fo.len
  exact ⟨q1, ⟨cu, fo, CM, by omega⟩, by omega, by omega⟩
theorem IsC4.kcv {H : Hp} {C a : Addr} {U : Nat → V} (h : IsC4 H C a U) (up : UpL U) (bd : ∀ n (i : Int), n ≤ 8000 → U n = .int i → i < 2 ^ 30) : ∃ (v : List V) (q : Nat) (r : Int), KcV H C a U v q r := by
  obtain ⟨v, q, r, cu, fg, l⟩ := h
  exact ⟨v, q, r, cu, fg, up_calm up fg l bd, l⟩
theorem inv_bd {xs : List V} {p : Nat} {g : Int} {L U : Nat → V} (V1 : LskV xs p g L) (up : UpL L) {m : Nat} (m1 : m ≤ 1) (hU : ∀ n, InvA L m n (U n)) (n : Nat) (i : Int) (hn : n ≤ 8000) (e : U n = .int i) : i < 2 ^ 30 := by
  rcases hU n with ⟨z, _⟩ | ⟨t, z, _⟩
  · rw [z] at e; cases e
  · have := lsk_soon V1 up m1 (z ▸ hU n)
    rw [z] at e
    rw [← V.int.inj e]
    omega
theorem fo_bd {L M W : Nat → V} {B : Int} (B2 : B ≤ 30) (hL : ∀ (j : Nat) (i : Int), j ≤ 8000 → L j = .int i → i ≤ 8002 * B) (hM : ∀ (j : Nat) (i : Int), j ≤ 8000 → M j = .int i → i ≤ 8002 * B) (hW : ∀ t, FoA L M t (W t)) (n : Nat) (i : Int) (hn : n ≤ 8000) (e : W n = .int i) : i < 2 ^ 30 := by
  rcases hW n with ⟨z, _⟩ | ⟨m, z, ⟨s, st, a, b, ea, eb, em⟩, _⟩
  · rw [z] at e; cases e
  · rw [z] at e
    have := V.int.inj e
    have := hL s a (by omega) ea
    have := hM (n - s) b (by omega) eb
    omega
theorem fo_all {L M : Nat → V} (uL : UpL L) (uM : UpL M) : ∃ W : Nat → V, ∀ t, FoA L M t (W t) := Classical.axiomOfChoice fun t => by
  by_cases c : ∃ s d, Sm L M t s d
  · obtain ⟨s0, d0, h0⟩ := c
    have pos : ∀ s d, Sm L M t s d → 0 ≤ d := fun s d ⟨_, a, b, ea, eb, ed⟩ => by
      rcases uL.fl s with z | ⟨i, z, i0⟩
      · rw [z] at ea; cases ea
      rcases uM.fl (t - s) with y | ⟨j, y, j0⟩
      · rw [y] at eb; cases eb
      rw [z] at ea
      rw [y] at eb
      have := V.int.inj ea
      have := V.int.inj eb
      omega
    have dec : DecidablePred fun n : Nat => ∃ s, Sm L M t s (n : Int) := fun _ => Classical.propDecidable _
    have p0 := pos s0 d0 h0
    obtain ⟨u, hu, ⟨s, hs⟩, lo⟩ := MF.least_below (P := fun n : Nat => ∃ s, Sm L M t s (n : Int)) (n := d0.toNat + 1) ⟨d0.toNat, by omega, s0, by rw [show ((d0.toNat : Nat) : Int) = d0 by omega]; exact h0⟩
    refine ⟨.int u, .inr ⟨u, rfl, ⟨s, hs⟩, fun s' d hd => ?_⟩⟩
    have pd := pos s' d hd
    refine Int.not_lt.mp fun z => lo d.toNat (by omega) ⟨s', ?_⟩
    rw [show ((d.toNat : Nat) : Int) = d by omega]
    exact hd
  · exact ⟨.non, .inl ⟨rfl, fun s d h => c ⟨s, d, h⟩⟩⟩
end WW
end

section
set_option Elab.async false
set_option linter.all false
set_option maxRecDepth 100000
set_option maxHeartbeats 16000000
namespace WW
open PySem L2 WO WG RZ WQ WT WL WC WV WY
open LamX (ExtN Tabs TabS TabB lamS_by)
open PyProof.Rows (envOfC)
abbrev sLaw : Stmt := top 83
def pass0S : Stmt := .Pass ⟨0, 0, 0, 0⟩
def noE : Expr := .Constant .none 0 ⟨0, 0, 0, 0⟩
def forB : Stmt → List Stmt
  | .For (body := b) .. => b
  | _ => []
def forI : Stmt → Expr
  | .For (iter := e) .. => e
  | _ => noE
def ifT : Stmt → Expr
  | .If (test := e) .. => e
  | _ => noE
def notE : Expr → Expr
  | .UnaryOp _ e _ => e
  | e => e
def callArgs : Expr → List Expr
  | .Call _ es _ _ => es
  | _ => []
def elts : Expr → List Expr
  | .List es _ => es
  | _ => []
def bodyT : List Stmt := forB ((defBody sLaw).getD 1 pass0S)
def tupE : Expr → List Expr
  | .Tuple es _ _ => es
  | _ => []
def lam (i : Nat) : Expr := if i < 4 then (tupE ((elts (forI (bodyT.getD 3 pass0S))).getD i noE)).getD 0 noE else (elts ((callArgs (notE (ifT (bodyT.getD 10 pass0S)))).getD 0 noE)).getD (i - 4) noE
def lamP : Expr → Arguments
  | .Lambda p _ _ _ => p
  | _ => ⟨[], [], none, [], [], none, []⟩
def lamB : Expr → Expr
  | .Lambda _ b _ _ => b
  | e => e
def lamC : Expr → Scope
  | .Lambda _ _ s _ => s
  | _ => ⟨.function, [], false, false, []⟩
abbrev nLaw : List Str := ["script", "draw", "turn", "one", "other", "curve", "rival", "work", "first", "near", "far", "small", "told", "no"]
theorem scLaw : FnScope nLaw ["script"] (defScope sLaw) := ⟨rfl, rfl, rfl, by decide +kernel, rfl, by decide +kernel, by decide +kernel⟩
def spLaw (K : PySem.W.Frag) (cs : List (Addr × Addr)) : Sp := fun vs H Q _ => ∃ (a : Addr) (ns : List Int), vs = [.ref a] ∧ SqL K H a (ns.map V.int) ∧ ns.length ≤ 63 ∧ (∀ p ∈ cs, H p.2 = some (.tbl #[])) ∧ ∀ H', Q (.bl true) H'
theorem tabs_putD {T : List (Addr × Str)} {H : Hp} {t : Addr} {ks ls : List (Key × V)} (h : Tabs T H) (ht : H t = some (.dK ks)) : Tabs T (upd H t (.dK ls)) := fun p hp => by
  obtain ⟨r, e, q, a3⟩ := h p hp
  refine ⟨r, by rw [upd_ne (ne_of e ht (by intro z; cases z))]; exact e, q, fun pos cv hcv => ?_⟩
  obtain ⟨c, e1, e2⟩ := a3 pos cv hcv
  exact ⟨c, e1, by rw [upd_ne (ne_of e2 ht (by unfold LamX.CodeO; intro z; cases z))]; exact e2⟩
theorem ski_at {H : Hp} {d l e a : Addr} {xs : List V} {p : Nat} {g : Int} {L : Nat → V} (h : SkAt H d l e a xs p g) (V1 : LskV xs p g L) : Lsk H e a xs p g L := ⟨h.ob, h.li, V1⟩
theorem KcV.keepD {H H' : Hp} {d l c C x : Addr} {L : Nat → V} {v : List V} {q : Nat} {r : Int} (h : KcV H C x L v q r) (D : DrawAt H d l c) (k : KeepD H H' d l) : KcV H' C x L v q r := ⟨h.1.keepD D k, h.2⟩
theorem KcV.extN {H H' : Hp} {C x : Addr} {L : Nat → V} {v : List V} {q : Nat} {r : Int} (h : KcV H C x L v q r) (s : ExtN H H') : KcV H' C x L v q r := ⟨h.1.extN s, h.2⟩
theorem IsC4.keepD {H H' : Hp} {d l c C x : Addr} {L : Nat → V} (h : IsC4 H C x L) (D : DrawAt H d l c) (k : KeepD H H' d l) : IsC4 H' C x L := by
  obtain ⟨v, q, r, cu, h2⟩ := h
  exact ⟨v, q, r, cu.keepD D k, h2⟩
theorem MbC.keepD {H H' : Hp} {d l c C : Addr} {U : Nat → V} {z : V} (h : MbC H C U z) (D : DrawAt H d l c) (k : KeepD H H' d l) : MbC H' C U z := by
  rcases h with h | ⟨a, e, h⟩
  · exact .inl h
  · exact .inr ⟨a, e, h.keepD D k⟩
theorem fit_notV {U : Nat → V} (h : Fit U) : ¬ ∀ v q r, FormG U v q r → 4000 < v.length := fun z => by
  obtain ⟨v, q, r, fg, l⟩ := h
  have := z v q r fg
  omega
section
variable {K : PySem.W.Frag} {H : Hp} {W C CB CT x : Addr} {L U : Nat → V} {v : List V} {q m : Nat} {r : Int} {tl : TL}
theorem due_inv {du : V} {fl : Bool} {go : Prop} (hT : ∀ (E : XK) (H' : Hp) (Q : VK), spRea K C CB CT m [.ref x] H' Q E → tl E H' Q) (ET : ErrGf K W CT "most") (kx : KcV H C x L v q r) (up : UpL L) (hU : ∀ t, InvA L m t (U t)) (hd : DueIs H du U fl go) : DueSay K W C CT tl du H := by
  rcases hd with ⟨rfl, h4⟩ | ⟨T, b, n, p1, g1, rfl, D, f⟩
  · refine .inl ⟨rfl, fun Qc k => ?_⟩
    exact hT _ _ _ ⟨_, rfl, .inr ⟨x, L, U, v, q, r, rfl, kx, up, hU, fun u p s z H' fg l4 => absurd (h4 u p s fg) (by omega), fun _ d' H' rd => ⟨ET.ex, fun ad ha => by
      obtain ⟨er, s⟩ := caught_errc rd ha
      exact k ad _ er s⟩⟩⟩
  · have ex : ¬ ∀ v q r, FormG U v q r → 4000 < v.length := fun h => by
      obtain ⟨v, q, r, fv⟩ := form_ex D.fi
      obtain ⟨q', rfl, fg⟩ := form_g fv D.row
      have := h v q' r fg
      have := D.sh v q' r fg
      omega
    refine .inr ⟨T, b, n, p1, g1, U, rfl, D, fun Qc k => ?_, fun H1 s1 Qc k => ?_⟩
    · exact hT _ _ _ ⟨_, rfl, .inr ⟨x, L, U, v, q, r, rfl, kx, up, hU, fun u p s z H' fg l4 _ _ s' => ⟨.non, rfl, k H' s'⟩, fun h => absurd h ex⟩⟩
    · exact hT _ _ _ ⟨_, rfl, .inr ⟨x, L, U, v, q, r, rfl, kx.same s1, up, hU, fun u p s z H' fg l4 _ cu s' => k z H' ⟨u, p, s, cu, fg⟩ s', fun h => absurd h ex⟩⟩
theorem errs_inv {no : V} (hT : ∀ (E : XK) (H' : Hp) (Q : VK), spRea K C CB CT m [no] H' Q E → tl E H' Q) (EB : ErrGf K W CB "part") (h : NoCur K H C no) : Errs K W CB "part" .non tl H := fun Qc k =>
  hT _ _ _ ⟨_, rfl, .inl ⟨h, fun d' H' rd => ⟨EB.ex, fun ad ha => by
    obtain ⟨er, s⟩ := caught_errc rd ha
    exact k ad _ er s⟩⟩⟩
end
section
variable {P : Program} {w : World} {K : PySem.W.Frag} {mg : Str → Option Value} {base : Heap}
theorem ok_law {f fC c tb tb1 tb2 W C CB CN CT fE gD gA fI fRea fPsd fFol : Addr} {fd dC dD dA dE : FuncData} {S : Addr → Sp → Prop} {cs0 : List (Addr × Addr)} (F : Fun K "law" "law" sLaw f fd) (hcode : fd.code = .ref c) (TB : TabB base mg c tb) (uTT : ∀ p ∈ TQ tb tb1 tb2, p.1 = tb → p.2 = lamQ)
    (h0 : ∀ {H : Hp}, (∀ p ∈ cs0, H p.2 = some (.tbl #[])) → H tb = some (.tbl #[]) ∧ H tb1 = some (.tbl #[]) ∧ H tb2 = some (.tbl #[]))
    (T : CurG mg) (U : CurT K mg C fI fE) (EB : ErrGf K W CB "part") (ET : ErrGf K W CT "most") (mW : mg "WaitError" = some (.ref W)) (mCB : mg "BadCurve" = some (.ref CB)) (mCT : mg "TooMany" = some (.ref CT))
    (nN : PySem.W.kitOne K (.type "NoneType") (.ref C) = some false) (nI : PySem.W.kitOne K (.type "int") (.ref C) = some false)
    (m_rea : mg "reach" = some (.ref fRea)) (m_psd : mg "passed" = some (.ref fPsd)) (m_fol : mg "folding" = some (.ref fFol)) (hRea : S fRea (spRea K C CB CT 0)) (hPsd : S fPsd (spRea K C CB CT 1)) (hFol : S fFol (spFol K C CB CT))
    (c_beg : Cal P w K mg base CX0 1 "_law_begun" ["script"] (spBegun K)) (c_pic : Cal P w K mg base CX0 3 "_law_pick" ["draw", "some"] (spPick K)) (c_tak : Cal P w K mg base CX0 2 "_law_take" ["draw", "amount"] (spTake K))
    (c_ske : Cal P w K mg base CX0 5 "_law_sketch" ["draw", "long", "most"] (spSketch K)) (c_mad : Cal P w K mg base CX0 6 "_law_made" ["sketch"] (spMade K C)) (c_goe : Cal P w K mg base CX0 1 "_law_goes" ["sketch"] (spGoe K)) (c_rch : Cal P w K mg base CX0 3 "_law_reached" ["sketch", "first"] (spRch K))
    (GE : FnOk P w K mg base CX0 1 fE dE ["self", "other"] (spEqC K C)) (bE : Binds K dE ["self", "other"] [])
    (c_l1 : CalG P w K mg base CX0 13 "_law_one" ["ask", "thing"] (spL1 K C CT (TQ tb tb1 tb2) S)) (c_l2 : CalG P w K mg base CX0 13 "_law_two" ["ask", "one", "other"] (spL2 K C CT (TQ tb tb1 tb2) S))
    (c_crs : Cal P w K mg base (L2.CX P w) 9 "_law_crosswise" ["draw", "one", "other", "told"] (spCrs K C)) (c_isc : CalG P w K mg base CX0 2 "_law_is_curve" nIsCur (spIsCur K C))
    (c_rea : Cal P w K mg base (L2.CX P w) 8 "reach" ["curve"] (spRea K C CB CT 0)) (qc_rea : CalK P w K mg base (L2.CX P w) 8 "reach" ["curve"] ["curve"] kgR1 kgR1 (spRea K C CB CT 0))
    (c_psd : Cal P w K mg base (L2.CX P w) 8 "passed" ["curve"] (spRea K C CB CT 1)) (qc_psd : CalK P w K mg base (L2.CX P w) 8 "passed" ["curve"] ["curve"] kgR1 kgR1 (spRea K C CB CT 1))
    (c_rai : Cal P w K mg base (L2.CX P w) 7 "raised" ["curve", "number"] (spRai K C CB CN)) (c_ltr : Cal P w K mg base (L2.CX P w) 7 "later" ["curve", "beats"] (spLat K C CB CN))
    (FC : Fun K "_law_caught" "_law_caught" sCaught fC dC) (bC : L2.Binds K dC ["work"] []) (mC : mg "_law_caught" = some (.ref fC))
    (FD : Fun K "_law_is_due" "_law_is_due" sIsd gD dD) (bD : L2.Binds K dD ["work", "due"] []) (mD : mg "_law_is_due" = some (.ref gD))
    (FA : Fun K "_law_all_refused" "_law_all_refused" sAref gA dA) (bA : L2.Binds K dA ["asks"] []) (mA : mg "_law_all_refused" = some (.ref gA)) :
    FnG P w K mg base CX0 14 f fd ["script"] (spLaw K cs0) := by
  refine okC F hcode scLaw (fun vs H Q E h => ?_) (fun A outer s H vs Q E hr hgu h => ?_)
  · obtain ⟨a, ns, rfl, _⟩ := h
    rfl
  · obtain ⟨a, ns, rfl, hS, hn, hT, k⟩ := h
    have hu := hu_of hr
    have hu64 := hr.units
    refine ⟨_, (C8.pss_cut (ps_set (i := 1) scLaw.nd rfl (Or.inl rfl) (pe_callC c_beg (hr.mono (by decide)) rfl pass0 (pa_cons (pv 0) pa_nil)))
 (C8.pss_cut (ps_for PassesOwn.never rfl (pi_range1 rfl T.range (pa_cons (pe_op op_add pe_int (pe_callB (call_min2 rfl) (by rfl) T.min (by decide +kernel) (pa_cons (pe_callB call_len_seq (by rfl) T.len PySem.boot_len (pa_cons (pv 0) pa_nil)) (pa_cons pe_int pa_nil)))) pa_nil)) (pg_name (i := 2) scLaw.nd rfl (Or.inl rfl)) (C8.pss_cut (ps_par (i := 3) (j := 4) (by rfl) scLaw.nd rfl rfl (by decide) rfl rfl (pa_cons (pe_callC c_ske (hr.mono (by decide)) rfl pass0 (pa_cons (pv 1) (pa_cons pe_int (pa_cons (pe_callC c_pic (hr.mono (by decide)) rfl pass0 (pa_cons (pv 1) (pa_cons (pe_lst (pa_cons pe_int (pa_cons pe_int (pa_cons (pe_op op_pow pe_int pe_int) pa_nil)))) pa_nil))) pa_nil)))) (pa_cons (pe_callC c_ske (hr.mono (by decide)) rfl pass0 (pa_cons (pv 1) (pa_cons pe_int (pa_cons pe_int pa_nil)))) pa_nil)) (by rfl))
 (C8.pss_cut (ps_if (PW.pt (pw_and (pt_cmpR op_eq (pe_callC c_tak (hr.mono (by decide)) rfl pass0 (pa_cons (pv 1) (pa_cons pe_int pa_nil))) pe_int (nomark _)) (pw_and1 (pt_val (pe_callC c_goe (hr.mono (by decide)) rfl pass0 (pa_cons (pv 3) pa_nil)))))) (pss_one
 (ps_set (i := 3) scLaw.nd rfl (Or.inl rfl) (pe_disp (pps_cons pe_str (pe_dget hu (pv 3) pe_str (fun _ _ => rfl)) (pps_cons pe_str pe_int (pps_cons pe_str pe_int pps_nil))) (by rfl) (by rfl) (fun z => by cases z) (by decide)))) pss_nil)
 (C8.pss_cut (ps_asg (pe_tup (pa_cons (pe_callC c_mad (hr.mono (by decide)) rfl pass0 (pa_cons (pv 3) pa_nil)) (pa_cons (pe_callC c_mad (hr.mono (by decide)) rfl pass0 (pa_cons (pv 4) pa_nil)) pa_nil))) (pg_tup rfl (pgs_cons (pg_name (i := 5) scLaw.nd rfl (Or.inr rfl)) (pgs_cons (pg_name (i := 6) scLaw.nd rfl (Or.inl rfl)) pgs_nil))))
 (C8.pss_cut (ps_for PassesOwn.never rfl (pi_list (pe_lst (pa_cons (pe_tup (pa_cons (pe_lamV (T := TQ tb tb1 tb2) TB rfl (List.mem_cons_self ..) uTT (by rfl) (lamS_by (sc := defScope sLaw) (by decide +kernel))) (pa_cons pe_int pa_nil))) (pa_cons (pe_tup (pa_cons (pe_lamV (T := TQ tb tb1 tb2) TB rfl (List.mem_cons_self ..) uTT (by rfl) (lamS_by (sc := defScope sLaw) (by decide +kernel))) (pa_cons pe_int pa_nil))) (pa_cons (pe_tup (pa_cons (pe_lamV (T := TQ tb tb1 tb2) TB rfl (List.mem_cons_self ..) uTT (by rfl) (lamS_by (sc := defScope sLaw) (by decide +kernel))) (pa_cons pe_int pa_nil))) (pa_cons (pe_tup (pa_cons (pe_lamV (T := TQ tb tb1 tb2) TB rfl (List.mem_cons_self ..) uTT (by rfl) (lamS_by (sc := defScope sLaw) (by decide +kernel))) (pa_cons pe_int pa_nil))) pa_nil)))))) (pg_tup rfl (pgs_cons (pg_name (i := 7) scLaw.nd rfl (Or.inl rfl)) (pgs_cons (pg_name (i := 8) scLaw.nd rfl (Or.inl rfl)) pgs_nil))) (pss_one
 (ps_if (pt_not (pt_val (pe_dueL (WY.Knows.or (WY.Knows.or (WY.Knows.mk1 (k := 8) (pr := lamP (lam 0)) (bd := lamB (lam 0)) (sc := lamC (lam 0)) (lamS_by (sc := defScope sLaw) (by decide +kernel)) (fun _ _ _ _ _ => by rfl)
                (fun A outer s H E f c' hr' => (pe_callC c_rea (hr'.mono (by decide)) rfl (passX (takes_of rfl rfl rfl rfl) fun _ _ _ _ h => h) (pa_cons (pv 5) pa_nil)))) (WY.Knows.mk1 (k := 8) (pr := lamP (lam 1)) (bd := lamB (lam 1)) (sc := lamC (lam 1)) (lamS_by (sc := defScope sLaw) (by decide +kernel)) (fun _ _ _ _ _ => by rfl)
                (fun A outer s H E f c' hr' => (pe_callC c_psd (hr'.mono (by decide)) rfl (passX (takes_of rfl rfl rfl rfl) fun _ _ _ _ h => h) (pa_cons (pv 5) pa_nil))))) (WY.Knows.or (WY.Knows.mk1 (k := 8) (pr := lamP (lam 2)) (bd := lamB (lam 2)) (sc := lamC (lam 2)) (lamS_by (sc := defScope sLaw) (by decide +kernel)) (fun _ _ _ _ _ => by rfl)
                (fun A outer s H E f c' hr' => (pe_callKC qc_rea (hr'.mono (by decide)) rfl (passX (takes_of rfl rfl rfl rfl) fun _ _ _ _ h => h) (pk_cons (pv 5) pk_nil)))) (WY.Knows.mk1 (k := 8) (pr := lamP (lam 3)) (bd := lamB (lam 3)) (sc := lamC (lam 3)) (lamS_by (sc := defScope sLaw) (by decide +kernel)) (fun _ _ _ _ _ => by rfl)
                (fun A outer s H E f c' hr' => (pe_callKC qc_psd (hr'.mono (by decide)) rfl (passX (takes_of rfl rfl rfl rfl) fun _ _ _ _ h => h) (pk_cons (pv 5) pk_nil)))))) FD bD rfl mD (hr.mono (by decide)) hgu T FC bC mC mW ET mCT c_isc (pa_cons (pv 7) (pa_cons (pe_callC c_rch (hr.mono (by decide)) rfl pass0 (pa_cons (pv 3) (pa_cons (pv 8) pa_nil))) pa_nil))))) (pss_one
 (ps_ret pe_bl)) pss_nil)))
 (C8.pss_cut (ps_par (i := 9) (j := 10) (by rfl) scLaw.nd rfl rfl (by decide) rfl rfl (pa_cons (pe_callCG c_l1 hgu (hr.mono (by decide)) rfl pass0 (pa_cons (pe_glob (v := .ref fRea) rfl m_rea rfl) (pa_cons (pv 5) pa_nil))) (pa_cons (pe_callCG c_l1 hgu (hr.mono (by decide)) rfl pass0 (pa_cons (pe_glob (v := .ref fPsd) rfl m_psd rfl) (pa_cons (pv 5) pa_nil))) pa_nil)) (by rfl))
 (C8.pss_cut (ps_if (PW.pt (pw_or (PW.pt (pw_and (pt_cmpR op_notN (pv 9) pe_non (nomark _)) (pw_and1 (pt_cmpR (op_ownNe GE U.ne U.iE bE (hr.mono (by decide)) pass0) (pe_callC c_psd (hr.mono (by decide)) rfl passF (pa_cons (pv 9) pa_nil)) (pe_callC c_rai (hr.mono (by decide)) rfl passF (pa_cons (pv 5) (pa_cons pe_int pa_nil))) (nomark _))))) (pw_or1 (PW.pt (pw_and (pt_cmpR op_notN (pv 10) pe_non (nomark _)) (pw_and1 (pt_cmpR (op_ownNe GE U.ne U.iE bE (hr.mono (by decide)) pass0) (pe_callC c_rea (hr.mono (by decide)) rfl passF (pa_cons (pv 10) pa_nil)) (pe_callC c_ltr (hr.mono (by decide)) rfl passF (pa_cons (pv 5) (pa_cons pe_int pa_nil))) (nomark _)))))))) (pss_one
 (ps_ret pe_bl)) pss_nil)
 (C8.pss_cut (ps_set (i := 11) scLaw.nd rfl (Or.inl rfl) (pe_callC c_ske (hr.mono (by decide)) rfl pass0 (pa_cons (pv 1) (pa_cons pe_int (pa_cons pe_int pa_nil)))))
 (C8.pss_cut (ps_set (i := 12) scLaw.nd rfl (Or.inl rfl) (pe_callCG c_l2 hgu (hr.mono (by decide)) rfl pass0 (pa_cons (pe_glob (v := .ref fFol) rfl m_fol rfl) (pa_cons (pe_callC c_mad (hr.mono (by decide)) rfl pass0 (pa_cons (pv 11) pa_nil)) (pa_cons (pv 6) pa_nil)))))
 (C8.pss_cut (ps_if (PW.pt (pw_and (pt_cmpR op_notN (pe_callCG c_l1 hgu (hr.mono (by decide)) rfl pass0 (pa_cons (pe_glob (v := .ref fPsd) rfl m_psd rfl) (pa_cons (pv 12) pa_nil))) pe_non (nomark _)) (pw_and1 (pt_not (pt_val (pe_callC c_crs (hr.mono (by decide)) rfl passF (pa_cons (pv 1) (pa_cons (pv 11) (pa_cons (pv 4) (pa_cons (pv 12) pa_nil)))))))))) (pss_one
 (ps_ret pe_bl)) pss_nil)
 (C8.pss_cut (ps_set (i := 13) scLaw.nd rfl (Or.inr rfl) (pe_callC c_pic (hr.mono (by decide)) rfl pass0 (pa_cons (pv 1) (pa_cons (pe_lst (pa_cons pe_non (pa_cons pe_int (pa_cons (pv 3) (pa_cons (pe_tup (pa_cons pe_int (pa_cons pe_int pa_nil))) pa_nil))))) pa_nil))))
 (pss_one
 (ps_if (pt_not (pt_val (pe_arefL (WY.Knows.or (WY.Knows.mk1 (k := 8) (pr := lamP (lam 4)) (bd := lamB (lam 4)) (sc := lamC (lam 4)) (lamS_by (sc := defScope sLaw) (by decide +kernel)) (fun _ _ _ _ _ => by rfl)
                (fun A outer s H E f c' hr' => (pe_callC c_rea (hr'.mono (by decide)) rfl (passX (takes_of rfl rfl rfl rfl) fun _ _ _ _ h => h) (pa_cons (pv 13) pa_nil)))) (WY.Knows.mk1 (k := 8) (pr := lamP (lam 5)) (bd := lamB (lam 5)) (sc := lamC (lam 5)) (lamS_by (sc := defScope sLaw) (by decide +kernel)) (fun _ _ _ _ _ => by rfl)
                (fun A outer s H E f c' hr' => (pe_callC c_psd (hr'.mono (by decide)) rfl (passX (takes_of rfl rfl rfl rfl) fun _ _ _ _ h => h) (pa_cons (pv 13) pa_nil))))) FA bA rfl mA (hr.mono (by decide)) T FC bC mC mW EB mCB (pa_cons (pe_lst (pa_cons (pe_lamV (T := TQ tb tb1 tb2) TB rfl (List.mem_cons_self ..) uTT (by rfl) (lamS_by (sc := defScope sLaw) (by decide +kernel))) (pa_cons (pe_lamV (T := TQ tb tb1 tb2) TB rfl (List.mem_cons_self ..) uTT (by rfl) (lamS_by (sc := defScope sLaw) (by decide +kernel))) pa_nil))) pa_nil)))) (pss_one
 (ps_ret pe_bl)) pss_nil)))))))))))))
 (pss_one
 (ps_ret pe_bl)))), ?_⟩
    generalize eTT : TQ tb tb1 tb2 = TT at *
    -- the draw
    refine ⟨fun σ H' => ∃ d l e0, σ = [some (.ref a), some (.ref d), none, none, none, none, none, none, none, none, none, none, none, none] ∧ DT TT H' d l e0 ∧ SqL K H' a (ns.map V.int), ?_, ?_⟩
    · refine ⟨_, rfl, a, ns, rfl, hS, hn, fun d l e0 H0 _ _ _ D0 s0 => ?_⟩
      refine ⟨d, l, e0, rfl, ⟨D0, fun p hp => ?_⟩, s0.seq hS⟩
      obtain ⟨t1, t2, t3⟩ := h0 hT
      rw [← eTT] at hp
      unfold TQ at hp
      simp only [List.mem_cons, List.not_mem_nil, or_false] at hp
      rcases hp with rfl | rfl | rfl
      · exact LamX.TabS.nil (s0 _ _ t1)
      · exact LamX.TabS.nil (s0 _ _ t2)
      · exact LamX.TabS.nil (s0 _ _ t3)
    clear hS hT
    rintro σ H0 ⟨d, l, e0, rfl, D0, hS0⟩
    refine ⟨fun σ H' => True, ?_, fun σ H' _ => k H'⟩
    refine ⟨_, rfl, a, _, rfl, .inl hS0, _, _, rfl, _, _, rfl, rfl, _, rfl, ?_, ?_, for_range (lo := 0) (n := ((1 : Int) + (if (4 : Int) < ((ns.map V.int).length : Int) then (4 : Int) else ((ns.map V.int).length : Int))).toNat)
      (fun i σ H1 => ∃ w2 w3 w4 w5 w6 w7 w8 w9 w10 w11 w12 w13, σ = [some (.ref a), some (.ref d), w2, w3, w4, w5, w6, w7, w8, w9, w10, w11, w12, w13] ∧ DT TT H1 d l e0) ⟨_, _, _, _, _, _, _, _, _, _, _, _, rfl, D0⟩ ?_ (fun _ _ _ => trivial)⟩
    · split <;> omega
    · rw [List.length_map]; split <;> omega
    clear D0 hS0
    rintro i σ H1 hi ⟨w2, w3, w4, w5, w6, w7, w8, w9, w10, w11, w12, w13, rfl, D1⟩
    generalize hv2 : V.int (0 + (i : Int)) = tn
    clear hi hv2
    -- two sketches
    refine ⟨fun σ H' => ∃ e b xs p g e' b' xs' p' g', σ = [some (.ref a), some (.ref d), some (tn), some (.ref e), some (.ref e'), w5, w6, w7, w8, w9, w10, w11, w12, w13] ∧ DT TT H' d l e0 ∧ SkAt H' d l e b xs p g ∧ Sk 8 6 90000 xs p g ∧ SkAt H' d l e' b' xs' p' g' ∧ Sk 8 6 30 xs' p' g', ?_, ?_⟩
    · refine ⟨_, rfl, _, rfl, _, _, rfl, rfl, ⟨by decide, by decide, by decide⟩, (by show 3 ≤ sizeLine; decide), fun u hu => ?_⟩
      generalize g4 : upd H1 u _ = H2
      obtain ⟨s2, f2⟩ := alloc g4 hu
      refine ⟨d, l, e0, u, _, rfl, D1.D.same s2, f2, D1.D.nl hu, (by show 0 < 3; decide), (by show 3 ≤ 2 ^ 100; decide), fun i2 z H3 hz D3 k3 => ?_⟩
      obtain ⟨m, rfl, m1, m2⟩ : ∃ m : Int, z = .int m ∧ 1 ≤ m ∧ m ≤ 10000 := by
        match i2, hz with
        | 0, hz => cases hz; exact ⟨_, rfl, by decide, by decide⟩
        | 1, hz => cases hz; exact ⟨_, rfl, by decide, by decide⟩
        | 2, hz => cases hz; exact ⟨_, rfl, by decide, by decide⟩
      have DT3 := (D1.same s2).keep D3 k3
      refine ⟨d, l, e0, 8, m, rfl, D3, by decide, by decide, m1, by omega, fun e b xs p g H4 _ _ A4 S4 D4 k4 => ?_⟩
      refine ⟨_, rfl, d, l, e0, 6, 3, rfl, D4, by decide, by decide, by decide, by decide, fun e' b' xs' p' g' H5 _ _ A5 S5 D5 k5 => ?_⟩
      exact ⟨_, _, rfl, e, b, xs, p, g, e', b', xs', p', g', rfl, (DT3.keep D4 k4).keep D5 k5, A4.keep k5, S4.wide (by decide) (by omega), A5, S5.wide (by decide) (by decide)⟩
    clear D1
    rintro σ H1 ⟨e, b, xs, p, g, e', b', xs', p', g', rfl, D1, A1, S1, A1', S1'⟩
    -- told flat
    refine ⟨fun σ H' => ∃ e b xs p g, σ = [some (.ref a), some (.ref d), some (tn), some (.ref e), some (.ref e'), w5, w6, w7, w8, w9, w10, w11, w12, w13] ∧ DT TT H' d l e0 ∧ SkAt H' d l e b xs p g ∧ Sk 8 6 90000 xs p g ∧ SkAt H' d l e' b' xs' p' g', ?_, ?_⟩
    · refine ⟨_, rfl, d, l, e0, 4, rfl, D1.D, by decide, by decide, fun r H2 r0 r1 D2 k2 => ⟨rfl, _, rfl, ?_⟩⟩
      have DT2 := D1.keep D2 k2
      have A2 := A1.keep k2
      have A2' := A1'.keep k2
      have same : ∃ e5 b5 xs5 p5 g5, ([some (.ref a), some (.ref d), some (tn), some (.ref e), some (.ref e'), w5, w6, w7, w8, w9, w10, w11, w12, w13] : L2.St) = [some (.ref a), some (.ref d), some (tn), some (.ref e5), some (.ref e'), w5, w6, w7, w8, w9, w10, w11, w12, w13] ∧ DT TT H2 d l e0 ∧ SkAt H2 d l e5 b5 xs5 p5 g5 ∧ Sk 8 6 90000 xs5 p5 g5 ∧ SkAt H2 d l e' b' xs' p' g' := ⟨e, b, xs, p, g, rfl, DT2, A2, S1, A2'⟩
      obtain ⟨lv, hl⟩ : ∃ lv, xs[xs.length - 1]? = some lv := by
        obtain ⟨L, V1, _⟩ := S1.upl (by decide) (by decide)
        obtain ⟨lv, hl, _⟩ := V1.last
        exact ⟨lv, hl⟩
      refine ite2 (fun _ => ?_) (fun _ => iteF same)
      refine ⟨_, rfl, e, b, xs, p, g, lv, rfl, A2.ob, A2.li, hl, ?_⟩
      by_cases cv : lv = .non
      · exact ⟨false, by rw [decide_eq_true cv] <;> rfl, iteF same⟩
      clear same
      refine ⟨true, by rw [decide_eq_false cv] <;> rfl, iteT ?_⟩
      refine fun e2 he2 => ?_
      generalize g3 : upd H2 e2 _ = H3
      obtain ⟨s3, f3⟩ := alloc g3 he2
      have n2d := D2.nd he2
      have n2l := D2.nl he2
      have neD : ∀ {u : Addr} {o}, H2 u = some o → u ≠ e2 := fun h z => by rw [z, he2] at h; cases h
      have G1 := A2.keep (Same.keepD d l s3)
      have G2 := A2'.keep (Same.keepD d l s3)
      have DT3 := DT2.same s3
      refine ⟨_, rfl, e, _, rfl, sk_start G1.ob, f3, skKvs b 1 0, rfl, (by show 3 ≤ 15; decide), ?_⟩
      refine ⟨e2, b, xs, 1, 0, rfl, ⟨DT3.D.put n2d n2l (D2.nc he2), tabs_putD DT3.T f3⟩, ⟨upd_same, ?_, n2d, n2l, G1.ad, G1.al⟩, S1.flat (by decide) hl cv, ⟨?_, ?_, G2.ed, G2.el, G2.ad, G2.al⟩⟩
      · rw [upd_ne (neD A2.li)]; exact G1.li
      · rw [upd_ne (neD A2'.ob)]; exact G2.ob
      · rw [upd_ne (neD A2'.li)]; exact G2.li
    clear D1 A1 A1' S1
    rintro σ H1 ⟨e, b, xs, p, g, rfl, D1, A1, S1, A1'⟩
    obtain ⟨L, V1, uL, _⟩ := S1.upl (by decide) (by decide)
    have S1' := S1'.wide (Nat.le_refl _) (show (30 : Int) ≤ 30 by decide)
    obtain ⟨M, V1', uM, bM⟩ := S1'.upl (by decide) (by decide)
    obtain ⟨N0, hN0⟩ := inv_all L 0
    obtain ⟨N1, hN1⟩ := inv_all L 1
    -- curves
    refine ⟨fun σ H' => ∃ (x y : Addr) (v v' : List V) (q q' : Nat) (r r' : Int), σ = [some (.ref a), some (.ref d), some (tn), some (.ref e), some (.ref e'), some (.ref x), some (.ref y), w7, w8, w9, w10, w11, w12, w13] ∧ DT TT H' d l e0 ∧ SkAt H' d l e b xs p g ∧ SkAt H' d l e' b' xs' p' g' ∧ KcV H' C x L v q r ∧ v.length ≤ 8 ∧ KcV H' C y M v' q' r' ∧ q' ≤ 8, ?_, ?_⟩
    · refine ⟨_, rfl, e, b, xs, p, g, rfl, A1.ob, A1.li, S1.make (by decide) (by decide) (by decide), fun x v q r H2 fv cu s2 => ?_⟩
      have A2' := A1'.keep (Same.keepD d l s2)
      refine ⟨_, rfl, e', b', xs', p', g', rfl, A2'.ob, A2'.li, S1'.make (by decide) (by decide) (by decide), fun y v' q' r' H3 fv' cu' s3 => ?_⟩
      have s23 := Same.trans s2 s3
      obtain ⟨qn, kx, _, vl⟩ := kcv_ofV (S1.make (by decide) (by decide) (by decide)) V1 fv cu
      obtain ⟨qn', ky, q8, _⟩ := kcv_ofV (S1'.make (by decide) (by decide) (by decide)) V1' fv' cu'
      refine ⟨(by show 2 ≤ sizeLine; decide), fun t0 ht0 => ?_⟩
      generalize g9 : upd H3 t0 _ = H4
      obtain ⟨s9, f9⟩ := alloc g9 ht0
      have sF := Same.trans s23 s9
      exact ⟨t0, _, rfl, SqT.of f9, rfl, _, _, rfl, _, _, rfl, rfl, x, y, v, v', qn, qn', r, r', rfl, D1.same sF, A1.keep (Same.keepD d l sF), A1'.keep (Same.keepD d l sF), kx.same (Same.trans s3 s9), vl, ky.same s9, q8⟩
    clear D1 A1 A1'
    rintro σ H1 ⟨x, y, v, v', q, q', r, r', rfl, D1, A1, A1', kx, vl, ky, q8⟩
    -- four works
    refine ⟨fun σ H' => ∃ w7 w8, σ = [some (.ref a), some (.ref d), some (tn), some (.ref e), some (.ref e'), some (.ref x), some (.ref y), w7, w8, w9, w10, w11, w12, w13] ∧ DT TT H' d l e0 ∧ SkAt H' d l e b xs p g ∧ SkAt H' d l e' b' xs' p' g' ∧ KcV H' C x L v q r ∧ KcV H' C y M v' q' r', ?_, ?_⟩
    · refine ⟨D1.T, fun f1 c1 H2 x2 T2 n1 hc1 => ?_⟩
      generalize g2 : upd H2 f1 _ = H3
      obtain ⟨s2, hf1⟩ := alloc g2 n1
      refine ⟨(by show 2 ≤ sizeLine; decide), fun t1 ht1 => ?_⟩
      generalize g3 : upd H3 t1 _ = H4
      obtain ⟨s3, ft1⟩ := alloc g3 ht1
      refine ⟨Tabs.same (Tabs.same T2 s2) s3, fun f2 c2 H5 x5 T5 n2 hc2 => ?_⟩
      generalize g5 : upd H5 f2 _ = H6
      obtain ⟨s5, hf2⟩ := alloc g5 n2
      refine ⟨(by show 2 ≤ sizeLine; decide), fun t2 ht2 => ?_⟩
      generalize g6 : upd H6 t2 _ = H7
      obtain ⟨s6, ft2⟩ := alloc g6 ht2
      refine ⟨Tabs.same (Tabs.same T5 s5) s6, fun f3 c3 H8 x8 T8 n3 hc3 => ?_⟩
      generalize g8 : upd H8 f3 _ = H9
      obtain ⟨s8, hf3⟩ := alloc g8 n3
      refine ⟨(by show 2 ≤ sizeLine; decide), fun t3 ht3 => ?_⟩
      generalize g9 : upd H9 t3 _ = HA
      obtain ⟨s9, ft3⟩ := alloc g9 ht3
      refine ⟨Tabs.same (Tabs.same T8 s8) s9, fun f4 c4 HB xB TB9 n4 hc4 => ?_⟩
      generalize gB : upd HB f4 _ = HC
      obtain ⟨sB, hf4⟩ := alloc gB n4
      refine ⟨(by show 2 ≤ sizeLine; decide), fun t4 ht4 => ?_⟩
      generalize gC : upd HC t4 _ = HD
      obtain ⟨sC, ft4⟩ := alloc gC ht4
      refine ⟨(by show 4 ≤ sizeLine; decide), fun q1 hq1 => ?_⟩
      generalize gD : upd HD q1 _ = HE
      obtain ⟨sD, fD⟩ := alloc gD hq1
      have aD : ExtN HD HE := ExtN.of_same sD
      have aC : ExtN HC HE := (ExtN.of_same sC).trans aD
      have aA : ExtN HA HE := xB.trans ((ExtN.of_same sB).trans aC)
      have a9 : ExtN H9 HE := (ExtN.of_same s9).trans aA
      have a7 : ExtN H7 HE := x8.trans ((ExtN.of_same s8).trans a9)
      have a6 : ExtN H6 HE := (ExtN.of_same s6).trans a7
      have a4 : ExtN H4 HE := x5.trans ((ExtN.of_same s5).trans a6)
      have a3 : ExtN H3 HE := (ExtN.of_same s3).trans a4
      have a1 : ExtN H1 HE := x2.trans ((ExtN.of_same s2).trans a3)
      have tnb : ∀ {xs : List V} (o), (HO.tup xs) ≠ .tbl o := fun _ z => by cases z
      have hf1' := a3 _ _ hf1 lamO_ne
      have hc1' := a3 _ _ (s2 _ _ hc1) LamX.codeO_ne
      have hf2' := a6 _ _ hf2 lamO_ne
      have hc2' := a6 _ _ (s5 _ _ hc2) LamX.codeO_ne
      have hf3' := a9 _ _ hf3 lamO_ne
      have hc3' := a9 _ _ (s8 _ _ hc3) LamX.codeO_ne
      have hf4' := aC _ _ hf4 lamO_ne
      have hc4' := aC _ _ (sB _ _ hc4) LamX.codeO_ne
      have ft1' := a4 _ _ ft1 tnb
      have ft2' := a7 _ _ ft2 tnb
      have ft3' := aA _ _ ft3 tnb
      have ft4' := aD _ _ ft4 tnb
      have TE := Tabs.same (Tabs.same (Tabs.same TB9 sB) sC) sD
      refine ⟨q1, rfl, ⟨_, SqL.of fD⟩, for_list (K := K) (a := q1) (xs := [V.ref t1, .ref t2, .ref t3, .ref t4]) (fun i σ H' => ∃ w7 w8, σ = [some (.ref a), some (.ref d), some (tn), some (.ref e), some (.ref e'), some (.ref x), some (.ref y), w7, w8, w9, w10, w11, w12, w13] ∧ Same HE H') ⟨_, _, rfl, Same.refl _⟩ (fun i σ H' _ ⟨_, _, _, x3⟩ => SqL.of (x3 _ _ fD)) ?_ ?_⟩
      rotate_left
      · rintro σ HF ⟨w7, w8, rfl, xF⟩
        have aF := a1.trans (ExtN.of_same xF)
        exact ⟨_, _, rfl, D1.ext (Tabs.same TE xF) aF, skE A1 aF, skE A1' aF, kx.extN aF, ky.extN aF⟩
      rintro j w σ HF hv ⟨w7, w8, rfl, xF⟩
      have aF := a1.trans (ExtN.of_same xF)
      have kxF := kx.extN aF
      have AF := skE A1 aF
      match j, hv with
      | 0, hv =>
        cases hv
        exact ⟨t1, _, rfl, SqT.of (xF _ _ ft1'), rfl, _, _, rfl, _, _, rfl, rfl, _, rfl, _, rfl, _, rfl, e, b, xs, p, 0, g, L, N0, rfl, ski_at AF V1, uL, by decide, hN0,
          fun T9 b9 n9 p9 g9 HG D9 sG => ⟨.inl (.inl ()), f1, c1, .ref T9, rfl, ⟨sG _ _ (xF _ _ hf1'), sG _ _ (xF _ _ hc1')⟩, due_inv (fl := true) (go := False) (fun E H' Q h => ⟨_, rfl, h⟩) ET (kxF.same sG) uL hN0 (.inr ⟨T9, b9, n9, p9, g9, rfl, D9, fun z => z.elim⟩), fun H' s' => ⟨true, rfl, iteF ⟨_, _, rfl, Same.trans xF (Same.trans sG s')⟩⟩⟩,
          fun HG h4 sG => ⟨.inl (.inl ()), f1, c1, .non, rfl, ⟨sG _ _ (xF _ _ hf1'), sG _ _ (xF _ _ hc1')⟩, due_inv (fl := true) (go := False) (fun E H' Q h => ⟨_, rfl, h⟩) ET (kxF.same sG) uL hN0 (.inl ⟨rfl, h4⟩), fun H' s' => ⟨true, rfl, iteF ⟨_, _, rfl, Same.trans xF (Same.trans sG s')⟩⟩⟩⟩
      | 1, hv =>
        cases hv
        exact ⟨t2, _, rfl, SqT.of (xF _ _ ft2'), rfl, _, _, rfl, _, _, rfl, rfl, _, rfl, _, rfl, _, rfl, e, b, xs, p, 1, g, L, N1, rfl, ski_at AF V1, uL, by decide, hN1,
          fun T9 b9 n9 p9 g9 HG D9 sG => ⟨.inl (.inr ()), f2, c2, .ref T9, rfl, ⟨sG _ _ (xF _ _ hf2'), sG _ _ (xF _ _ hc2')⟩, due_inv (fl := true) (go := False) (fun E H' Q h => ⟨_, rfl, h⟩) ET (kxF.same sG) uL hN1 (.inr ⟨T9, b9, n9, p9, g9, rfl, D9, fun z => z.elim⟩), fun H' s' => ⟨true, rfl, iteF ⟨_, _, rfl, Same.trans xF (Same.trans sG s')⟩⟩⟩,
          fun HG h4 sG => ⟨.inl (.inr ()), f2, c2, .non, rfl, ⟨sG _ _ (xF _ _ hf2'), sG _ _ (xF _ _ hc2')⟩, due_inv (fl := true) (go := False) (fun E H' Q h => ⟨_, rfl, h⟩) ET (kxF.same sG) uL hN1 (.inl ⟨rfl, h4⟩), fun H' s' => ⟨true, rfl, iteF ⟨_, _, rfl, Same.trans xF (Same.trans sG s')⟩⟩⟩⟩
      | 2, hv =>
        cases hv
        exact ⟨t3, _, rfl, SqT.of (xF _ _ ft3'), rfl, _, _, rfl, _, _, rfl, rfl, _, rfl, _, rfl, _, rfl, e, b, xs, p, 0, g, L, N0, rfl, ski_at AF V1, uL, by decide, hN0,
          fun T9 b9 n9 p9 g9 HG D9 sG => ⟨.inr (.inl ()), f3, c3, .ref T9, rfl, ⟨sG _ _ (xF _ _ hf3'), sG _ _ (xF _ _ hc3')⟩, due_inv (fl := true) (go := False) (fun E H' Q h => ⟨_, rfl, h⟩) ET (kxF.same sG) uL hN0 (.inr ⟨T9, b9, n9, p9, g9, rfl, D9, fun z => z.elim⟩), fun H' s' => ⟨true, rfl, iteF ⟨_, _, rfl, Same.trans xF (Same.trans sG s')⟩⟩⟩,
          fun HG h4 sG => ⟨.inr (.inl ()), f3, c3, .non, rfl, ⟨sG _ _ (xF _ _ hf3'), sG _ _ (xF _ _ hc3')⟩, due_inv (fl := true) (go := False) (fun E H' Q h => ⟨_, rfl, h⟩) ET (kxF.same sG) uL hN0 (.inl ⟨rfl, h4⟩), fun H' s' => ⟨true, rfl, iteF ⟨_, _, rfl, Same.trans xF (Same.trans sG s')⟩⟩⟩⟩
      | 3, hv =>
        cases hv
        exact ⟨t4, _, rfl, SqT.of (xF _ _ ft4'), rfl, _, _, rfl, _, _, rfl, rfl, _, rfl, _, rfl, _, rfl, e, b, xs, p, 1, g, L, N1, rfl, ski_at AF V1, uL, by decide, hN1,
          fun T9 b9 n9 p9 g9 HG D9 sG => ⟨.inr (.inr ()), f4, c4, .ref T9, rfl, ⟨sG _ _ (xF _ _ hf4'), sG _ _ (xF _ _ hc4')⟩, due_inv (fl := true) (go := False) (fun E H' Q h => ⟨_, rfl, h⟩) ET (kxF.same sG) uL hN1 (.inr ⟨T9, b9, n9, p9, g9, rfl, D9, fun z => z.elim⟩), fun H' s' => ⟨true, rfl, iteF ⟨_, _, rfl, Same.trans xF (Same.trans sG s')⟩⟩⟩,
          fun HG h4 sG => ⟨.inr (.inr ()), f4, c4, .non, rfl, ⟨sG _ _ (xF _ _ hf4'), sG _ _ (xF _ _ hc4')⟩, due_inv (fl := true) (go := False) (fun E H' Q h => ⟨_, rfl, h⟩) ET (kxF.same sG) uL hN1 (.inl ⟨rfl, h4⟩), fun H' s' => ⟨true, rfl, iteF ⟨_, _, rfl, Same.trans xF (Same.trans sG s')⟩⟩⟩⟩
    clear D1 A1 A1' kx ky
    rintro σ H1 ⟨w7, w8, rfl, D1, A1, A1', kx, ky⟩
    -- there
    refine ⟨fun σ H' => ∃ w9 w10, σ = [some (.ref a), some (.ref d), some (tn), some (.ref e), some (.ref e'), some (.ref x), some (.ref y), w7, w8, some (w9), some (w10), w11, w12, w13] ∧ DT TT H' d l e0 ∧ SkAt H' d l e b xs p g ∧ SkAt H' d l e' b' xs' p' g' ∧ KcV H' C x L v q r ∧ KcV H' C y M v' q' r' ∧ MbC H' C N0 w9 ∧ MbC H' C N1 w10, ?_, ?_⟩
    · refine ⟨_, rfl, fRea, .ref x, rfl, D1.T, .inr ⟨fun z => (by cases z), _, N0, hRea, fun H' x1 Q' E' hh => ⟨_, rfl, .inr ⟨x, L, N0, v, q, r, rfl, kx.extN x1, uL, hN0, hh⟩⟩, fun w9 H2 m2 e2 t2 => ?_⟩⟩
      have D2 := D1.ext t2 e2
      have kx2 := kx.extN e2
      refine ⟨_, rfl, fPsd, .ref x, rfl, D2.T, .inr ⟨fun z => (by cases z), _, N1, hPsd, fun H' x1 Q' E' hh => ⟨_, rfl, .inr ⟨x, L, N1, v, q, r, rfl, kx2.extN x1, uL, hN1, hh⟩⟩, fun w10 H3 m3 e3 t3 => ?_⟩⟩
      exact ⟨_, _, rfl, w9, w10, rfl, D2.ext t3 e3, skE (skE A1 e2) e3, skE (skE A1' e2) e3, kx2.extN e3, (ky.extN e2).extN e3, m2.extN e3, m3⟩
    clear D1 A1 A1' kx ky
    rintro σ H1 ⟨w9, w10, rfl, D1, A1, A1', kx, ky, mb0, mb1⟩
    -- and back
    have kn : ∀ {H2 : Hp}, KcV H2 C x L v q r → KCn 400 H2 C x L q := fun h => ⟨v, r, h.1, h.2.1, h.2.2.1, by omega⟩
    have fR := fit_raiV V1
    have fL := fit_latV V1
    have u0 := upinv hN0
    have u1 := upinv hN1
    refine ⟨fun σ H' => σ = [some (.ref a), some (.ref d), some (tn), some (.ref e), some (.ref e'), some (.ref x), some (.ref y), w7, w8, some (w9), some (w10), w11, w12, w13] ∧ Same H1 H', ?_, ?_⟩
    · rcases mb0 with ⟨rfl, _⟩ | ⟨a0, rfl, c0⟩
      · refine ⟨_, rfl, rfl, false, rfl, iteF ?_⟩
        rcases mb1 with ⟨rfl, _⟩ | ⟨a1, rfl, c1⟩
        · exact ⟨_, rfl, rfl, false, rfl, iteF (iteF ⟨rfl, Same.refl _⟩)⟩
        · obtain ⟨va, qa, ra, ka⟩ := c1.kcv u1 (inv_bd V1 uL (by decide) hN1)
          refine ⟨_, rfl, rfl, true, rfl, iteT ⟨_, rfl, _, rfl, .inr ⟨a1, N1, latV L 1, va, qa, ra, rfl, ka, u1, back_lat uL hN1, fun v5 q5 r5 z5 H5 fg5 l5 hz5 cu5 s5 => ?_, fun h => absurd h (fit_notV fL)⟩⟩⟩
          refine ⟨_, rfl, _, _, rfl, .inl ⟨x, L, q, 1, rfl, rfl, kn (kx.same s5), by decide, fun z6 H6 hz6 i6 s6 => ?_⟩⟩
          exact ne_cur ⟨v5, q5, r5, cu5.same s6, fg5⟩ i6 fun H7 s7 => ⟨false, rfl, iteF ⟨rfl, Same.trans s5 (Same.trans s6 s7)⟩⟩
      · obtain ⟨va, qa, ra, ka⟩ := c0.kcv u0 (inv_bd V1 uL (by decide) hN0)
        refine ⟨_, rfl, rfl, true, rfl, iteT ⟨_, rfl, _, rfl, .inr ⟨a0, N0, raiV L 1, va, qa, ra, rfl, ka, u0, back_rai uL hN0, fun v2 q2 r2 z2 H2 fg2 l2 hz2 cu2 s2 => ?_, fun h => absurd h (fit_notV fR)⟩⟩⟩
        refine ⟨_, rfl, _, _, rfl, .inl ⟨x, L, q, 1, rfl, rfl, kn (kx.same s2), by decide, by decide, fun z3 H3 hz3 i3 s3 => ?_⟩⟩
        refine ne_cur ⟨v2, q2, r2, cu2.same s3, fg2⟩ i3 fun H4 s4 => ⟨false, rfl, iteF ?_⟩
        have s14 := Same.trans s2 (Same.trans s3 s4)
        rcases mb1 with ⟨rfl, _⟩ | ⟨a1, rfl, c1⟩
        · exact ⟨_, rfl, rfl, false, rfl, iteF (iteF ⟨rfl, s14⟩)⟩
        · obtain ⟨vb, qb, rb, kb⟩ := (c1.extN (ExtN.of_same s14)).kcv u1 (inv_bd V1 uL (by decide) hN1)
          refine ⟨_, rfl, rfl, true, rfl, iteT ⟨_, rfl, _, rfl, .inr ⟨a1, N1, latV L 1, vb, qb, rb, rfl, kb, u1, back_lat uL hN1, fun v5 q5 r5 z5 H5 fg5 l5 hz5 cu5 s5 => ?_, fun h => absurd h (fit_notV fL)⟩⟩⟩
          refine ⟨_, rfl, _, _, rfl, .inl ⟨x, L, q, 1, rfl, rfl, kn ((kx.same s14).same s5), by decide, fun z6 H6 hz6 i6 s6 => ?_⟩⟩
          exact ne_cur ⟨v5, q5, r5, cu5.same s6, fg5⟩ i6 fun H7 s7 => ⟨false, rfl, iteF ⟨rfl, Same.trans s14 (Same.trans s5 (Same.trans s6 s7))⟩⟩
    rintro σ H2 ⟨rfl, s2⟩
    have D1 := D1.same s2
    have A1 := A1.keep (Same.keepD d l s2)
    have A1' := A1'.keep (Same.keepD d l s2)
    have ky := ky.same s2
    clear s2 mb0 mb1 kx
    -- a small one
    refine ⟨fun σ H' => ∃ e5 b5 xs5 p5 g5, σ = [some (.ref a), some (.ref d), some (tn), some (.ref e), some (.ref e'), some (.ref x), some (.ref y), w7, w8, some (w9), some (w10), some (.ref e5), w12, w13] ∧ DT TT H' d l e0 ∧ SkAt H' d l e b xs p g ∧ SkAt H' d l e' b' xs' p' g' ∧ KcV H' C y M v' q' r' ∧ SkAt H' d l e5 b5 xs5 p5 g5 ∧ Sk 8 6 30 xs5 p5 g5, ?_, ?_⟩
    · refine ⟨_, rfl, d, l, e0, 6, 3, rfl, D1.D, by decide, by decide, by decide, by decide, fun e5 b5 xs5 p5 g5 H5 _ _ A5 S5 D5 k5 => ?_⟩
      exact ⟨e5, b5, xs5, p5, g5, rfl, D1.keep D5 k5, A1.keep k5, A1'.keep k5, ky.keepD D1.D k5, A5, S5.wide (by decide) (by decide)⟩
    clear D1 A1 A1' ky
    rintro σ H3 ⟨e5, b5, xs5, p5, g5, rfl, D1, A1, A1', ky, A5, S5⟩
    obtain ⟨L5, V5, u5, b5d⟩ := S5.upl (by decide) (by decide)
    obtain ⟨W9, hW9⟩ := fo_all u5 uM
    obtain ⟨N9, hN9⟩ := inv_all W9 1
    -- folded
    refine ⟨fun σ H' => ∃ w12, σ = [some (.ref a), some (.ref d), some (tn), some (.ref e), some (.ref e'), some (.ref x), some (.ref y), w7, w8, some (w9), some (w10), some (.ref e5), some (w12), w13] ∧ DT TT H' d l e0 ∧ SkAt H' d l e b xs p g ∧ SkAt H' d l e' b' xs' p' g' ∧ SkAt H' d l e5 b5 xs5 p5 g5 ∧ MbC H' C W9 w12, ?_, ?_⟩
    · refine ⟨_, rfl, e5, b5, xs5, p5, g5, rfl, A5.ob, A5.li, S5.make (by decide) (by decide) (by decide), fun y5 v5 q5 r5 H4 fv5 cu5 s4 => ?_⟩
      obtain ⟨qn5, k5, q58, _⟩ := kcv_ofV (S5.make (by decide) (by decide) (by decide)) V5 fv5 cu5
      have ky4 := ky.same s4
      have D4 := D1.same s4
      have lc : Nat.lcm qn5 q' ≤ 4000 := by
        have a := k5.2.1.len
        have b := ky.2.1.len
        have := Nat.le_of_dvd (Nat.mul_pos a.1 b.1) (Nat.lcm_dvd_mul qn5 q')
        have : qn5 * q' ≤ 8 * 8 := Nat.mul_le_mul q58 q8
        omega
      refine ⟨_, rfl, fFol, .ref y5, .ref y, rfl, D4.T, .inr ⟨fun z => (by cases z), fun z => (by cases z), _, W9, hFol, fun H' x1 Q' E' hh => ⟨_, _, rfl, .inr ⟨y5, y, L5, M, W9, v5, v', qn5, q', r5, r', rfl, rfl, k5.extN x1, ky4.extN x1, lc, hW9, hh.1, hh.2⟩⟩, fun w12 H5 m5 e9 t9 => ?_⟩⟩
      exact ⟨w12, rfl, D4.ext t9 e9, skE (A1.keep (Same.keepD d l s4)) e9, skE (A1'.keep (Same.keepD d l s4)) e9, skE (A5.keep (Same.keepD d l s4)) e9, m5⟩
    clear D1 A1 A1' ky A5
    rintro σ H4 ⟨w12, rfl, D1, A1, A1', A5, mb⟩
    -- crosswise
    refine ⟨fun σ H' => σ = [some (.ref a), some (.ref d), some (tn), some (.ref e), some (.ref e'), some (.ref x), some (.ref y), w7, w8, some (w9), some (w10), some (.ref e5), some (w12), w13] ∧ DT TT H' d l e0 ∧ SkAt H' d l e b xs p g, ?_, ?_⟩
    · rcases mb with ⟨rfl, _⟩ | ⟨a9, rfl, c9⟩
      · exact ⟨_, rfl, fPsd, .non, rfl, D1.T, .inl ⟨rfl, rfl, false, rfl, iteF (iteF ⟨rfl, D1, A1⟩)⟩⟩
      · obtain ⟨v9, q9, r9, k9⟩ := c9.kcv (up_fo u5 uM hW9) (fo_bd (by decide) b5d bM hW9)
        refine ⟨_, rfl, fPsd, .ref a9, rfl, D1.T, .inr ⟨fun z => (by cases z), _, N9, hPsd, fun H' x1 Q' E' hh => ⟨_, rfl, .inr ⟨a9, W9, N9, v9, q9, r9, rfl, k9.extN x1, up_fo u5 uM hW9, hN9, hh⟩⟩, fun z H5 m5 e9 t9 => ?_⟩⟩
        have D5 := D1.ext t9 e9
        have A5a := skE A1 e9
        rcases m5 with ⟨rfl, _⟩ | ⟨z9, rfl, c5⟩
        · exact ⟨rfl, false, rfl, iteF (iteF ⟨rfl, D5, A5a⟩)⟩
        · refine ⟨rfl, true, rfl, iteT ⟨_, rfl, _, rfl, _, rfl, _, rfl, d, l, e0, e5, b5, e', b', a9, xs5, xs', p5, p', g5, g', L5, M, W9, N9, v9, q9, r9, rfl, D5.D, skE A5 e9, skE A1' e9, V5, V1', u5, uM, k9.extN e9, hW9, hN9, c5.fit, fun H6 D6 k6 => ?_⟩⟩
          exact ⟨true, rfl, iteF ⟨rfl, D5.keep D6 k6, A5a.keep k6⟩⟩
    clear D1 A1 A1' A5 mb
    rintro σ H5 ⟨rfl, D1, A1⟩
    -- no curve
    refine ⟨fun σ H' => ∃ no, σ = [some (.ref a), some (.ref d), some (tn), some (.ref e), some (.ref e'), some (.ref x), some (.ref y), w7, w8, some (w9), some (w10), some (.ref e5), some (w12), some (no)] ∧ DT TT H' d l e0 ∧ NoCur K H' C no, ?_, ?_⟩
    · refine ⟨_, rfl, _, rfl, (by show 2 ≤ sizeLine; decide), fun t1 ht1 => ?_⟩
      generalize g2 : upd H5 t1 _ = H2
      obtain ⟨s2, f2⟩ := alloc g2 ht1
      refine ⟨(by show 4 ≤ sizeLine; decide), fun u1 hu1 => ?_⟩
      generalize g3 : upd H2 u1 _ = H3
      obtain ⟨s3, f3⟩ := alloc g3 hu1
      have s13 := Same.trans s2 s3
      have D3 := D1.same s13
      refine ⟨d, l, e0, u1, [.non, .int 5, .ref e, .ref t1], rfl, D3.D, f3, (D1.D.same s2).nl hu1, (by show 0 < 4; decide), (by show 4 ≤ 2 ^ 100; decide), fun i2 no H4 hx D4 k4 => ?_⟩
      have k14 : KeepD H5 H4 d l := (Same.keepD d l s13).trans k4
      refine ⟨no, rfl, D3.keep D4 k4, ?_⟩
      match i2, hx with
      | 0, hx => cases hx; exact ⟨.type "NoneType", .base .non, nN⟩
      | 1, hx => cases hx; exact ⟨.type "int", .base (.int 5), nI⟩
      | 2, hx => cases hx; exact ⟨.type "dict", .base (.dK (A1.keep k14).ob), U.kD⟩
      | 3, hx => cases hx; exact ⟨.type "tuple", .base (.tup (tup_keep (s3 _ _ f2) D3.D k4)), U.kT⟩
    clear D1 A1
    rintro σ H1 ⟨no, rfl, D1, noc⟩
    refine ⟨D1.T, fun f1 c1 H2 x2 T2 n1 hc1 => ?_⟩
    generalize g2 : upd H2 f1 _ = H3
    obtain ⟨s2, hf1⟩ := alloc g2 n1
    refine ⟨Tabs.same T2 s2, fun f2 c2 H4 x4 T4 n2 hc2 => ?_⟩
    generalize g4 : upd H4 f2 _ = H5
    obtain ⟨s4, hf2⟩ := alloc g4 n2
    refine ⟨(by show 2 ≤ sizeLine; decide), fun q1 hq1 => ?_⟩
    generalize g9 : upd H5 q1 _ = HE
    obtain ⟨s9, f9⟩ := alloc g9 hq1
    have a5 : ExtN H5 HE := ExtN.of_same s9
    have a3 : ExtN H3 HE := x4.trans ((ExtN.of_same s4).trans a5)
    have a1 : ExtN H1 HE := x2.trans ((ExtN.of_same s2).trans a3)
    have hf1' := a3 _ _ hf1 lamO_ne
    have hc1' := a3 _ _ (s2 _ _ hc1) LamX.codeO_ne
    have hf2' := a5 _ _ hf2 lamO_ne
    have hc2' := a5 _ _ (s4 _ _ hc2) LamX.codeO_ne
    have TE := Tabs.same (Tabs.same T4 s4) s9
    have noE := noc.extN a1
    refine ⟨q1, _, rfl, f9, fun z hz => ?_, fun j H' s' => ?_, fun H' s' => ⟨true, rfl, iteF ⟨_, _, _, _, _, _, _, _, _, _, _, _, rfl, D1.ext (Tabs.same TE s') (a1.trans (ExtN.of_same s'))⟩⟩⟩
    · simp only [List.mem_cons, List.not_mem_nil, or_false] at hz
      rcases hz with rfl | rfl
      · exact ⟨.inl (), f1, c1, rfl, hf1', hc1'⟩
      · exact ⟨.inr (), f2, c2, rfl, hf2', hc2'⟩
    · have no' : NoCur K H' C no := noE.extN (ExtN.of_same s')
      match j with
      | .inl () => exact errs_inv (CT := CT) (m := 0) (fun E H9 Q h => ⟨_, rfl, h⟩) EB no'
      | .inr () => exact errs_inv (CT := CT) (m := 1) (fun E H9 Q h => ⟨_, rfl, h⟩) EB no'
end
end WW
end

section
set_option Elab.async false
set_option linter.all false
set_option maxRecDepth 100000
set_option maxHeartbeats 0
namespace WK
open PySem L2 WW WT WG WL WV WC WY
abbrev sE_BadCurve : Stmt := L2.inClass (top 3) 0
theorem scE_BadCurve : FnScope ["self", "part"] ["self", "part"] (defScope sE_BadCurve) := ⟨rfl, rfl, rfl, by decide +kernel, rfl, by decide +kernel, by decide +kernel⟩
theorem okE_BadCurve {P : Program} {w : World} {K : PySem.W.Frag} {mg : Str → Option Value} {base : Heap} {f : Addr} {fd : FuncData} (F : Fun K "__init__" "BadCurve.__init__" sE_BadCurve f fd) : FnOk P w K mg base C8.CX0 1 f fd [("self" : Str), "part"] (WT.spErrI K "part") := by
  refine F.ok scE_BadCurve (fun vs H Q E h => ?_) (fun cdv A outer s H vs Q E hr h => ?_)
  · obtain ⟨a, C, y, rfl, _⟩ := h
    rfl
  · obtain ⟨a, C, y, rfl, e, T, hf, k⟩ := h
    exact ⟨_, pss_one (ps_ost (pv 0) (pv 1)), _, rfl, _, rfl, a, C, rfl, T, hf, .inl ⟨e, k⟩⟩
abbrev sE_BadNumber : Stmt := L2.inClass (top 4) 0
theorem scE_BadNumber : FnScope ["self", "part"] ["self", "part"] (defScope sE_BadNumber) := ⟨rfl, rfl, rfl, by decide +kernel, rfl, by decide +kernel, by decide +kernel⟩
theorem okE_BadNumber {P : Program} {w : World} {K : PySem.W.Frag} {mg : Str → Option Value} {base : Heap} {f : Addr} {fd : FuncData} (F : Fun K "__init__" "BadNumber.__init__" sE_BadNumber f fd) : FnOk P w K mg base C8.CX0 1 f fd [("self" : Str), "part"] (WT.spErrI K "part") := by
  refine F.ok scE_BadNumber (fun vs H Q E h => ?_) (fun cdv A outer s H vs Q E hr h => ?_)
  · obtain ⟨a, C, y, rfl, _⟩ := h
    rfl
  · obtain ⟨a, C, y, rfl, e, T, hf, k⟩ := h
    exact ⟨_, pss_one (ps_ost (pv 0) (pv 1)), _, rfl, _, rfl, a, C, rfl, T, hf, .inl ⟨e, k⟩⟩
abbrev sE_TooMany : Stmt := L2.inClass (top 5) 0
theorem scE_TooMany : FnScope ["self", "most"] ["self", "most"] (defScope sE_TooMany) := ⟨rfl, rfl, rfl, by decide +kernel, rfl, by decide +kernel, by decide +kernel⟩
theorem okE_TooMany {P : Program} {w : World} {K : PySem.W.Frag} {mg : Str → Option Value} {base : Heap} {f : Addr} {fd : FuncData} (F : Fun K "__init__" "TooMany.__init__" sE_TooMany f fd) : FnOk P w K mg base C8.CX0 1 f fd [("self" : Str), "most"] (WT.spErrI K "most") := by
  refine F.ok scE_TooMany (fun vs H Q E h => ?_) (fun cdv A outer s H vs Q E hr h => ?_)
  · obtain ⟨a, C, y, rfl, _⟩ := h
    rfl
  · obtain ⟨a, C, y, rfl, e, T, hf, k⟩ := h
    exact ⟨_, pss_one (ps_ost (pv 0) (pv 1)), _, rfl, _, rfl, a, C, rfl, T, hf, .inl ⟨e, k⟩⟩
def curB (K : PySem.W.Frag) (C fI fE : Addr) : Bool := (PySem.W.plainGet K C Str.empty && PySem.W.hasDictIn K C && PySem.W.plainOver K C && decide (PySem.W.findIn K (.ref C) "__setattr__" = some (some (.builtin "object.__setattr__")))) &&
  ((decide (PySem.W.findIn K (.ref C) "start" = some none) && decide (PySem.W.findIn K (.ref C) "period" = some none) && decide (PySem.W.findIn K (.ref C) "growth" = some none)) &&
  ((decide (PySem.W.findIn K (.ref C) "__class__" = some (some (.builtin "object.__class__"))) && decide (PySem.W.specialIn K (.builtin "object.__class__") "__get__" = some (some (.builtin "getset_descriptor.__get__"))) &&
    decide (PySem.W.takesIn K (.builtin "object.__class__") = some true) && decide (PySem.W.mroIn K C (.type "object") = some true)) &&
  ((decide (PySem.W.kitOne K (.ref C) (.ref C) = some true) && decide (PySem.W.kitOne K (.type "dict") (.ref C) = some false) && decide (PySem.W.kitOne K (.type "tuple") (.ref C) = some false)) &&
  ((PySem.W.makesIn K C && decide (PySem.W.findIn K (.ref C) "__init__" = some (some (.ref fI))) && PySem.W.isFn K (.ref fI) && PySem.W.keepIn K (.ref C)) &&
  ((decide (PySem.W.findIn K (.ref C) "__eq__" = some (some (.ref fE))) && PySem.W.isFn K (.ref fE) && WO.neB K C fE) &&
  (PySem.W.notFirst K C (.ref C) && PySem.W.notFirst K C (.type "dict") && PySem.W.notFirst K C (.type "tuple")))))))
theorem curB_ok {K : PySem.W.Frag} {mg : Str → Option Value} {C fI fE : Addr} (h : curB K C fI fE = true) (m : mg "Curve" = some (.ref C)) : CurT K mg C fI fE := by
  unfold curB at h
  simp only [Bool.and_eq_true, decide_eq_true_eq] at h
  obtain ⟨⟨⟨⟨a1, a2⟩, a3⟩, a4⟩, ⟨⟨b1, b2⟩, b3⟩, ⟨⟨⟨c1, c2⟩, c3⟩, c4⟩, ⟨⟨d1, d2⟩, d3⟩, ⟨⟨⟨e1, e2⟩, e3⟩, e4⟩, ⟨⟨f1, f2⟩, f3⟩, ⟨g1, g2⟩, g3⟩ := h
  exact ⟨⟨a1, a2, a3, a4⟩, b1, b2, b3, c1, c2, c3, c4, d1, d2, d3, m, ⟨e1, e2, e3, e4⟩, f1, f2, f3, g1, g2, g3⟩
def exG (K : PySem.W.Frag) (C W : Addr) : Bool := decide (PySem.W.exmOne K (.ref C) (.ref W) = some true) && decide (PySem.W.kitOne K (.ref C) (.ref C) = some true)
def kitG (K : PySem.W.Frag) (C : Addr) : Bool := decide (PySem.W.kitOne K (.type "NoneType") (.ref C) = some false) && (decide (PySem.W.kitOne K (.type "int") (.ref C) = some false) && decide (PySem.W.kitOne K (.type "str") (.ref C) = some false))
theorem exG_ok {P : Program} {w : World} {K : PySem.W.Frag} {mg : Str → Option Value} {base : Heap} {x f : Str} {C W fI : Addr} {fd : FuncData} (h : exG K C W = true) (T : WT.ErrT P w K mg base x f C fI fd) : ErrGf K W C f := by
  unfold exG at h
  simp only [Bool.and_eq_true, decide_eq_true_eq] at h
  exact ⟨T.ask, h.1, h.2, T.hd, T.hf⟩
theorem kitG_ok {K : PySem.W.Frag} {C : Addr} (h : kitG K C = true) : PySem.W.kitOne K (.type "NoneType") (.ref C) = some false ∧ PySem.W.kitOne K (.type "int") (.ref C) = some false ∧ PySem.W.kitOne K (.type "str") (.ref C) = some false := by
  unfold kitG at h
  simp only [Bool.and_eq_true, decide_eq_true_eq] at h
  exact h
theorem code_of {K : PySem.W.Frag} {x q : Str} {st : Stmt} {fd : FuncData} (F : Fun K x q st (He.ga K x) fd) : fd.code = .ref (WH.ctOf K x).1 := by
  obtain ⟨oc, od, kV, doc, pm, an, cdv, ct, osl, rfl, lk, hcd⟩ := F.ex
  unfold PySem.W.codeIn at hcd
  split at hcd
  · rename_i c
    unfold WH.ctOf WH.coOf
    rw [lk]
  · cases hcd
theorem kbR1 {K : PySem.W.Frag} {x qual y : Str} {st : Stmt} {f : Addr} {fd : FuncData} (F : Fun K x qual st f fd)
    (h : ∀ (kV doc pm : Value) (an : Option Addr) (cdv ct a : Value), bindArgs (PySem.W.fnOf x qual (defArgs st) (defBody st) (defScope st) .none kV doc pm an cdv ct) ⟨[], [(y, a)]⟩ = pure [(y, a)]) :
    KBinds K fd [y] [y] kgR1 kgR1 := by
  obtain ⟨oc, od, kV, doc, pm, an, cdv, ct, osl, rfl, lk, hcd⟩ := F.ex
  refine ⟨fun s us ws _ hl => ?_, fun {vs us zs ws} r rz => ?_⟩
  · match us, ws, hl with
    | [], [a], _ => exact .of_eq (h _ _ _ _ _ _ a)
    | [], [], hl => exact absurd (show (0 : Nat) = 1 from hl) (by decide)
    | [], _ :: _ :: _, hl => exact absurd (show (0 : Nat) = 1 from hl) (by decide)
    | _ :: _, _, hl => exact absurd (show (0 : Nat) = 1 from hl) (by decide)
  · cases r with
    | cons _ _ => exact .nil
    | nil =>
      cases rz with
      | nil => exact .nil
      | cons a1 a2 =>
        cases a2 with
        | nil => exact .cons a1 .nil
        | cons _ _ => exact .nil
theorem kbR2 {K : PySem.W.Frag} {x qual y z : Str} {st : Stmt} {f : Addr} {fd : FuncData} (F : Fun K x qual st f fd)
    (h : ∀ (kV doc pm : Value) (an : Option Addr) (cdv ct a b : Value), bindArgs (PySem.W.fnOf x qual (defArgs st) (defBody st) (defScope st) .none kV doc pm an cdv ct) ⟨[], [(z, a), (y, b)]⟩ = pure [(y, b), (z, a)]) :
    KBinds K fd [y, z] [z, y] kgR2 kgR2 := by
  obtain ⟨oc, od, kV, doc, pm, an, cdv, ct, osl, rfl, lk, hcd⟩ := F.ex
  refine ⟨fun s us ws _ hl => ?_, fun {vs us zs ws} r rz => ?_⟩
  · match us, ws, hl with
    | [], [a, b], _ => exact .of_eq (h _ _ _ _ _ _ a b)
    | [], [], hl => exact absurd (show (0 : Nat) = 2 from hl) (by decide)
    | [], [_], hl => exact absurd (show (0 : Nat) = 2 from hl) (by decide)
    | [], _ :: _ :: _ :: _, hl => exact absurd (show (0 : Nat) = 2 from hl) (by decide)
    | _ :: _, _, hl => exact absurd (show (0 : Nat) = 2 from hl) (by decide)
  · cases r with
    | cons _ _ => exact .nil
    | nil =>
      cases rz with
      | nil => exact .nil
      | cons a1 a2 =>
        cases a2 with
        | nil => exact .nil
        | cons b1 b2 =>
          cases b2 with
          | nil => exact .cons b1 (.cons a1 .nil)
          | cons _ _ => exact .nil
theorem kbR3 {K : PySem.W.Frag} {x qual y1 y2 y3 : Str} {st : Stmt} {f : Addr} {fd : FuncData} (F : Fun K x qual st f fd)
    (h : ∀ (kV doc pm : Value) (an : Option Addr) (cdv ct a b c : Value), bindArgs (PySem.W.fnOf x qual (defArgs st) (defBody st) (defScope st) .none kV doc pm an cdv ct) ⟨[], [(y3, a), (y2, b), (y1, c)]⟩ = pure [(y1, c), (y2, b), (y3, a)]) :
    KBinds K fd [y1, y2, y3] [y3, y2, y1] kgR3 kgR3 := by
  obtain ⟨oc, od, kV, doc, pm, an, cdv, ct, osl, rfl, lk, hcd⟩ := F.ex
  refine ⟨fun s us ws _ hl => ?_, fun {vs us zs ws} r rz => ?_⟩
  · match us, ws, hl with
    | [], [a, b, c], _ => exact .of_eq (h _ _ _ _ _ _ a b c)
    | [], [], hl => exact absurd (show (0 : Nat) = 3 from hl) (by decide)
    | [], [_], hl => exact absurd (show (0 : Nat) = 3 from hl) (by decide)
    | [], [_, _], hl => exact absurd (show (0 : Nat) = 3 from hl) (by decide)
    | [], _ :: _ :: _ :: _ :: _, hl => exact absurd (show (0 : Nat) = 3 from hl) (by decide)
    | _ :: _, _, hl => exact absurd (show (0 : Nat) = 3 from hl) (by decide)
  · cases r with
    | cons _ _ => exact .nil
    | nil =>
      cases rz with
      | nil => exact .nil
      | cons a1 a2 =>
        cases a2 with
        | nil => exact .nil
        | cons b1 b2 =>
          cases b2 with
          | nil => exact .nil
          | cons c1 c2 =>
            cases c2 with
            | nil => exact .cons c1 (.cons b1 (.cons a1 .nil))
            | cons _ _ => exact .nil
def s15 (K : PySem.W.Frag) : Addr → Sp → Prop := fun f sp => (f = He.ga K "reach" ∧ sp = spRea K (He.ga K "Curve") (He.ga K "BadCurve") (He.ga K "TooMany") 0) ∨ (f = He.ga K "passed" ∧ sp = spRea K (He.ga K "Curve") (He.ga K "BadCurve") (He.ga K "TooMany") 1) ∨ (f = He.ga K "folding" ∧ sp = spFol K (He.ga K "Curve") (He.ga K "BadCurve") (He.ga K "TooMany"))
theorem s15_ok {P : Program} {w : World} {K : PySem.W.Frag} {mg : Str → Option Value} {base : Heap} {fd1 fd2 fd3 : FuncData} {p1 p2 p3 : List Str}
    (o1 : FnOk P w K mg base (L2.CX P w) 8 (He.ga K "reach") fd1 p1 (spRea K (He.ga K "Curve") (He.ga K "BadCurve") (He.ga K "TooMany") 0)) (k1 : PySem.W.keepIn K (.ref (He.ga K "reach")) = true) (b1 : Binds K fd1 p1 [])
    (o2 : FnOk P w K mg base (L2.CX P w) 8 (He.ga K "passed") fd2 p2 (spRea K (He.ga K "Curve") (He.ga K "BadCurve") (He.ga K "TooMany") 1)) (k2 : PySem.W.keepIn K (.ref (He.ga K "passed")) = true) (b2 : Binds K fd2 p2 [])
    (o3 : FnOk P w K mg base (L2.CX P w) 8 (He.ga K "folding") fd3 p3 (spFol K (He.ga K "Curve") (He.ga K "BadCurve") (He.ga K "TooMany"))) (k3 : PySem.W.keepIn K (.ref (He.ga K "folding")) = true) (b3 : Binds K fd3 p3 []) :
    ∀ f sp, s15 K f sp → WY.HeldX P w K mg base 9 f sp := fun f sp h => by
  rcases h with ⟨rfl, rfl⟩ | ⟨rfl, rfl⟩ | ⟨rfl, rfl⟩
  · exact .of (o1.mono (by decide)) k1 b1
  · exact .of (o2.mono (by decide)) k2 b2
  · exact .of (o3.mono (by decide)) k3 b3
theorem tq_u {tb tb1 tb2 : Addr} (n1 : tb ≠ tb1) (n2 : tb ≠ tb2) (n3 : tb1 ≠ tb2) : (∀ p ∈ TQ tb tb1 tb2, p.1 = tb → p.2 = lamQ) ∧ (∀ p ∈ TQ tb tb1 tb2, p.1 = tb1 → p.2 = lamQ1) ∧ ∀ p ∈ TQ tb tb1 tb2, p.1 = tb2 → p.2 = lamQ2 := by
  unfold TQ
  refine ⟨fun p hp e => ?_, fun p hp e => ?_, fun p hp e => ?_⟩ <;> simp only [List.mem_cons, List.not_mem_nil, or_false] at hp <;> rcases hp with rfl | rfl | rfl
  · rfl
  · exact absurd e.symm n1
  · exact absurd e.symm n2
  · exact absurd e n1
  · rfl
  · exact absurd e.symm n3
  · exact absurd e n2
  · exact absurd e n3
  · rfl

def csN : List Str := ["WaitError", "BadCurve", "BadNumber", "TooMany", "Curve"]
def msN : List (Str × Str) := [("Curve", "__init__"), ("Curve", "__eq__"), ("BadCurve", "__init__"), ("BadNumber", "__init__"), ("TooMany", "__init__")]
def fsN : List Str := (["is_number", "are_numbers", "is_from", "is_list", "need_number", "is_above", "is_start", "falls_behind", "least_form", "least_step", "made", "need_curve", "has_none", "first_none", "regular_from"] : List Str) ++ (["at", "first_values", "values_behind", "value", "reach", "passed", "least_beats", "is_less", "last_beat", "inverse_form", "need_two", "common_period", "gain_in", "gaps_of", "last_above"] : List Str) ++ (["later", "raised", "folding", "folded_ends", "folded_end", "folding_roles", "unsettled", "folded_unlike", "early_sums", "late_sums", "both_sums", "least_sums", "_law_begun", "_law_mixed", "_law_take"] : List Str) ++ (["_law_pick", "_law_caught", "_law_steps", "_law_sketch", "_law_made", "_law_at", "_law_row", "_law_is_least", "_law_form", "_law_is_curve", "_law_alike", "_law_goes", "_law_short", "_law_is_due", "_law_tried"] : List Str) ++ (["_law_two", "_law_one", "_law_all_refused", "_law_places", "_law_reached", "_law_crosswise", "law"] : List Str)
def lsN : List Str := (["WaitError", "BadCurve", "BadNumber", "TooMany", "is_number", "are_numbers", "is_from", "is_list", "need_number", "MOST", "MOST_GIVEN", "MOST_MADE", "FEW", "Curve", "is_above"] : List Str) ++ (["is_start", "falls_behind", "least_form", "least_step", "made", "need_curve", "has_none", "first_none", "regular_from", "at", "first_values", "values_behind", "value", "reach", "passed"] : List Str) ++ (["least_beats", "is_less", "last_beat", "inverse_form", "need_two", "common_period", "gain_in", "gaps_of", "last_above", "later", "raised", "folding", "folded_ends", "folded_end", "folding_roles"] : List Str) ++ (["unsettled", "folded_unlike", "early_sums", "late_sums", "both_sums", "least_sums", "_law_begun", "_law_mixed", "_law_take", "_law_pick", "_law_caught", "_law_steps", "_law_sketch", "_law_made", "_law_at"] : List Str) ++ (["_law_row", "_law_is_least", "_law_form", "_law_is_curve", "_law_alike", "_law_goes", "_law_short", "_law_is_due", "_law_tried", "_law_two", "_law_one", "_law_all_refused", "_law_places", "_law_reached", "_law_crosswise"] : List Str)
def tfN : List Str := ["law", "_law_one", "_law_two"]
def faK : List He.Fa := [.glo "is_number", .glo "are_numbers", .glo "is_from", .glo "is_list", .glo "need_number", .glo "is_above", .glo "is_start", .glo "falls_behind", .glo "least_form", .glo "least_step", .glo "made", .glo "need_curve", .glo "has_none", .glo "first_none", .glo "regular_from", .glo "at", .glo "first_values", .glo "values_behind", .glo "value", .glo "reach", .glo "passed", .glo "least_beats", .glo "is_less", .glo "last_beat", .glo "inverse_form", .glo "need_two", .glo "common_period", .glo "gain_in", .glo "gaps_of", .glo "last_above", .glo "later", .glo "raised", .glo "folding", .glo "folded_ends", .glo "folded_end", .glo "folding_roles", .glo "unsettled", .glo "folded_unlike", .glo "early_sums", .glo "late_sums", .glo "both_sums", .glo "least_sums", .glo "_law_begun", .glo "_law_mixed", .glo "_law_take", .glo "_law_pick", .glo "_law_caught", .glo "_law_steps", .glo "_law_sketch", .glo "_law_made", .glo "_law_at", .glo "_law_row", .glo "_law_is_least", .glo "_law_form", .glo "_law_is_curve", .glo "_law_alike", .glo "_law_goes", .glo "_law_short", .glo "_law_is_due", .glo "_law_tried", .glo "_law_two", .glo "_law_one", .glo "_law_all_refused", .glo "_law_places", .glo "_law_reached", .glo "_law_crosswise", .glo "law", .glo "WaitError", .glo "BadCurve", .glo "BadNumber", .glo "TooMany", .glo "Curve", .free "isinstance", .free "int", .free "bool", .free "list", .free "tuple", .free "len", .free "all", .free "sorted", .free "zip", .free "min", .free "range", .free "type", .free "abs", .free "repr", .free "max", .free "enumerate", .int "MOST" 1000000000, .int "MOST_GIVEN" 400, .int "MOST_MADE" 4000, .int "FEW" 12]
def d_num : He.DefD := ⟨("is_number", none), "is_number", "is_number", defArgs sNum, defBody sNum, defScope sNum, [], []⟩
def d_are : He.DefD := ⟨("are_numbers", none), "are_numbers", "are_numbers", defArgs sAre, defBody sAre, defScope sAre, [], []⟩
def d_from : He.DefD := ⟨("is_from", none), "is_from", "is_from", defArgs sFrom, defBody sFrom, defScope sFrom, [], []⟩
def d_isl : He.DefD := ⟨("is_list", none), "is_list", "is_list", defArgs sIsList, defBody sIsList, defScope sIsList, [], []⟩
def d_nnm : He.DefD := ⟨("need_number", none), "need_number", "need_number", defArgs sNeedNum, defBody sNeedNum, defScope sNeedNum, [], []⟩
def d_ini : He.DefD := ⟨("Curve", some "__init__"), "__init__", "Curve.__init__", defArgs sInit, defBody sInit, defScope sInit, [], []⟩
def d_eqc : He.DefD := ⟨("Curve", some "__eq__"), "__eq__", "Curve.__eq__", defArgs sEq, defBody sEq, defScope sEq, [], []⟩
def d_abv : He.DefD := ⟨("is_above", none), "is_above", "is_above", defArgs sAbove, defBody sAbove, defScope sAbove, [], []⟩
def d_sta : He.DefD := ⟨("is_start", none), "is_start", "is_start", defArgs sStart, defBody sStart, defScope sStart, [], []⟩
def d_fal : He.DefD := ⟨("falls_behind", none), "falls_behind", "falls_behind", defArgs sFalls, defBody sFalls, defScope sFalls, [], []⟩
def d_frm : He.DefD := ⟨("least_form", none), "least_form", "least_form", defArgs sForm, defBody sForm, defScope sForm, [], []⟩
def d_stp : He.DefD := ⟨("least_step", none), "least_step", "least_step", defArgs sStep, defBody sStep, defScope sStep, [], []⟩
def d_made : He.DefD := ⟨("made", none), "made", "made", defArgs sMadeC, defBody sMadeC, defScope sMadeC, [], []⟩
def d_ncu : He.DefD := ⟨("need_curve", none), "need_curve", "need_curve", defArgs sNeedCur, defBody sNeedCur, defScope sNeedCur, [], []⟩
def d_has : He.DefD := ⟨("has_none", none), "has_none", "has_none", defArgs sHas, defBody sHas, defScope sHas, [], []⟩
def d_fne : He.DefD := ⟨("first_none", none), "first_none", "first_none", defArgs sFne, defBody sFne, defScope sFne, [], []⟩
def d_reg : He.DefD := ⟨("regular_from", none), "regular_from", "regular_from", defArgs sRegular, defBody sRegular, defScope sRegular, [], []⟩
def d_cat : He.DefD := ⟨("at", none), "at", "at", defArgs sCat, defBody sCat, defScope sCat, [], []⟩
def d_fst : He.DefD := ⟨("first_values", none), "first_values", "first_values", defArgs sFirst, defBody sFirst, defScope sFirst, [], []⟩
def d_beh : He.DefD := ⟨("values_behind", none), "values_behind", "values_behind", defArgs sBehind, defBody sBehind, defScope sBehind, [], []⟩
def d_val : He.DefD := ⟨("value", none), "value", "value", defArgs sValue, defBody sValue, defScope sValue, [], []⟩
def d_rea : He.DefD := ⟨("reach", none), "reach", "reach", defArgs sRea, defBody sRea, defScope sRea, [], []⟩
def d_psd : He.DefD := ⟨("passed", none), "passed", "passed", defArgs sPsd, defBody sPsd, defScope sPsd, [], []⟩
def d_lbt : He.DefD := ⟨("least_beats", none), "least_beats", "least_beats", defArgs sLbt, defBody sLbt, defScope sLbt, [], []⟩
def d_ile : He.DefD := ⟨("is_less", none), "is_less", "is_less", defArgs sIle, defBody sIle, defScope sIle, [], []⟩
def d_lbe : He.DefD := ⟨("last_beat", none), "last_beat", "last_beat", defArgs sLbe, defBody sLbe, defScope sLbe, [], []⟩
def d_inf : He.DefD := ⟨("inverse_form", none), "inverse_form", "inverse_form", defArgs sInf, defBody sInf, defScope sInf, [], []⟩
def d_two : He.DefD := ⟨("need_two", none), "need_two", "need_two", defArgs sTwo, defBody sTwo, defScope sTwo, [], []⟩
def d_per : He.DefD := ⟨("common_period", none), "common_period", "common_period", defArgs sPer, defBody sPer, defScope sPer, [], []⟩
def d_gai : He.DefD := ⟨("gain_in", none), "gain_in", "gain_in", defArgs sGai, defBody sGai, defScope sGai, [], []⟩
def d_gap : He.DefD := ⟨("gaps_of", none), "gaps_of", "gaps_of", defArgs sGap, defBody sGap, defScope sGap, [], []⟩
def d_lab : He.DefD := ⟨("last_above", none), "last_above", "last_above", defArgs sLab, defBody sLab, defScope sLab, [], []⟩
def d_ltr : He.DefD := ⟨("later", none), "later", "later", defArgs sLat, defBody sLat, defScope sLat, [], []⟩
def d_rai : He.DefD := ⟨("raised", none), "raised", "raised", defArgs sRai, defBody sRai, defScope sRai, [], []⟩
def d_fol : He.DefD := ⟨("folding", none), "folding", "folding", defArgs sFol, defBody sFol, defScope sFol, [], []⟩
def d_ens : He.DefD := ⟨("folded_ends", none), "folded_ends", "folded_ends", defArgs sEns, defBody sEns, defScope sEns, [], []⟩
def d_end : He.DefD := ⟨("folded_end", none), "folded_end", "folded_end", defArgs sEnd, defBody sEnd, defScope sEnd, [], []⟩
def d_rol : He.DefD := ⟨("folding_roles", none), "folding_roles", "folding_roles", defArgs sRol, defBody sRol, defScope sRol, [], []⟩
def d_uns : He.DefD := ⟨("unsettled", none), "unsettled", "unsettled", defArgs sUns, defBody sUns, defScope sUns, [], []⟩
def d_unl : He.DefD := ⟨("folded_unlike", none), "folded_unlike", "folded_unlike", defArgs sUnl, defBody sUnl, defScope sUnl, [], []⟩
def d_ear : He.DefD := ⟨("early_sums", none), "early_sums", "early_sums", defArgs sEar, defBody sEar, defScope sEar, [], []⟩
def d_lat : He.DefD := ⟨("late_sums", none), "late_sums", "late_sums", defArgs sLts, defBody sLts, defScope sLts, [], []⟩
def d_bot : He.DefD := ⟨("both_sums", none), "both_sums", "both_sums", defArgs sBot, defBody sBot, defScope sBot, [], []⟩
def d_ls2 : He.DefD := ⟨("least_sums", none), "least_sums", "least_sums", defArgs sLs2, defBody sLs2, defScope sLs2, [], []⟩
def d_beg : He.DefD := ⟨("_law_begun", none), "_law_begun", "_law_begun", defArgs sBegun, defBody sBegun, defScope sBegun, [], []⟩
def d_mix : He.DefD := ⟨("_law_mixed", none), "_law_mixed", "_law_mixed", defArgs sMixed, defBody sMixed, defScope sMixed, [], []⟩
def d_tak : He.DefD := ⟨("_law_take", none), "_law_take", "_law_take", defArgs sTake, defBody sTake, defScope sTake, [], []⟩
def d_pic : He.DefD := ⟨("_law_pick", none), "_law_pick", "_law_pick", defArgs sPick, defBody sPick, defScope sPick, [], []⟩
def d_cau : He.DefD := ⟨("_law_caught", none), "_law_caught", "_law_caught", defArgs sCaught, defBody sCaught, defScope sCaught, [], []⟩
def d_sts : He.DefD := ⟨("_law_steps", none), "_law_steps", "_law_steps", defArgs sSteps, defBody sSteps, defScope sSteps, [], []⟩
def d_ske : He.DefD := ⟨("_law_sketch", none), "_law_sketch", "_law_sketch", defArgs sSketch, defBody sSketch, defScope sSketch, [], []⟩
def d_mad : He.DefD := ⟨("_law_made", none), "_law_made", "_law_made", defArgs sMade, defBody sMade, defScope sMade, [], []⟩
def d_att : He.DefD := ⟨("_law_at", none), "_law_at", "_law_at", defArgs sAt, defBody sAt, defScope sAt, [], []⟩
def d_row : He.DefD := ⟨("_law_row", none), "_law_row", "_law_row", defArgs sRow, defBody sRow, defScope sRow, [], []⟩
def d_lea : He.DefD := ⟨("_law_is_least", none), "_law_is_least", "_law_is_least", defArgs sLeast, defBody sLeast, defScope sLeast, [], []⟩
def d_lfo : He.DefD := ⟨("_law_form", none), "_law_form", "_law_form", defArgs sLForm, defBody sLForm, defScope sLForm, [], []⟩
def d_isc : He.DefD := ⟨("_law_is_curve", none), "_law_is_curve", "_law_is_curve", defArgs sIsCur, defBody sIsCur, defScope sIsCur, [], []⟩
def d_ali : He.DefD := ⟨("_law_alike", none), "_law_alike", "_law_alike", defArgs sAli, defBody sAli, defScope sAli, [], []⟩
def d_goe : He.DefD := ⟨("_law_goes", none), "_law_goes", "_law_goes", defArgs sGoe, defBody sGoe, defScope sGoe, [], []⟩
def d_sho : He.DefD := ⟨("_law_short", none), "_law_short", "_law_short", defArgs sSho, defBody sSho, defScope sSho, [], []⟩
def d_isd : He.DefD := ⟨("_law_is_due", none), "_law_is_due", "_law_is_due", defArgs sIsd, defBody sIsd, defScope sIsd, [], []⟩
def d_tri : He.DefD := ⟨("_law_tried", none), "_law_tried", "_law_tried", defArgs sTri, defBody sTri, defScope sTri, [], []⟩
def d_l2 : He.DefD := ⟨("_law_two", none), "_law_two", "_law_two", defArgs sL2, defBody sL2, defScope sL2, [], []⟩
def d_l1 : He.DefD := ⟨("_law_one", none), "_law_one", "_law_one", defArgs sL1, defBody sL1, defScope sL1, [], []⟩
def d_aref : He.DefD := ⟨("_law_all_refused", none), "_law_all_refused", "_law_all_refused", defArgs sAref, defBody sAref, defScope sAref, [], []⟩
def d_pla : He.DefD := ⟨("_law_places", none), "_law_places", "_law_places", defArgs sPla, defBody sPla, defScope sPla, [], []⟩
def d_rch : He.DefD := ⟨("_law_reached", none), "_law_reached", "_law_reached", defArgs sRch, defBody sRch, defScope sRch, [], []⟩
def d_crs : He.DefD := ⟨("_law_crosswise", none), "_law_crosswise", "_law_crosswise", defArgs sCrs, defBody sCrs, defScope sCrs, [], []⟩
def d_law : He.DefD := ⟨("law", none), "law", "law", defArgs sLaw, defBody sLaw, defScope sLaw, [], []⟩
def d_EBadCurve : He.DefD := ⟨("BadCurve", some "__init__"), "__init__", "BadCurve.__init__", defArgs sE_BadCurve, defBody sE_BadCurve, defScope sE_BadCurve, [], []⟩
def d_EBadNumber : He.DefD := ⟨("BadNumber", some "__init__"), "__init__", "BadNumber.__init__", defArgs sE_BadNumber, defBody sE_BadNumber, defScope sE_BadNumber, [], []⟩
def d_ETooMany : He.DefD := ⟨("TooMany", some "__init__"), "__init__", "TooMany.__init__", defArgs sE_TooMany, defBody sE_TooMany, defScope sE_TooMany, [], []⟩
def fnK : List He.DefD := [d_num, d_are, d_from, d_isl, d_nnm, d_ini, d_eqc, d_abv, d_sta, d_fal, d_frm, d_stp, d_made, d_ncu, d_has, d_fne, d_reg, d_cat, d_fst, d_beh, d_val, d_rea, d_psd, d_lbt, d_ile, d_lbe, d_inf, d_two, d_per, d_gai, d_gap, d_lab, d_ltr, d_rai, d_fol, d_ens, d_end, d_rol, d_uns, d_unl, d_ear, d_lat, d_bot, d_ls2, d_beg, d_mix, d_tak, d_pic, d_cau, d_sts, d_ske, d_mad, d_att, d_row, d_lea, d_lfo, d_isc, d_ali, d_goe, d_sho, d_isd, d_tri, d_l2, d_l1, d_aref, d_pla, d_rch, d_crs, d_law, d_EBadCurve, d_EBadNumber, d_ETooMany]
def moreB (K : PySem.W.Frag) : Bool := curB K (He.ga K "Curve") (He.fAd K ("Curve", some "__init__")) (He.fAd K ("Curve", some "__eq__")) && (WH.errX K (He.ga K "BadCurve") (He.fAd K ("BadCurve", some "__init__")) "part" && (WH.errX K (He.ga K "BadNumber") (He.fAd K ("BadNumber", some "__init__")) "part" && (WH.errX K (He.ga K "TooMany") (He.fAd K ("TooMany", some "__init__")) "most" && (exG K (He.ga K "BadCurve") (He.ga K "WaitError") && (exG K (He.ga K "TooMany") (He.ga K "WaitError") && (kitG K (He.ga K "Curve") && (decide (PySem.W.kitOne K (.type "NoneType") (.ref (He.ga K "TooMany")) = some false) && (decide ((WH.ctOf K "law").2 ≠ (WH.ctOf K "_law_one").2) && (decide ((WH.ctOf K "law").2 ≠ (WH.ctOf K "_law_two").2) && (decide ((WH.ctOf K "_law_one").2 ≠ (WH.ctOf K "_law_two").2) && (decide (PySem.W.nsIn K mainGlobals "gcd" = some (some (.builtin "math.gcd"))) && (decide (PySem.W.nsIn K mainGlobals "lcm" = some (some (.builtin "math.lcm")))))))))))))))
abbrev R : PySem.W.OpenRow := PySem.W.OpenLaw.row PySem.Challenge.rw_worstwait_k15_whole_there_and_back
abbrev hk : PySem.W.Hook := WH.hookX csN msN fsN tfN faK fnK moreB
def ob (s : PySem.W.SharedT) : He.AlD × Bool := WH.obsX csN msN fsN tfN faK fnK moreB (HandSHeadRun.getT s)
theorem ob_eq (s : PySem.W.SharedT) : ob s = hk.obs s.abs := WH.obsX_eq (HandSHeadRun.getT_eq s)
end WK
end

section
set_option Elab.async false
set_option linter.all false
set_option maxRecDepth 100000
set_option maxHeartbeats 0
namespace WK
open PySem L2 WW WT WG WL WV WC WY
theorem run (w : World) : HandSHeadRun.RunEqI R (PySem.W.view R.prog [0, 83]) hk ob 10000 lsN w := by
  unfold HandSHeadRun.RunEqI
  kernel_rfl
end WK
end

section
set_option Elab.async false
set_option linter.all false
set_option maxRecDepth 100000
set_option maxHeartbeats 0
namespace WK
open PySem L2 WW WT WG WL WV WC WY
theorem facts {l : PySem.W.OpenLaw} {w : World} {h : Heap} {K : PySem.W.Frag} {mg : Str → Option Value} {fa : Addr} (X : K.In h) (G : h.Ns mainGlobals mg) (hfa : mg "law" = some (.ref fa)) (c : He.SaysD faK fnK K) (hB : moreB K = true) (hT : WH.TabsIn h tfN K) :
    WH.LawAt l w 14 63 "script" mg fa h := by
  obtain ⟨g_num, D_num⟩ := c.def_ 0 (d := d_num) rfl
  have F_num := WH.fun_of (st := sNum) D_num
  have b_num : Binds K g_num ["thing"] [] := F_num.binds fun _ _ _ _ _ _ us hl => match us, hl with | [_], _ => rfl
  have m_num := He.glo_ok X G (c.fact 0 (f := .glo "is_number") rfl)
  obtain ⟨g_are, D_are⟩ := c.def_ 1 (d := d_are) rfl
  have F_are := WH.fun_of (st := sAre) D_are
  have b_are : Binds K g_are ["row"] [] := F_are.binds fun _ _ _ _ _ _ us hl => match us, hl with | [_], _ => rfl
  have m_are := He.glo_ok X G (c.fact 1 (f := .glo "are_numbers") rfl)
  obtain ⟨g_from, D_from⟩ := c.def_ 2 (d := d_from) rfl
  have F_from := WH.fun_of (st := sFrom) D_from
  have b_from : Binds K g_from ["thing", "low", "high"] [] := F_from.binds fun _ _ _ _ _ _ us hl => match us, hl with | [_, _, _], _ => rfl
  have m_from := He.glo_ok X G (c.fact 2 (f := .glo "is_from") rfl)
  obtain ⟨g_isl, D_isl⟩ := c.def_ 3 (d := d_isl) rfl
  have F_isl := WH.fun_of (st := sIsList) D_isl
  have b_isl : Binds K g_isl ["thing"] [] := F_isl.binds fun _ _ _ _ _ _ us hl => match us, hl with | [_], _ => rfl
  have m_isl := He.glo_ok X G (c.fact 3 (f := .glo "is_list") rfl)
  obtain ⟨g_nnm, D_nnm⟩ := c.def_ 4 (d := d_nnm) rfl
  have F_nnm := WH.fun_of (st := sNeedNum) D_nnm
  have b_nnm : Binds K g_nnm ["thing", "low", "high", "part"] [] := F_nnm.binds fun _ _ _ _ _ _ us hl => match us, hl with | [_, _, _, _], _ => rfl
  have m_nnm := He.glo_ok X G (c.fact 4 (f := .glo "need_number") rfl)
  obtain ⟨g_ini, D_ini⟩ := c.def_ 5 (d := d_ini) rfl
  have F_ini := WH.fun_of (st := sInit) D_ini
  have b_ini : Binds K g_ini ["self", "start", "period", "growth"] [] := F_ini.binds fun _ _ _ _ _ _ us hl => match us, hl with | [_, _, _, _], _ => rfl
  obtain ⟨g_eqc, D_eqc⟩ := c.def_ 6 (d := d_eqc) rfl
  have F_eqc := WH.fun_of (st := sEq) D_eqc
  have b_eqc : Binds K g_eqc ["self", "other"] [] := F_eqc.binds fun _ _ _ _ _ _ us hl => match us, hl with | [_, _], _ => rfl
  obtain ⟨g_abv, D_abv⟩ := c.def_ 7 (d := d_abv) rfl
  have F_abv := WH.fun_of (st := sAbove) D_abv
  have b_abv : Binds K g_abv ["one", "two"] [] := F_abv.binds fun _ _ _ _ _ _ us hl => match us, hl with | [_, _], _ => rfl
  have m_abv := He.glo_ok X G (c.fact 5 (f := .glo "is_above") rfl)
  obtain ⟨g_sta, D_sta⟩ := c.def_ 8 (d := d_sta) rfl
  have F_sta := WH.fun_of (st := sStart) D_sta
  have b_sta : Binds K g_sta ["thing"] [] := F_sta.binds fun _ _ _ _ _ _ us hl => match us, hl with | [_], _ => rfl
  have m_sta := He.glo_ok X G (c.fact 6 (f := .glo "is_start") rfl)
  obtain ⟨g_fal, D_fal⟩ := c.def_ 9 (d := d_fal) rfl
  have F_fal := WH.fun_of (st := sFalls) D_fal
  have b_fal : Binds K g_fal ["start", "period", "growth"] [] := F_fal.binds fun _ _ _ _ _ _ us hl => match us, hl with | [_, _, _], _ => rfl
  have m_fal := He.glo_ok X G (c.fact 7 (f := .glo "falls_behind") rfl)
  obtain ⟨g_frm, D_frm⟩ := c.def_ 10 (d := d_frm) rfl
  have F_frm := WH.fun_of (st := sForm) D_frm
  have b_frm : Binds K g_frm ["row", "period", "growth"] [] := F_frm.binds fun _ _ _ _ _ _ us hl => match us, hl with | [_, _, _], _ => rfl
  have m_frm := He.glo_ok X G (c.fact 8 (f := .glo "least_form") rfl)
  obtain ⟨g_stp, D_stp⟩ := c.def_ 11 (d := d_stp) rfl
  have F_stp := WH.fun_of (st := sStep) D_stp
  have b_stp : Binds K g_stp ["row", "period", "growth"] [] := F_stp.binds fun _ _ _ _ _ _ us hl => match us, hl with | [_, _, _], _ => rfl
  have m_stp := He.glo_ok X G (c.fact 9 (f := .glo "least_step") rfl)
  obtain ⟨g_made, D_made⟩ := c.def_ 12 (d := d_made) rfl
  have F_made := WH.fun_of (st := sMadeC) D_made
  have b_made : Binds K g_made ["row", "period", "growth"] [] := F_made.binds fun _ _ _ _ _ _ us hl => match us, hl with | [_, _, _], _ => rfl
  have m_made := He.glo_ok X G (c.fact 10 (f := .glo "made") rfl)
  obtain ⟨g_ncu, D_ncu⟩ := c.def_ 13 (d := d_ncu) rfl
  have F_ncu := WH.fun_of (st := sNeedCur) D_ncu
  have b_ncu : Binds K g_ncu ["thing"] [] := F_ncu.binds fun _ _ _ _ _ _ us hl => match us, hl with | [_], _ => rfl
  have m_ncu := He.glo_ok X G (c.fact 11 (f := .glo "need_curve") rfl)
  obtain ⟨g_has, D_has⟩ := c.def_ 14 (d := d_has) rfl
  have F_has := WH.fun_of (st := sHas) D_has
  have b_has : Binds K g_has ["curve"] [] := F_has.binds fun _ _ _ _ _ _ us hl => match us, hl with | [_], _ => rfl
  have m_has := He.glo_ok X G (c.fact 12 (f := .glo "has_none") rfl)
  obtain ⟨g_fne, D_fne⟩ := c.def_ 15 (d := d_fne) rfl
  have F_fne := WH.fun_of (st := sFne) D_fne
  have b_fne : Binds K g_fne ["curve"] [] := F_fne.binds fun _ _ _ _ _ _ us hl => match us, hl with | [_], _ => rfl
  have m_fne := He.glo_ok X G (c.fact 13 (f := .glo "first_none") rfl)
  obtain ⟨g_reg, D_reg⟩ := c.def_ 16 (d := d_reg) rfl
  have F_reg := WH.fun_of (st := sRegular) D_reg
  have b_reg : Binds K g_reg ["curve"] [] := F_reg.binds fun _ _ _ _ _ _ us hl => match us, hl with | [_], _ => rfl
  have m_reg := He.glo_ok X G (c.fact 14 (f := .glo "regular_from") rfl)
  obtain ⟨g_cat, D_cat⟩ := c.def_ 17 (d := d_cat) rfl
  have F_cat := WH.fun_of (st := sCat) D_cat
  have b_cat : Binds K g_cat ["curve", "beat"] [] := F_cat.binds fun _ _ _ _ _ _ us hl => match us, hl with | [_, _], _ => rfl
  have m_cat := He.glo_ok X G (c.fact 15 (f := .glo "at") rfl)
  obtain ⟨g_fst, D_fst⟩ := c.def_ 18 (d := d_fst) rfl
  have F_fst := WH.fun_of (st := sFirst) D_fst
  have b_fst : Binds K g_fst ["curve", "many"] [] := F_fst.binds fun _ _ _ _ _ _ us hl => match us, hl with | [_, _], _ => rfl
  have m_fst := He.glo_ok X G (c.fact 16 (f := .glo "first_values") rfl)
  obtain ⟨g_beh, D_beh⟩ := c.def_ 19 (d := d_beh) rfl
  have F_beh := WH.fun_of (st := sBehind) D_beh
  have b_beh : Binds K g_beh ["curve", "many"] [] := F_beh.binds fun _ _ _ _ _ _ us hl => match us, hl with | [_, _], _ => rfl
  have m_beh := He.glo_ok X G (c.fact 17 (f := .glo "values_behind") rfl)
  obtain ⟨g_val, D_val⟩ := c.def_ 20 (d := d_val) rfl
  have F_val := WH.fun_of (st := sValue) D_val
  have b_val : Binds K g_val ["curve", "beat"] [] := F_val.binds fun _ _ _ _ _ _ us hl => match us, hl with | [_, _], _ => rfl
  have m_val := He.glo_ok X G (c.fact 18 (f := .glo "value") rfl)
  obtain ⟨g_rea, D_rea⟩ := c.def_ 21 (d := d_rea) rfl
  have F_rea := WH.fun_of (st := sRea) D_rea
  have b_rea : Binds K g_rea ["curve"] [] := F_rea.binds fun _ _ _ _ _ _ us hl => match us, hl with | [_], _ => rfl
  have m_rea := He.glo_ok X G (c.fact 19 (f := .glo "reach") rfl)
  obtain ⟨g_psd, D_psd⟩ := c.def_ 22 (d := d_psd) rfl
  have F_psd := WH.fun_of (st := sPsd) D_psd
  have b_psd : Binds K g_psd ["curve"] [] := F_psd.binds fun _ _ _ _ _ _ us hl => match us, hl with | [_], _ => rfl
  have m_psd := He.glo_ok X G (c.fact 20 (f := .glo "passed") rfl)
  obtain ⟨g_lbt, D_lbt⟩ := c.def_ 23 (d := d_lbt) rfl
  have F_lbt := WH.fun_of (st := sLbt) D_lbt
  have b_lbt : Binds K g_lbt ["curve", "more"] [] := F_lbt.binds fun _ _ _ _ _ _ us hl => match us, hl with | [_, _], _ => rfl
  have m_lbt := He.glo_ok X G (c.fact 21 (f := .glo "least_beats") rfl)
  obtain ⟨g_ile, D_ile⟩ := c.def_ 24 (d := d_ile) rfl
  have F_ile := WH.fun_of (st := sIle) D_ile
  have b_ile : Binds K g_ile ["one", "number"] [] := F_ile.binds fun _ _ _ _ _ _ us hl => match us, hl with | [_, _], _ => rfl
  have m_ile := He.glo_ok X G (c.fact 22 (f := .glo "is_less") rfl)
  obtain ⟨g_lbe, D_lbe⟩ := c.def_ 25 (d := d_lbe) rfl
  have F_lbe := WH.fun_of (st := sLbe) D_lbe
  have b_lbe : Binds K g_lbe ["curve"] [] := F_lbe.binds fun _ _ _ _ _ _ us hl => match us, hl with | [_], _ => rfl
  have m_lbe := He.glo_ok X G (c.fact 23 (f := .glo "last_beat") rfl)
  obtain ⟨g_inf, D_inf⟩ := c.def_ 26 (d := d_inf) rfl
  have F_inf := WH.fun_of (st := sInf) D_inf
  have b_inf : Binds K g_inf ["curve", "more"] [] := F_inf.binds fun _ _ _ _ _ _ us hl => match us, hl with | [_, _], _ => rfl
  have m_inf := He.glo_ok X G (c.fact 24 (f := .glo "inverse_form") rfl)
  obtain ⟨g_two, D_two⟩ := c.def_ 27 (d := d_two) rfl
  have F_two := WH.fun_of (st := sTwo) D_two
  have b_two : Binds K g_two ["curve", "other"] [] := F_two.binds fun _ _ _ _ _ _ us hl => match us, hl with | [_, _], _ => rfl
  have m_two := He.glo_ok X G (c.fact 25 (f := .glo "need_two") rfl)
  obtain ⟨g_per, D_per⟩ := c.def_ 28 (d := d_per) rfl
  have F_per := WH.fun_of (st := sPer) D_per
  have b_per : Binds K g_per ["curve", "other"] [] := F_per.binds fun _ _ _ _ _ _ us hl => match us, hl with | [_, _], _ => rfl
  have m_per := He.glo_ok X G (c.fact 26 (f := .glo "common_period") rfl)
  obtain ⟨g_gai, D_gai⟩ := c.def_ 29 (d := d_gai) rfl
  have F_gai := WH.fun_of (st := sGai) D_gai
  have b_gai : Binds K g_gai ["curve", "other", "step"] [] := F_gai.binds fun _ _ _ _ _ _ us hl => match us, hl with | [_, _, _], _ => rfl
  have m_gai := He.glo_ok X G (c.fact 27 (f := .glo "gain_in") rfl)
  obtain ⟨g_gap, D_gap⟩ := c.def_ 30 (d := d_gap) rfl
  have F_gap := WH.fun_of (st := sGap) D_gap
  have b_gap : Binds K g_gap ["row", "other_row"] [] := F_gap.binds fun _ _ _ _ _ _ us hl => match us, hl with | [_, _], _ => rfl
  have m_gap := He.glo_ok X G (c.fact 28 (f := .glo "gaps_of") rfl)
  obtain ⟨g_lab, D_lab⟩ := c.def_ 31 (d := d_lab) rfl
  have F_lab := WH.fun_of (st := sLab) D_lab
  have b_lab : Binds K g_lab ["row", "other_row", "begin", "gain"] [] := F_lab.binds fun _ _ _ _ _ _ us hl => match us, hl with | [_, _, _, _], _ => rfl
  have m_lab := He.glo_ok X G (c.fact 29 (f := .glo "last_above") rfl)
  obtain ⟨g_ltr, D_ltr⟩ := c.def_ 32 (d := d_ltr) rfl
  have F_ltr := WH.fun_of (st := sLat) D_ltr
  have b_ltr : Binds K g_ltr ["curve", "beats"] [] := F_ltr.binds fun _ _ _ _ _ _ us hl => match us, hl with | [_, _], _ => rfl
  have m_ltr := He.glo_ok X G (c.fact 30 (f := .glo "later") rfl)
  obtain ⟨g_rai, D_rai⟩ := c.def_ 33 (d := d_rai) rfl
  have F_rai := WH.fun_of (st := sRai) D_rai
  have b_rai : Binds K g_rai ["curve", "number"] [] := F_rai.binds fun _ _ _ _ _ _ us hl => match us, hl with | [_, _], _ => rfl
  have m_rai := He.glo_ok X G (c.fact 31 (f := .glo "raised") rfl)
  obtain ⟨g_fol, D_fol⟩ := c.def_ 34 (d := d_fol) rfl
  have F_fol := WH.fun_of (st := sFol) D_fol
  have b_fol : Binds K g_fol ["curve", "other"] [] := F_fol.binds fun _ _ _ _ _ _ us hl => match us, hl with | [_, _], _ => rfl
  have m_fol := He.glo_ok X G (c.fact 32 (f := .glo "folding") rfl)
  obtain ⟨g_ens, D_ens⟩ := c.def_ 35 (d := d_ens) rfl
  have F_ens := WH.fun_of (st := sEns) D_ens
  have b_ens : Binds K g_ens ["curve", "other"] [] := F_ens.binds fun _ _ _ _ _ _ us hl => match us, hl with | [_, _], _ => rfl
  have m_ens := He.glo_ok X G (c.fact 33 (f := .glo "folded_ends") rfl)
  obtain ⟨g_end, D_end⟩ := c.def_ 36 (d := d_end) rfl
  have F_end := WH.fun_of (st := sEnd) D_end
  have b_end : Binds K g_end ["ending", "going"] [] := F_end.binds fun _ _ _ _ _ _ us hl => match us, hl with | [_, _], _ => rfl
  have m_end := He.glo_ok X G (c.fact 34 (f := .glo "folded_end") rfl)
  obtain ⟨g_rol, D_rol⟩ := c.def_ 37 (d := d_rol) rfl
  have F_rol := WH.fun_of (st := sRol) D_rol
  have b_rol : Binds K g_rol ["curve", "other"] [] := F_rol.binds fun _ _ _ _ _ _ us hl => match us, hl with | [_, _], _ => rfl
  have m_rol := He.glo_ok X G (c.fact 35 (f := .glo "folding_roles") rfl)
  obtain ⟨g_uns, D_uns⟩ := c.def_ 38 (d := d_uns) rfl
  have F_uns := WH.fun_of (st := sUns) D_uns
  have b_uns : Binds K g_uns ["slow", "fast", "step"] [] := F_uns.binds fun _ _ _ _ _ _ us hl => match us, hl with | [_, _, _], _ => rfl
  have m_uns := He.glo_ok X G (c.fact 36 (f := .glo "unsettled") rfl)
  obtain ⟨g_unl, D_unl⟩ := c.def_ 39 (d := d_unl) rfl
  have F_unl := WH.fun_of (st := sUnl) D_unl
  have b_unl : Binds K g_unl ["slow", "fast", "step"] [] := F_unl.binds fun _ _ _ _ _ _ us hl => match us, hl with | [_, _, _], _ => rfl
  have m_unl := He.glo_ok X G (c.fact 37 (f := .glo "folded_unlike") rfl)
  obtain ⟨g_ear, D_ear⟩ := c.def_ 40 (d := d_ear) rfl
  have F_ear := WH.fun_of (st := sEar) D_ear
  have b_ear : Binds K g_ear ["slow", "fast", "many"] [] := F_ear.binds fun _ _ _ _ _ _ us hl => match us, hl with | [_, _, _], _ => rfl
  have m_ear := He.glo_ok X G (c.fact 38 (f := .glo "early_sums") rfl)
  obtain ⟨g_lat, D_lat⟩ := c.def_ 41 (d := d_lat) rfl
  have F_lat := WH.fun_of (st := sLts) D_lat
  have b_lat : Binds K g_lat ["slow", "fast", "many"] [] := F_lat.binds fun _ _ _ _ _ _ us hl => match us, hl with | [_, _, _], _ => rfl
  have m_lat := He.glo_ok X G (c.fact 39 (f := .glo "late_sums") rfl)
  obtain ⟨g_bot, D_bot⟩ := c.def_ 42 (d := d_bot) rfl
  have F_bot := WH.fun_of (st := sBot) D_bot
  have b_bot : Binds K g_bot ["early", "late_ones"] [] := F_bot.binds fun _ _ _ _ _ _ us hl => match us, hl with | [_, _], _ => rfl
  have m_bot := He.glo_ok X G (c.fact 40 (f := .glo "both_sums") rfl)
  obtain ⟨g_ls2, D_ls2⟩ := c.def_ 43 (d := d_ls2) rfl
  have F_ls2 := WH.fun_of (st := sLs2) D_ls2
  have b_ls2 : Binds K g_ls2 ["row", "other_row", "many"] [] := F_ls2.binds fun _ _ _ _ _ _ us hl => match us, hl with | [_, _, _], _ => rfl
  have m_ls2 := He.glo_ok X G (c.fact 41 (f := .glo "least_sums") rfl)
  obtain ⟨g_beg, D_beg⟩ := c.def_ 44 (d := d_beg) rfl
  have F_beg := WH.fun_of (st := sBegun) D_beg
  have b_beg : Binds K g_beg ["script"] [] := F_beg.binds fun _ _ _ _ _ _ us hl => match us, hl with | [_], _ => rfl
  have m_beg := He.glo_ok X G (c.fact 42 (f := .glo "_law_begun") rfl)
  obtain ⟨g_mix, D_mix⟩ := c.def_ 45 (d := d_mix) rfl
  have F_mix := WH.fun_of (st := sMixed) D_mix
  have b_mix : Binds K g_mix ["draw"] [] := F_mix.binds fun _ _ _ _ _ _ us hl => match us, hl with | [_], _ => rfl
  have m_mix := He.glo_ok X G (c.fact 43 (f := .glo "_law_mixed") rfl)
  obtain ⟨g_tak, D_tak⟩ := c.def_ 46 (d := d_tak) rfl
  have F_tak := WH.fun_of (st := sTake) D_tak
  have b_tak : Binds K g_tak ["draw", "amount"] [] := F_tak.binds fun _ _ _ _ _ _ us hl => match us, hl with | [_, _], _ => rfl
  have m_tak := He.glo_ok X G (c.fact 44 (f := .glo "_law_take") rfl)
  obtain ⟨g_pic, D_pic⟩ := c.def_ 47 (d := d_pic) rfl
  have F_pic := WH.fun_of (st := sPick) D_pic
  have b_pic : Binds K g_pic ["draw", "some"] [] := F_pic.binds fun _ _ _ _ _ _ us hl => match us, hl with | [_, _], _ => rfl
  have m_pic := He.glo_ok X G (c.fact 45 (f := .glo "_law_pick") rfl)
  obtain ⟨g_cau, D_cau⟩ := c.def_ 48 (d := d_cau) rfl
  have F_cau := WH.fun_of (st := sCaught) D_cau
  have b_cau : Binds K g_cau ["work"] [] := F_cau.binds fun _ _ _ _ _ _ us hl => match us, hl with | [_], _ => rfl
  have m_cau := He.glo_ok X G (c.fact 46 (f := .glo "_law_caught") rfl)
  obtain ⟨g_sts, D_sts⟩ := c.def_ 49 (d := d_sts) rfl
  have F_sts := WH.fun_of (st := sSteps) D_sts
  have b_sts : Binds K g_sts ["draw", "size", "most"] [] := F_sts.binds fun _ _ _ _ _ _ us hl => match us, hl with | [_, _, _], _ => rfl
  have m_sts := He.glo_ok X G (c.fact 47 (f := .glo "_law_steps") rfl)
  obtain ⟨g_ske, D_ske⟩ := c.def_ 50 (d := d_ske) rfl
  have F_ske := WH.fun_of (st := sSketch) D_ske
  have b_ske : Binds K g_ske ["draw", "long", "most"] [] := F_ske.binds fun _ _ _ _ _ _ us hl => match us, hl with | [_, _, _], _ => rfl
  have m_ske := He.glo_ok X G (c.fact 48 (f := .glo "_law_sketch") rfl)
  obtain ⟨g_mad, D_mad⟩ := c.def_ 51 (d := d_mad) rfl
  have F_mad := WH.fun_of (st := sMade) D_mad
  have b_mad : Binds K g_mad ["sketch"] [] := F_mad.binds fun _ _ _ _ _ _ us hl => match us, hl with | [_], _ => rfl
  have m_mad := He.glo_ok X G (c.fact 49 (f := .glo "_law_made") rfl)
  obtain ⟨g_att, D_att⟩ := c.def_ 52 (d := d_att) rfl
  have F_att := WH.fun_of (st := sAt) D_att
  have b_att : Binds K g_att ["sketch", "beat"] [] := F_att.binds fun _ _ _ _ _ _ us hl => match us, hl with | [_, _], _ => rfl
  have m_att := He.glo_ok X G (c.fact 50 (f := .glo "_law_at") rfl)
  obtain ⟨g_row, D_row⟩ := c.def_ 53 (d := d_row) rfl
  have F_row := WH.fun_of (st := sRow) D_row
  have b_row : Binds K g_row ["sketch", "beats"] [] := F_row.binds fun _ _ _ _ _ _ us hl => match us, hl with | [_, _], _ => rfl
  have m_row := He.glo_ok X G (c.fact 51 (f := .glo "_law_row") rfl)
  obtain ⟨g_lea, D_lea⟩ := c.def_ 54 (d := d_lea) rfl
  have F_lea := WH.fun_of (st := sLeast) D_lea
  have b_lea : Binds K g_lea ["one", "other"] [] := F_lea.binds fun _ _ _ _ _ _ us hl => match us, hl with | [_, _], _ => rfl
  have m_lea := He.glo_ok X G (c.fact 52 (f := .glo "_law_is_least") rfl)
  obtain ⟨g_lfo, D_lfo⟩ := c.def_ 55 (d := d_lfo) rfl
  have F_lfo := WH.fun_of (st := sLForm) D_lfo
  have b_lfo : Binds K g_lfo ["row", "period_here", "growth_here"] [] := F_lfo.binds fun _ _ _ _ _ _ us hl => match us, hl with | [_, _, _], _ => rfl
  have m_lfo := He.glo_ok X G (c.fact 53 (f := .glo "_law_form") rfl)
  obtain ⟨g_isc, D_isc⟩ := c.def_ 56 (d := d_isc) rfl
  have F_isc := WH.fun_of (st := sIsCur) D_isc
  have b_isc : Binds K g_isc ["thing", "row", "period_here", "growth_here"] [] := F_isc.binds fun _ _ _ _ _ _ us hl => match us, hl with | [_, _, _, _], _ => rfl
  have m_isc := He.glo_ok X G (c.fact 54 (f := .glo "_law_is_curve") rfl)
  obtain ⟨g_ali, D_ali⟩ := c.def_ 57 (d := d_ali) rfl
  have F_ali := WH.fun_of (st := sAli) D_ali
  have b_ali : Binds K g_ali ["found", "due"] [] := F_ali.binds fun _ _ _ _ _ _ us hl => match us, hl with | [_, _], _ => rfl
  have m_ali := He.glo_ok X G (c.fact 55 (f := .glo "_law_alike") rfl)
  obtain ⟨g_goe, D_goe⟩ := c.def_ 58 (d := d_goe) rfl
  have F_goe := WH.fun_of (st := sGoe) D_goe
  have b_goe : Binds K g_goe ["sketch"] [] := F_goe.binds fun _ _ _ _ _ _ us hl => match us, hl with | [_], _ => rfl
  have m_goe := He.glo_ok X G (c.fact 56 (f := .glo "_law_goes") rfl)
  obtain ⟨g_sho, D_sho⟩ := c.def_ 59 (d := d_sho) rfl
  have F_sho := WH.fun_of (st := sSho) D_sho
  have b_sho : Binds K g_sho ["found"] [] := F_sho.binds fun _ _ _ _ _ _ us hl => match us, hl with | [_], _ => rfl
  have m_sho := He.glo_ok X G (c.fact 57 (f := .glo "_law_short") rfl)
  obtain ⟨g_isd, D_isd⟩ := c.def_ 60 (d := d_isd) rfl
  have F_isd := WH.fun_of (st := sIsd) D_isd
  have b_isd : Binds K g_isd ["work", "due"] [] := F_isd.binds fun _ _ _ _ _ _ us hl => match us, hl with | [_, _], _ => rfl
  have m_isd := He.glo_ok X G (c.fact 58 (f := .glo "_law_is_due") rfl)
  obtain ⟨g_tri, D_tri⟩ := c.def_ 61 (d := d_tri) rfl
  have F_tri := WH.fun_of (st := sTri) D_tri
  have b_tri : Binds K g_tri ["work"] [] := F_tri.binds fun _ _ _ _ _ _ us hl => match us, hl with | [_], _ => rfl
  have m_tri := He.glo_ok X G (c.fact 59 (f := .glo "_law_tried") rfl)
  obtain ⟨g_l2, D_l2⟩ := c.def_ 62 (d := d_l2) rfl
  have F_l2 := WH.fun_of (st := sL2) D_l2
  have b_l2 : Binds K g_l2 ["ask", "one", "other"] [] := F_l2.binds fun _ _ _ _ _ _ us hl => match us, hl with | [_, _, _], _ => rfl
  have m_l2 := He.glo_ok X G (c.fact 60 (f := .glo "_law_two") rfl)
  obtain ⟨g_l1, D_l1⟩ := c.def_ 63 (d := d_l1) rfl
  have F_l1 := WH.fun_of (st := sL1) D_l1
  have b_l1 : Binds K g_l1 ["ask", "thing"] [] := F_l1.binds fun _ _ _ _ _ _ us hl => match us, hl with | [_, _], _ => rfl
  have m_l1 := He.glo_ok X G (c.fact 61 (f := .glo "_law_one") rfl)
  obtain ⟨g_aref, D_aref⟩ := c.def_ 64 (d := d_aref) rfl
  have F_aref := WH.fun_of (st := sAref) D_aref
  have b_aref : Binds K g_aref ["asks"] [] := F_aref.binds fun _ _ _ _ _ _ us hl => match us, hl with | [_], _ => rfl
  have m_aref := He.glo_ok X G (c.fact 62 (f := .glo "_law_all_refused") rfl)
  obtain ⟨g_pla, D_pla⟩ := c.def_ 65 (d := d_pla) rfl
  have F_pla := WH.fun_of (st := sPla) D_pla
  have b_pla : Binds K g_pla ["row", "first", "size", "last"] [] := F_pla.binds fun _ _ _ _ _ _ us hl => match us, hl with | [_, _, _, _], _ => rfl
  have m_pla := He.glo_ok X G (c.fact 63 (f := .glo "_law_places") rfl)
  obtain ⟨g_rch, D_rch⟩ := c.def_ 66 (d := d_rch) rfl
  have F_rch := WH.fun_of (st := sRch) D_rch
  have b_rch : Binds K g_rch ["sketch", "first"] [] := F_rch.binds fun _ _ _ _ _ _ us hl => match us, hl with | [_, _], _ => rfl
  have m_rch := He.glo_ok X G (c.fact 64 (f := .glo "_law_reached") rfl)
  obtain ⟨g_crs, D_crs⟩ := c.def_ 67 (d := d_crs) rfl
  have F_crs := WH.fun_of (st := sCrs) D_crs
  have b_crs : Binds K g_crs ["draw", "one", "other", "told"] [] := F_crs.binds fun _ _ _ _ _ _ us hl => match us, hl with | [_, _, _, _], _ => rfl
  have m_crs := He.glo_ok X G (c.fact 65 (f := .glo "_law_crosswise") rfl)
  obtain ⟨g_law, D_law⟩ := c.def_ 68 (d := d_law) rfl
  have F_law := WH.fun_of (st := sLaw) D_law
  have b_law : Binds K g_law ["script"] [] := F_law.binds fun _ _ _ _ _ _ us hl => match us, hl with | [_], _ => rfl
  have m_law := He.glo_ok X G (c.fact 66 (f := .glo "law") rfl)
  obtain ⟨g_EBadCurve, D_EBadCurve⟩ := c.def_ 69 (d := d_EBadCurve) rfl
  have F_EBadCurve := WH.fun_of (st := sE_BadCurve) D_EBadCurve
  have b_EBadCurve : Binds K g_EBadCurve ["self", "part"] [] := F_EBadCurve.binds fun _ _ _ _ _ _ us hl => match us, hl with | [_, _], _ => rfl
  obtain ⟨g_EBadNumber, D_EBadNumber⟩ := c.def_ 70 (d := d_EBadNumber) rfl
  have F_EBadNumber := WH.fun_of (st := sE_BadNumber) D_EBadNumber
  have b_EBadNumber : Binds K g_EBadNumber ["self", "part"] [] := F_EBadNumber.binds fun _ _ _ _ _ _ us hl => match us, hl with | [_, _], _ => rfl
  obtain ⟨g_ETooMany, D_ETooMany⟩ := c.def_ 71 (d := d_ETooMany) rfl
  have F_ETooMany := WH.fun_of (st := sE_TooMany) D_ETooMany
  have b_ETooMany : Binds K g_ETooMany ["self", "most"] [] := F_ETooMany.binds fun _ _ _ _ _ _ us hl => match us, hl with | [_, _], _ => rfl
  have m_WaitError := He.glo_ok X G (c.fact 67 (f := .glo "WaitError") rfl)
  have m_BadCurve := He.glo_ok X G (c.fact 68 (f := .glo "BadCurve") rfl)
  have m_BadNumber := He.glo_ok X G (c.fact 69 (f := .glo "BadNumber") rfl)
  have m_TooMany := He.glo_ok X G (c.fact 70 (f := .glo "TooMany") rfl)
  have m_Curve := He.glo_ok X G (c.fact 71 (f := .glo "Curve") rfl)
  have n_isinstance := He.free_ok X G (c.fact 72 (f := .free "isinstance") rfl)
  have n_int := He.free_ok X G (c.fact 73 (f := .free "int") rfl)
  have n_bool := He.free_ok X G (c.fact 74 (f := .free "bool") rfl)
  have n_list := He.free_ok X G (c.fact 75 (f := .free "list") rfl)
  have n_tuple := He.free_ok X G (c.fact 76 (f := .free "tuple") rfl)
  have n_len := He.free_ok X G (c.fact 77 (f := .free "len") rfl)
  have n_all := He.free_ok X G (c.fact 78 (f := .free "all") rfl)
  have n_sorted := He.free_ok X G (c.fact 79 (f := .free "sorted") rfl)
  have n_zip := He.free_ok X G (c.fact 80 (f := .free "zip") rfl)
  have n_min := He.free_ok X G (c.fact 81 (f := .free "min") rfl)
  have n_range := He.free_ok X G (c.fact 82 (f := .free "range") rfl)
  have n_type := He.free_ok X G (c.fact 83 (f := .free "type") rfl)
  have n_abs := He.free_ok X G (c.fact 84 (f := .free "abs") rfl)
  have n_repr := He.free_ok X G (c.fact 85 (f := .free "repr") rfl)
  have n_max := He.free_ok X G (c.fact 86 (f := .free "max") rfl)
  have n_enumerate := He.free_ok X G (c.fact 87 (f := .free "enumerate") rfl)
  have t_MOST := He.int_ok X G (c.fact 88 (f := .int "MOST" 1000000000) rfl)
  have t_MOST_GIVEN := He.int_ok X G (c.fact 89 (f := .int "MOST_GIVEN" 400) rfl)
  have t_MOST_MADE := He.int_ok X G (c.fact 90 (f := .int "MOST_MADE" 4000) rfl)
  have t_FEW := He.int_ok X G (c.fact 91 (f := .int "FEW" 12) rfl)
  have e := hfa.symm.trans m_law
  cases e
  have hB0 := Bool.and_eq_true_iff.mp hB
  have hB1 := Bool.and_eq_true_iff.mp hB0.2
  have hB2 := Bool.and_eq_true_iff.mp hB1.2
  have hB3 := Bool.and_eq_true_iff.mp hB2.2
  have hB4 := Bool.and_eq_true_iff.mp hB3.2
  have hB5 := Bool.and_eq_true_iff.mp hB4.2
  have hB6 := Bool.and_eq_true_iff.mp hB5.2
  have hB7 := Bool.and_eq_true_iff.mp hB6.2
  have hB8 := Bool.and_eq_true_iff.mp hB7.2
  have hB9 := Bool.and_eq_true_iff.mp hB8.2
  have hB10 := Bool.and_eq_true_iff.mp hB9.2
  have hB11 := Bool.and_eq_true_iff.mp hB10.2
  have U := curB_ok hB0.1 m_Curve
  have z_BadCurve := hB1.1
  have z_BadNumber := hB2.1
  have z_TooMany := hB3.1
  have z_EB := hB4.1
  have z_EM := hB5.1
  have z_K := hB6.1
  have z_nT := hB7.1
  have z_n1 := hB8.1
  have z_n2 := hB9.1
  have z_n3 := hB10.1
  have z_i_gcd := hB11.1
  have z_i_lcm := hB11.2
  have i_gcd : mg "gcd" = some (.builtin "math.gcd") := PySem.W.mg_of X G (of_decide_eq_true z_i_gcd)
  have i_lcm : mg "lcm" = some (.builtin "math.lcm") := PySem.W.mg_of X G (of_decide_eq_true z_i_lcm)
  have hTf : ∀ p ∈ tfN.map (WH.ctOf K), h.get? p.2 = some WH.tab0 ∧ K.lookup p.2 = none ∧ PySem.W.CodeHd h p.1 p.2 := by
    intro p hp
    obtain ⟨x, hx, rfl⟩ := List.mem_map.mp hp
    exact ⟨hT.emp x hx, hT.out x hx, PySem.W.codeHd_of_K X (hT.hd x hx)⟩
  refine ⟨K, g_law, tfN.map (WH.ctOf K), spLaw K (tfN.map (WH.ctOf K)), X, fun p hp => (hTf p hp).1, fun p hp => (hTf p hp).2.1, fun p hp => (hTf p hp).2.2,
    fun s v => (FunD.bindsA (ps := ["script"]) D_law fun _ _ _ _ _ _ us hl => match us, hl with | [_], _ => rfl) s [v] rfl, fun H a ns hl hH hS => ⟨a, ns, rfl, hS, hl, hH, fun _ => rfl⟩, fun base _ _ TB => ?_⟩
  have T_BadCurve : WT.ErrT l.prog w K mg base "BadCurve" "part" _ _ _ := WH.errX_ok z_BadCurve m_BadCurve (okE_BadCurve F_EBadCurve) b_EBadCurve
  have T_BadNumber : WT.ErrT l.prog w K mg base "BadNumber" "part" _ _ _ := WH.errX_ok z_BadNumber m_BadNumber (okE_BadNumber F_EBadNumber) b_EBadNumber
  have T_TooMany : WT.ErrT l.prog w K mg base "TooMany" "most" _ _ _ := WH.errX_ok z_TooMany m_TooMany (okE_TooMany F_ETooMany) b_ETooMany
  have T : CurG mg := ⟨n_isinstance, n_int, n_bool, n_list, n_tuple, n_len, n_all, n_sorted, n_zip, n_min, n_range, n_type, t_MOST, t_MOST_GIVEN, i_gcd⟩
  have PG : PreG mg := ⟨n_abs, n_int, n_len⟩
  have EB := exG_ok z_EB T_BadCurve
  have EM := exG_ok z_EM T_TooMany
  obtain ⟨k1, k2, k3⟩ := kitG_ok z_K
  have nT : PySem.W.kitOne K (.type "NoneType") (.ref (He.ga K "TooMany")) = some false := of_decide_eq_true z_nT
  have uT := tq_u (of_decide_eq_true z_n1) (of_decide_eq_true z_n2) (of_decide_eq_true z_n3)
  have mem : WH.ctOf K "law" ∈ tfN.map (WH.ctOf K) := List.mem_cons_self ..
  have mem1 : WH.ctOf K "_law_one" ∈ tfN.map (WH.ctOf K) := List.mem_cons_of_mem _ (List.mem_cons_self ..)
  have mem2 : WH.ctOf K "_law_two" ∈ tfN.map (WH.ctOf K) := List.mem_cons_of_mem _ (List.mem_cons_of_mem _ (List.mem_cons_self ..))
  have o_num := ok_num (P := l.prog) (w := w) (base := base) F_num T
  have c_num : WC.Cal l.prog w K mg base _ _ _ _ _ := ⟨⟨_, _, o_num, F_num.kp, b_num, m_num⟩⟩
  have o_are := ok_are F_are T o_num F_num.kp b_num m_num
  have c_are : WC.Cal l.prog w K mg base _ _ _ _ _ := ⟨⟨_, _, o_are, F_are.kp, b_are, m_are⟩⟩
  have o_from := ok_from F_from o_num F_num.kp b_num m_num
  have c_from : WC.Cal l.prog w K mg base _ _ _ _ _ := ⟨⟨_, _, o_from, F_from.kp, b_from, m_from⟩⟩
  have o_isl := ok_isList (P := l.prog) (w := w) (base := base) F_isl T
  have c_isl : WC.Cal l.prog w K mg base _ _ _ _ _ := ⟨⟨_, _, o_isl, F_isl.kp, b_isl, m_isl⟩⟩
  have o_nnm := ok_needNum F_nnm T_BadNumber o_from F_from.kp b_from m_from
  have c_nnm : WC.Cal l.prog w K mg base _ _ _ _ _ := ⟨⟨_, _, o_nnm, F_nnm.kp, b_nnm, m_nnm⟩⟩
  have o_eqc := ok_eq (P := l.prog) (w := w) (base := base) F_eqc T U
  have o_abv := ok_above (P := l.prog) (w := w) (mg := mg) (base := base) F_abv
  have c_abv : WC.Cal l.prog w K mg base _ _ _ _ _ := ⟨⟨_, _, o_abv, F_abv.kp, b_abv, m_abv⟩⟩
  have o_sta := ok_start F_sta T o_isl F_isl.kp b_isl m_isl o_are F_are.kp b_are m_are
  have c_sta : WC.Cal l.prog w K mg base _ _ _ _ _ := ⟨⟨_, _, o_sta, F_sta.kp, b_sta, m_sta⟩⟩
  have o_fal := ok_falls F_fal T o_abv F_abv.kp b_abv m_abv
  have c_fal : WC.Cal l.prog w K mg base _ _ _ _ _ := ⟨⟨_, _, o_fal, F_fal.kp, b_fal, m_fal⟩⟩
  have o_stp := ok_step (P := l.prog) (w := w) (base := base) F_stp T
  have c_stp : WC.Cal l.prog w K mg base _ _ _ _ _ := ⟨⟨_, _, o_stp, F_stp.kp, b_stp, m_stp⟩⟩
  have o_ncu := ok_needCur F_ncu T U T_BadCurve
  have c_ncu : WC.Cal l.prog w K mg base _ _ _ _ _ := ⟨⟨_, _, o_ncu, F_ncu.kp, b_ncu, m_ncu⟩⟩
  have o_has := ok_has (P := l.prog) (w := w) (base := base) F_has U
  have c_has : WC.Cal l.prog w K mg base _ _ _ _ _ := ⟨⟨_, _, o_has, F_has.kp, b_has, m_has⟩⟩
  have o_fne := ok_fne (P := l.prog) (w := w) (base := base) F_fne T U
  have c_fne : WC.Cal l.prog w K mg base _ _ _ _ _ := ⟨⟨_, _, o_fne, F_fne.kp, b_fne, m_fne⟩⟩
  have o_reg := ok_regular (P := l.prog) (w := w) (base := base) F_reg T U
  have c_reg : WC.Cal l.prog w K mg base _ _ _ _ _ := ⟨⟨_, _, o_reg, F_reg.kp, b_reg, m_reg⟩⟩
  have o_cat := ok_cat F_cat T U o_has F_has.kp b_has m_has
  have c_cat : WC.Cal l.prog w K mg base _ _ _ _ _ := ⟨⟨_, _, o_cat, F_cat.kp, b_cat, m_cat⟩⟩
  have o_beh := ok_behind F_beh T t_FEW U o_reg F_reg.kp b_reg m_reg
  have c_beh : WC.Cal l.prog w K mg base _ _ _ _ _ := ⟨⟨_, _, o_beh, F_beh.kp, b_beh, m_beh⟩⟩
  have o_val := ok_value F_val o_ncu F_ncu.kp b_ncu m_ncu o_nnm F_nnm.kp b_nnm m_nnm o_cat F_cat.kp b_cat m_cat
  have c_val : WC.Cal l.prog w K mg base _ _ _ _ _ := ⟨⟨_, _, o_val, F_val.kp, b_val, m_val⟩⟩
  have o_ile := ok_ile (P := l.prog) (w := w) (mg := mg) (base := base) F_ile
  have c_ile : WC.Cal l.prog w K mg base _ _ _ _ _ := ⟨⟨_, _, o_ile, F_ile.kp, b_ile, m_ile⟩⟩
  have o_lbe := ok_lbe F_lbe U c_has c_fne c_reg
  have c_lbe : WC.Cal l.prog w K mg base _ _ _ _ _ := ⟨⟨_, _, o_lbe, F_lbe.kp, b_lbe, m_lbe⟩⟩
  have o_inf := ok_inf F_inf U n_max c_has c_fne c_reg
  have c_inf : WC.Cal l.prog w K mg base _ _ _ _ _ := ⟨⟨_, _, o_inf, F_inf.kp, b_inf, m_inf⟩⟩
  have o_two := ok_two F_two c_ncu
  have c_two : WC.Cal l.prog w K mg base _ _ _ _ _ := ⟨⟨_, _, o_two, F_two.kp, b_two, m_two⟩⟩
  have o_per := ok_per F_per t_MOST_MADE i_lcm U T_TooMany
  have c_per : WC.Cal l.prog w K mg base _ _ _ _ _ := ⟨⟨_, _, o_per, F_per.kp, b_per, m_per⟩⟩
  have o_gai := ok_gai (P := l.prog) (w := w) (mg := mg) (base := base) F_gai U
  have c_gai : WC.Cal l.prog w K mg base _ _ _ _ _ := ⟨⟨_, _, o_gai, F_gai.kp, b_gai, m_gai⟩⟩
  have o_gap := ok_gap (P := l.prog) (w := w) (base := base) F_gap T
  have c_gap : WC.Cal l.prog w K mg base _ _ _ _ _ := ⟨⟨_, _, o_gap, F_gap.kp, b_gap, m_gap⟩⟩
  have o_lab := ok_lab F_lab T n_max c_gap
  have c_lab : WC.Cal l.prog w K mg base _ _ _ _ _ := ⟨⟨_, _, o_lab, F_lab.kp, b_lab, m_lab⟩⟩
  have o_rol := ok_rol (P := l.prog) (w := w) (base := base) F_rol T U
  have c_rol : WC.Cal l.prog w K mg base _ _ _ _ _ := ⟨⟨_, _, o_rol, F_rol.kp, b_rol, m_rol⟩⟩
  have o_uns := ok_uns F_uns c_reg
  have c_uns : WC.Cal l.prog w K mg base _ _ _ _ _ := ⟨⟨_, _, o_uns, F_uns.kp, b_uns, m_uns⟩⟩
  have o_bot := ok_bot (P := l.prog) (w := w) (base := base) F_bot T
  have c_bot : WC.Cal l.prog w K mg base _ _ _ _ _ := ⟨⟨_, _, o_bot, F_bot.kp, b_bot, m_bot⟩⟩
  have o_ls2 := ok_ls2 (P := l.prog) (w := w) (base := base) F_ls2 T n_max
  have c_ls2 : WC.Cal l.prog w K mg base _ _ _ _ _ := ⟨⟨_, _, o_ls2, F_ls2.kp, b_ls2, m_ls2⟩⟩
  have o_beg := ok_begun (P := l.prog) (w := w) (base := base) F_beg PG
  have c_beg : WC.Cal l.prog w K mg base _ _ _ _ _ := ⟨⟨_, _, o_beg, F_beg.kp, b_beg, m_beg⟩⟩
  have o_mix := ok_mixed (P := l.prog) (w := w) (base := base) F_mix PG
  have c_mix : WC.Cal l.prog w K mg base _ _ _ _ _ := ⟨⟨_, _, o_mix, F_mix.kp, b_mix, m_mix⟩⟩
  have o_tak := ok_take F_tak PG o_mix F_mix.kp b_mix m_mix
  have c_tak : WC.Cal l.prog w K mg base _ _ _ _ _ := ⟨⟨_, _, o_tak, F_tak.kp, b_tak, m_tak⟩⟩
  have o_pic := ok_pick F_pic PG o_tak F_tak.kp b_tak m_tak
  have c_pic : WC.Cal l.prog w K mg base _ _ _ _ _ := ⟨⟨_, _, o_pic, F_pic.kp, b_pic, m_pic⟩⟩
  have o_sts := ok_steps F_sts T o_pic F_pic.kp b_pic m_pic o_tak F_tak.kp b_tak m_tak
  have c_sts : WC.Cal l.prog w K mg base _ _ _ _ _ := ⟨⟨_, _, o_sts, F_sts.kp, b_sts, m_sts⟩⟩
  have o_ske := ok_sketch F_ske T o_pic F_pic.kp b_pic m_pic o_tak F_tak.kp b_tak m_tak o_sts F_sts.kp b_sts m_sts
  have c_ske : WC.Cal l.prog w K mg base _ _ _ _ _ := ⟨⟨_, _, o_ske, F_ske.kp, b_ske, m_ske⟩⟩
  have o_att := ok_at (P := l.prog) (w := w) (base := base) F_att T
  have c_att : WC.Cal l.prog w K mg base _ _ _ _ _ := ⟨⟨_, _, o_att, F_att.kp, b_att, m_att⟩⟩
  have o_row := ok_row F_row T o_att F_att.kp b_att m_att
  have c_row : WC.Cal l.prog w K mg base _ _ _ _ _ := ⟨⟨_, _, o_row, F_row.kp, b_row, m_row⟩⟩
  have o_lea := ok_least (P := l.prog) (w := w) (mg := mg) (base := base) F_lea
  have c_lea : WC.Cal l.prog w K mg base _ _ _ _ _ := ⟨⟨_, _, o_lea, F_lea.kp, b_lea, m_lea⟩⟩
  have o_lfo := ok_lform (P := l.prog) (w := w) (base := base) F_lfo T
  have c_lfo : WC.Cal l.prog w K mg base _ _ _ _ _ := ⟨⟨_, _, o_lfo, F_lfo.kp, b_lfo, m_lfo⟩⟩
  have o_isc := ok_isCur F_isc T n_repr U c_lfo
  have c_isc : WC.CalG l.prog w K mg base _ _ _ _ _ := ⟨⟨_, _, o_isc, F_isc.kp, b_isc, m_isc⟩⟩
  have o_ali := ok_als (P := l.prog) (w := w) (base := base) F_ali n_repr
  have c_ali : WC.Cal l.prog w K mg base _ _ _ _ _ := ⟨⟨_, _, o_ali, F_ali.kp, b_ali, m_ali⟩⟩
  have o_goe := ok_goe (P := l.prog) (w := w) (base := base) F_goe T
  have c_goe : WC.Cal l.prog w K mg base _ _ _ _ _ := ⟨⟨_, _, o_goe, F_goe.kp, b_goe, m_goe⟩⟩
  have o_sho := ok_sho F_sho T c_lfo
  have c_sho : WC.Cal l.prog w K mg base _ _ _ _ _ := ⟨⟨_, _, o_sho, F_sho.kp, b_sho, m_sho⟩⟩
  have o_pla := ok_pla F_pla T c_lea
  have c_pla : WC.Cal l.prog w K mg base _ _ _ _ _ := ⟨⟨_, _, o_pla, F_pla.kp, b_pla, m_pla⟩⟩
  have o_rch := ok_rch F_rch T c_lfo c_row c_goe c_pla c_sho
  have c_rch : WC.Cal l.prog w K mg base _ _ _ _ _ := ⟨⟨_, _, o_rch, F_rch.kp, b_rch, m_rch⟩⟩
  have o_frm := ok_form F_frm T o_stp F_stp.kp b_stp m_stp
  have c_frm : WC.Cal l.prog w K mg base _ _ _ _ _ := ⟨⟨_, _, o_frm, F_frm.kp, b_frm, m_frm⟩⟩
  have o_fst := ok_first F_fst T t_FEW U o_has F_has.kp b_has m_has o_beh F_beh.kp b_beh m_beh
  have c_fst : WC.Cal l.prog w K mg base _ _ _ _ _ := ⟨⟨_, _, o_fst, F_fst.kp, b_fst, m_fst⟩⟩
  have o_ear := ok_ear F_ear T U c_reg c_fst c_ls2
  have c_ear : WC.Cal l.prog w K mg base _ _ _ _ _ := ⟨⟨_, _, o_ear, F_ear.kp, b_ear, m_ear⟩⟩
  have o_lat := ok_lts F_lat T U n_max c_reg c_fst c_ls2
  have c_lat : WC.Cal l.prog w K mg base _ _ _ _ _ := ⟨⟨_, _, o_lat, F_lat.kp, b_lat, m_lat⟩⟩
  have o_ini := ok_init F_ini T U T_BadCurve o_sta F_sta.kp b_sta m_sta o_from F_from.kp b_from m_from o_fal F_fal.kp b_fal m_fal o_frm F_frm.kp b_frm m_frm
  have o_made := ok_madeC F_made T t_MOST_MADE U T_TooMany o_ini b_ini c_frm
  have c_made : WC.Cal l.prog w K mg base _ _ _ _ _ := ⟨⟨_, _, o_made, F_made.kp, b_made, m_made⟩⟩
  have o_lbt := ok_lbt F_lbt T t_MOST_MADE T_TooMany c_inf c_lbe c_ile c_cat c_made
  have c_lbt : WC.Cal l.prog w K mg base _ _ _ _ _ := ⟨⟨_, _, o_lbt, F_lbt.kp, b_lbt, m_lbt⟩⟩
  have o_ltr := ok_lat (kn := 400) (by decide) F_ltr T U t_MOST_MADE c_ncu c_nnm c_made
  have c_ltr : WC.Cal l.prog w K mg base _ _ _ _ _ := ⟨⟨_, _, o_ltr, F_ltr.kp, b_ltr, m_ltr⟩⟩
  have o_rai := ok_rai (kn := 400) (by decide) F_rai T U c_ncu c_nnm c_made
  have c_rai : WC.Cal l.prog w K mg base _ _ _ _ _ := ⟨⟨_, _, o_rai, F_rai.kp, b_rai, m_rai⟩⟩
  have o_ens := ok_ens F_ens T U t_MOST_MADE T_TooMany c_fne c_ls2 c_made
  have c_ens : WC.Cal l.prog w K mg base _ _ _ _ _ := ⟨⟨_, _, o_ens, F_ens.kp, b_ens, m_ens⟩⟩
  have o_end := ok_end F_end T U c_fne c_fst c_ls2 c_made
  have c_end : WC.Cal l.prog w K mg base _ _ _ _ _ := ⟨⟨_, _, o_end, F_end.kp, b_end, m_end⟩⟩
  have o_unl := ok_unl F_unl T U t_MOST_MADE T_TooMany c_uns c_ear c_lat c_lab c_gai c_bot c_made
  have c_unl : WC.Cal l.prog w K mg base _ _ _ _ _ := ⟨⟨_, _, o_unl, F_unl.kp, b_unl, m_unl⟩⟩
  have o_mad := ok_made F_mad U o_ini b_ini
  have c_mad : WC.Cal l.prog w K mg base _ _ _ _ _ := ⟨⟨_, _, o_mad, F_mad.kp, b_mad, m_mad⟩⟩
  have o_rea := ok_rea F_rea c_ncu c_lbt
  have c_rea : WC.Cal l.prog w K mg base _ _ _ _ _ := ⟨⟨_, _, o_rea, F_rea.kp, b_rea, m_rea⟩⟩
  have o_psd := ok_psd F_psd c_ncu c_lbt
  have c_psd : WC.Cal l.prog w K mg base _ _ _ _ _ := ⟨⟨_, _, o_psd, F_psd.kp, b_psd, m_psd⟩⟩
  have o_fol := ok_fol F_fol T U c_two c_has c_ens c_end c_per c_rol c_gai c_uns c_ear c_lat c_bot c_made c_unl
  have c_fol : WC.Cal l.prog w K mg base _ _ _ _ _ := ⟨⟨_, _, o_fol, F_fol.kp, b_fol, m_fol⟩⟩
  have o_l2 := ok_l2 (C := He.ga K "Curve") (S := s15 K) F_l2 (code_of F_l2) (TB _ mem2) (List.mem_cons_of_mem _ (List.mem_cons_of_mem _ (List.mem_cons_self ..))) (uT.2.2) T (s15_ok o_rea F_rea.kp b_rea o_psd F_psd.kp b_psd o_fol F_fol.kp b_fol) F_cau b_cau m_cau F_tri b_tri m_tri m_WaitError EM m_TooMany nT
  have c_l2 : WC.CalG l.prog w K mg base _ _ _ _ _ := ⟨⟨_, _, o_l2, F_l2.kp, b_l2, m_l2⟩⟩
  have o_l1 := ok_l1 (C := He.ga K "Curve") (S := s15 K) F_l1 (code_of F_l1) (TB _ mem1) (List.mem_cons_of_mem _ (List.mem_cons_self ..)) (uT.2.1) T (s15_ok o_rea F_rea.kp b_rea o_psd F_psd.kp b_psd o_fol F_fol.kp b_fol) F_cau b_cau m_cau F_tri b_tri m_tri m_WaitError EM m_TooMany nT
  have c_l1 : WC.CalG l.prog w K mg base _ _ _ _ _ := ⟨⟨_, _, o_l1, F_l1.kp, b_l1, m_l1⟩⟩
  have o_crs := ok_crs F_crs T n_max c_row c_psd c_tak c_pla c_val c_ali
  have c_crs : WC.Cal l.prog w K mg base _ _ _ _ _ := ⟨⟨_, _, o_crs, F_crs.kp, b_crs, m_crs⟩⟩
  have qc_rea : WC.CalK l.prog w K mg base _ _ _ _ _ _ _ _ := ⟨⟨_, _, o_rea, F_rea.kp, kbR1 F_rea (fun _ _ _ _ _ _ _ => rfl), m_rea⟩⟩
  have qc_psd : WC.CalK l.prog w K mg base _ _ _ _ _ _ _ _ := ⟨⟨_, _, o_psd, F_psd.kp, kbR1 F_psd (fun _ _ _ _ _ _ _ => rfl), m_psd⟩⟩
  exact ok_law (S := s15 K) F_law (code_of F_law) (TB _ mem) uT.1 (fun {H} q => ⟨q _ mem, q _ mem1, q _ mem2⟩) T U EB EM m_WaitError m_BadCurve m_TooMany k1 k2 m_rea m_psd m_fol (.inl ⟨rfl, rfl⟩) (.inr (.inl ⟨rfl, rfl⟩)) (.inr (.inr ⟨rfl, rfl⟩)) c_beg c_pic c_tak c_ske c_mad c_goe c_rch o_eqc b_eqc c_l1 c_l2 c_crs c_isc c_rea qc_rea c_psd qc_psd c_rai c_ltr F_cau b_cau m_cau F_isd b_isd m_isd F_aref b_aref m_aref
end WK
end

section
set_option Elab.async false
open PySem PySem.W PySem.Calls PyProof.Rows
set_option maxRecDepth 100000 in
set_option maxHeartbeats 0 in
theorem PySem.Challenge.cw_worstwait_k15_whole_there_and_back_holds : PySem.Challenge.rw_worstwait_k15_whole_there_and_back.Holds := by
  w_on; o_law
  refine HandSHeadRun.head_imp (r := WK.R) (q := view WK.R.prog [0, 83]) (H := WK.hk) (ob := WK.ob) (M := 10000) (loose := WK.lsN) (d := HandSHeadRun.topDef WK.R.prog 83) (kwd := []) WK.ob_eq
    WK.run (by kernel_rfl) (by kernel_rfl) (by kernel_rfl) (by rfl) (by first | assumption | decide +kernel) (by decide +kernel) ⟨rfl, rfl, rfl, rfl, rfl, by decide +kernel⟩ ?hw ?hc
  case hw => w_witness2
  case hc =>
    refine WH.walkT (l := PySem.Challenge.rw_worstwait_k15_whole_there_and_back) (n := 63) (k := 14) (x := "script") rfl (by decide) (by kernel_rfl) ⟨rfl, by decide, by decide⟩ ?F
    intro w mg fa h Y G hmg0
    obtain ⟨K, KX, c, hB, hT⟩ := Y
    have hmg : mg ("law" : PySem.Str) = some (.ref fa) := by
      have e : (HandSHeadRun.topDef WK.R.prog 83).name = ("law" : PySem.Str) := by kernel_rfl
      rw [← e]
      exact hmg0
    exact WK.facts (l := PySem.Challenge.rw_worstwait_k15_whole_there_and_back) (w := w) KX G hmg c hB hT
end
