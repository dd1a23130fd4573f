import PyProof.Rows.All
import Wide.All
import OpenK.AllK
import Wide.FinOn
import HandS.ForMost
import HandS.Wide
import HandS.Codes
import PySem.Challenge.RW_worstwait_k27_runs_and_bundles
import HandS.OwnEq
import HandS.IsInst
import HandS.SlotsOwn
import PyProof.ReprRoads
import HandS.TupAny
import HandS.Walk
import HandS.Zip
import KE.GoesEnum
import HandS.ExcOwn
import HandS.WordsExc
import HandS.Lambda
import HandS.ExcField
import HandS.ExcInit
import KE.KExcIs
import HandS.SetFor
import HandS.More
import HandS.Flow
import HandS.TupMul
import HandS.Style
import HandS.EndTab
import KE.KStateDown
import HandS.Defaults
import HandS.Head0
import HandS.Head1
import HandS.Head2
import HandS.HeadEnd
import HandS.HeadHook1
import HandS.HeadHook2
import HandS.HeadHook4
section
set_option Elab.async false
set_option linter.all false
set_option maxRecDepth 100000
set_option maxHeartbeats 4000000
namespace WW
open PySem L2
def top (i : Nat) : Stmt := PySem.Challenge.pw_worstwait_k27_runs_and_bundles.main.body.getD i (.Pass ⟨0, 0, 0, 0⟩)
abbrev sBegun : Stmt := top 22
abbrev sMixed : Stmt := top 23
abbrev sTake : Stmt := top 24
abbrev sPick : Stmt := top 25
/-! ### the draw: a dict of four, with two lists of ints -/
abbrev drawKvs (l c : Addr) (r t : Int) : List (Key × V) := [(Sum.inr "large", .ref l), (Sum.inr "rest", .int r), (Sum.inr "cells", .ref c), (Sum.inr "turn", .int t)]
structure DrawAt (H : Hp) (d l c : Addr) : Prop where
  ob : ∃ r t, H d = some (.dK (drawKvs l c r t))
  la : ∃ large : List Int, H l = some (.lst (large.map V.int)) ∧ large.length ≤ 63
  ce : ∃ cells : List Int, H c = some (.lst (cells.map V.int)) ∧ cells.length ≤ 63
  lc : l ≠ c
/-- all but the draw's dict and its first list stands -/
def KeepD (H H' : Hp) (d l : Addr) : Prop := ∀ b o, H b = some o → b ≠ d → b ≠ l → H' b = some o
theorem KeepD.refl (H : Hp) (d l : Addr) : KeepD H H d l := fun _ _ h _ _ => h
theorem KeepD.trans {H H1 H2 : Hp} {d l : Addr} (a : KeepD H H1 d l) (b : KeepD H1 H2 d l) : KeepD H H2 d l := fun c o h h1 h2 => b c o (a c o h h1 h2) h1 h2
theorem Same.keepD {H H1 : Hp} (d l : Addr) (a : Same H H1) : KeepD H H1 d l := fun c o h _ _ => a c o h
theorem DrawAt.dl {H : Hp} {d l c : Addr} (D : DrawAt H d l c) : d ≠ l := by
  obtain ⟨⟨r, t, h⟩, ⟨la, h2, _⟩, _, _⟩ := D
  exact ne_of h h2 (by intro z; cases z)
theorem DrawAt.dc {H : Hp} {d l c : Addr} (D : DrawAt H d l c) : d ≠ c := by
  obtain ⟨⟨r, t, h⟩, _, ⟨la, h2, _⟩, _⟩ := D
  exact ne_of h h2 (by intro z; cases z)
theorem DrawAt.same {H H' : Hp} {d l c : Addr} (D : DrawAt H d l c) (s : Same H H') : DrawAt H' d l c := by
  obtain ⟨⟨r, t, h⟩, ⟨la, h2, h3⟩, ⟨ce, h4, h5⟩, h6⟩ := D
  exact ⟨⟨r, t, s _ _ h⟩, ⟨la, s _ _ h2, h3⟩, ⟨ce, s _ _ h4, h5⟩, h6⟩
theorem DrawAt.keepF {H H' : Hp} {d l c a : Addr} (D : DrawAt H d l c) (k : KeepD H H' d l) (D' : DrawAt H' d l c) (h : H' a = none) : H a = none := by
  cases q : H a with
  | none => rfl
  | some o =>
    by_cases e1 : a = d
    · subst e1
      obtain ⟨⟨r, t, z⟩, _⟩ := D'
      rw [z] at h
      cases h
    · by_cases e2 : a = l
      · subst e2
        obtain ⟨_, ⟨la, z, _⟩, _⟩ := D'
        rw [z] at h
        cases h
      · rw [k a o q e1 e2] at h
        cases h
/-- the names of the prelude -/
structure PreG (mg : Str → Option Value) : Prop where
  abs : mg "abs" = none
  int : mg "int" = none
  len : mg "len" = none
def spBegun (K : PySem.W.Frag) : Sp := fun vs H Q _ => ∃ (a : Addr) (ns : List Int), vs = [.ref a] ∧ SqL K H a (ns.map V.int) ∧ ns.length ≤ 63 ∧
  ∀ (d l c : Addr) (H' : Hp), H d = none → H l = none → H c = none → DrawAt H' d l c → Same H H' → Q (.ref d) H'
local macro_rules | `(tactic| walk_at "rd") => `(tactic| simp only [tTest, tOp, tUn, tCB, tCons, tNil, tVar, tC, rI, rI0, rU, CPow, CMul, CDivN, tIf, tIfS, tNext, tCall, List.append_nil, rEq, tPar, tDGet, tSeq, sDPut, tLst, tYes, false_or, or_false, reduceCtorEq, and_false, false_and, exists_false, if_true, Bool.false_eq_true, if_false, ite_self, tAsg, gName, tDisp, tPairs, tRet, L2.start, wipe, List.map_cons, List.map_nil, List.length_cons, List.length_nil, List.replicate, List.cons_append, List.nil_append, List.set_cons_zero, List.set_cons_succ,
  List.getElem?_cons_zero, List.getElem?_cons_succ, V.int.injEq, V.bl.injEq, V.str.injEq, V.ref.injEq, Option.some.injEq, exists_eq_left', exists_eq_left, exists_and_left, exists_const, decide_eq_true_eq, true_and, and_true, exists_eq', exists_eq, Nat.reduceSub, Nat.reduceAdd, Int.reduceToNat, Int.reducePow, Int.reduceLE, Int.reduceNeg, Nat.reduceLT, Nat.reducePow, Int.natAbs_cast, Int.reduceLT, Nat.reduceLeDiff, List.cons.injEq])
section
variable {P : Program} {w : World} {K : PySem.W.Frag} {mg : Str → Option Value} {base : Heap}
theorem scBegun : FnScope ["script", "large", "grain"] ["script"] (defScope sBegun) := ⟨rfl, rfl, rfl, by decide +kernel, rfl, by decide +kernel, by decide +kernel⟩
theorem get_map_int {ns : List Int} {i : Nat} {x : V} (h : (ns.map V.int)[i]? = some x) : ∃ z, x = V.int z := by
  rw [List.getElem?_map] at h
  cases e : ns[i]? with
  | none => rw [e] at h; cases h
  | some z => rw [e] at h; exact ⟨z, (Option.some.inj h).symm⟩
theorem snocI (xs : List Int) (z : Int) : ∃ ys : List Int, xs.map V.int ++ [V.int z] = ys.map V.int ∧ ys.length = xs.length + 1 := ⟨xs ++ [z], by rw [List.map_append]; rfl, by rw [List.length_append]; rfl⟩
theorem ok_begun {f : Addr} {fd : FuncData} (F : Fun K "_law_begun" "_law_begun" sBegun f fd) (T : PreG mg) : FnOk P w K mg base CX0 1 f fd ["script"] (spBegun K) := by
  refine F.ok scBegun (fun vs H Q E h => ?_) (fun cdv A outer s H vs Q E hr h => ?_)
  · obtain ⟨a, ns, rfl, _⟩ := h
    rfl
  · obtain ⟨a, ns, rfl, hS, hn, k⟩ := h
    have hu := hu_of hr
    refine ⟨_, pss_cons (ps_setLc (i := 1) (own := [("grain", 2)]) (g := gName 2) rfl scBegun.nd rfl rfl (sw_true rfl rfl rfl (by decide +kernel)) (pi_list (pv 0)) (blkOk_by (N := ["script", "large", "grain"]) (sc := defScope sBegun) (by decide +kernel))
        (fun _ _ _ _ _ => pg_name (i := 2) scBegun.nd rfl (Or.inl rfl))
        (fun _ _ _ _ _ => pts_one (pt_cmpR op_ge (pe_callB call_abs (by rfl) T.abs (by decide +kernel) (pa_cons (pv 2) pa_nil)) (pe_op op_pow pe_int pe_int) (nomark _)))
        (fun _ _ _ _ _ => pe_op op_sub (pe_callB call_abs (by rfl) T.abs (by decide +kernel) (pa_cons (pv 2) pa_nil)) (pe_op op_pow pe_int pe_int)))
      (pss_one (ps_ret (pe_disp (pps_cons pe_str (pv 1) (pps_cons pe_str pe_int (pps_cons pe_str
        (pe_lc (own := [("grain", 2)]) (g := gName 2) (tt := tYes) rfl scBegun.nd (pi_list (pv 0)) (blkOk_by (N := ["script", "large", "grain"]) (sc := defScope sBegun) (by decide +kernel)) (fun _ _ _ _ _ => pg_name (i := 2) scBegun.nd rfl (Or.inl rfl)) (fun _ _ _ _ _ => pts_nil)
          (fun _ _ _ _ _ => pe_callB call_abs (by rfl) T.abs (by decide +kernel) (pa_cons (pv 2) pa_nil)))
        (pps_cons pe_str pe_int pps_nil)))) (by rfl) (by rfl) (fun z => by cases z) (by decide)))), ?_⟩
    refine ⟨_, rfl, a, rfl, ⟨_, hS⟩, fun D hD => lc_list (K := K) (a := a) (xs := ns.map V.int) (fun i H2 => ∃ xs : List Int, H2 D = some (.lst (xs.map V.int)) ∧ xs.length ≤ i ∧ Same H H2) ⟨[], upd_same, Nat.le_refl _, fun b o e => by rw [upd_ne (ne_of_none e hD)]; exact e⟩ (fun i H2 _ ⟨_, _, _, s2⟩ => s2.seq hS) ?_ ?_⟩
    · rintro i x H2 hx ⟨xs, hxs, hxl, s2⟩
      obtain ⟨z, rfl⟩ := get_map_int hx
      have hi : i < ns.length := by
        have q := (List.getElem?_eq_some_iff.mp hx).1
        rwa [List.length_map] at q
      refine ⟨rfl, ?_⟩
      walk_at "rd"
      refine ⟨by decide, ite2 (fun _ => ⟨by decide, ?_⟩) (fun _ => ?_)⟩
      · obtain ⟨ys, e1, e2⟩ := snocI xs ((if z < 0 then -z else z) - 1000000000000000000)
        exact ⟨xs.map V.int, hxs, (by rw [List.length_map]; exact small1000 (by omega)), ys, by rw [e1]; exact upd_same, by omega, fun b o e => by rw [upd_ne (ne_of_none e hD)]; exact s2 b o e⟩
      · exact ⟨xs, hxs, by omega, s2⟩
    · rintro H2 ⟨large, hl, hll, s2⟩
      walk_at "rd"
      intro p hp
      have hDp : D ≠ p := fun e => by rw [e, hp] at hl; cases hl
      have s3 : Same H (upd H2 p (.dK [])) := fun b o e => by rw [upd_ne (ne_of_none (s2 _ _ e) hp)]; exact s2 _ _ e
      refine ⟨_, rfl, a, rfl, ⟨_, s3.seq hS⟩, fun c hc => lc_list (K := K) (a := a) (xs := ns.map V.int) (fun i H3 => ∃ xs : List Int, H3 c = some (.lst (xs.map V.int)) ∧ xs.length ≤ i ∧ Same (upd H2 p (.dK [])) H3) ⟨[], upd_same, Nat.le_refl _, fun b o e => by rw [upd_ne (ne_of_none e hc)]; exact e⟩ (fun i H3 _ ⟨_, _, _, s4⟩ => (Same.trans s3 s4).seq hS) ?_ ?_⟩
      · rintro i x H3 hx ⟨xs, hxs, hxl, s4⟩
        obtain ⟨z, rfl⟩ := get_map_int hx
        have hi : i < ns.length := by
          have q := (List.getElem?_eq_some_iff.mp hx).1
          rwa [List.length_map] at q
        refine ⟨rfl, ?_⟩
        walk_at "rd"
        obtain ⟨ys, e1, e2⟩ := snocI xs (if z < 0 then -z else z)
        exact ⟨xs.map V.int, hxs, (by rw [List.length_map]; exact small1000 (by omega)), ys, by rw [e1]; exact upd_same, by omega, fun b o e => by rw [upd_ne (ne_of_none e hc)]; exact s4 b o e⟩
      · rintro H3 ⟨cells, hcl, hcll, s4⟩
        rw [List.length_map] at hll hcll
        refine ⟨s4 _ _ upd_same, drawKvs D c 0 0, rfl, (by show 4 ≤ 15; decide), ?_⟩
        have hpc : p ≠ c := ne_of_none (upd_same (H := H2) (a := p) (o := .dK [])) hc
        have hcD : D ≠ c := fun e => by rw [← e, upd_ne hDp, hl] at hc; cases hc
        have hD3 : H3 D = some (.lst (large.map V.int)) := s4 _ _ (by rw [upd_ne hDp]; exact hl)
        refine k p D c _ (s2.free hp) hD (s3.free hc) ⟨⟨0, 0, ?_⟩, ⟨large, ?_, by omega⟩, ⟨cells, ?_, by omega⟩, hcD⟩ ?_
        · exact upd_same
        · rw [upd_ne hDp]; exact hD3
        · rw [upd_ne hpc.symm]; exact hcl
        · exact fun b o e => by rw [upd_ne (ne_of_none (s2 _ _ e) hp)]; exact s4 _ _ (s3 _ _ e)
section
variable {H : Hp} {d l c : Addr} {r t x : Int}
theorem dg_large (h : H d = some (.dK (drawKvs l c r t))) : DGet H d (.str "large") (some (.ref l)) := by
  have e : valV (drawKvs l c r t) (Sum.inr "large" : Key) = some (.ref l) := by rfl
  rw [← e]
  exact DGet.k (k := Sum.inr "large") h
theorem dg_rest (h : H d = some (.dK (drawKvs l c r t))) : DGet H d (.str "rest") (some (.int r)) := by
  have e : valV (drawKvs l c r t) (Sum.inr "rest" : Key) = some (.int r) := by rfl
  rw [← e]
  exact DGet.k (k := Sum.inr "rest") h
theorem dg_cells (h : H d = some (.dK (drawKvs l c r t))) : DGet H d (.str "cells") (some (.ref c)) := by
  have e : valV (drawKvs l c r t) (Sum.inr "cells" : Key) = some (.ref c) := by rfl
  rw [← e]
  exact DGet.k (k := Sum.inr "cells") h
theorem dg_turn (h : H d = some (.dK (drawKvs l c r t))) : DGet H d (.str "turn") (some (.int t)) := by
  have e : valV (drawKvs l c r t) (Sum.inr "turn" : Key) = some (.int t) := by rfl
  rw [← e]
  exact DGet.k (k := Sum.inr "turn") h
theorem dp_turn (h : H d = some (.dK (drawKvs l c r t))) : DPut H d (.str "turn") (.int x) (upd H d (.dK (drawKvs l c r x))) :=
  DPut.k (k := Sum.inr "turn") h (by show 4 < sizeLine; decide)
theorem dp_rest (h : H d = some (.dK (drawKvs l c r t))) : DPut H d (.str "rest") (.int x) (upd H d (.dK (drawKvs l c x t))) :=
  DPut.k (k := Sum.inr "rest") h (by show 4 < sizeLine; decide)
end
def spMixed (K : PySem.W.Frag) : Sp := fun vs H Q _ => ∃ (d l c : Addr), vs = [.ref d] ∧ DrawAt H d l c ∧ ∀ (z : Int) (H' : Hp), DrawAt H' d l c → (∀ b o, H b = some o → b ≠ d → H' b = some o) → Q (.int z) H'
theorem scMixed : FnScope ["draw", "turn", "found", "great", "blend", "grain"] ["draw"] (defScope sMixed) := ⟨rfl, rfl, rfl, by decide +kernel, rfl, by decide +kernel, by decide +kernel⟩
theorem ok_mixed {f : Addr} {fd : FuncData} (F : Fun K "_law_mixed" "_law_mixed" sMixed f fd) (T : PreG mg) : FnOk P w K mg base CX0 1 f fd ["draw"] (spMixed K) := by
  refine F.ok scMixed (fun vs H Q E h => ?_) (fun cdv A outer s H vs Q E hr h => ?_)
  · obtain ⟨d, l, c, rfl, _⟩ := h
    rfl
  · obtain ⟨d, l, c, rfl, D, k⟩ := h
    have hu := hu_of hr
    refine ⟨_, pss_cons (ps_dput hu (pv 0) pe_str (pe_op op_add (pe_dget hu (pv 0) pe_str (fun _ _ => rfl)) pe_int) rfl)
      (pss_cons (ps_par (i := 1) (j := 2) (by rfl) scMixed.nd rfl rfl (by decide) rfl rfl (pa_cons (pe_callTy call_int1 (by rfl) T.int (by decide +kernel) (pa_cons (pe_dget hu (pv 0) pe_str (fun _ _ => rfl)) pa_nil)) (pa_cons pe_int pa_nil)) (by rfl))
      (pss_cons (ps_for PassesOwn.never rfl (pi_list (pe_lst (pa_cons pe_int (pa_cons pe_int (pa_cons pe_int pa_nil))))) (pg_name (i := 3) scMixed.nd rfl (Or.inl rfl))
        (pss_cons (ps_set (i := 4) scMixed.nd rfl (Or.inl rfl) (pe_op op_modN (pe_op op_add (pe_op op_mul (pv 1) pe_int) (pe_op op_fdivN (pv 3) pe_int)) (pv 3)))
        (pss_cons (ps_for PassesOwn.never rfl (pi_list (pe_dget hu (pv 0) pe_str (fun _ _ => rfl))) (pg_name (i := 5) scMixed.nd rfl (Or.inl rfl))
          (pss_one (ps_set (i := 4) scMixed.nd rfl (Or.inl rfl) (pe_op op_modN (pe_op op_add (pe_op op_mul (pv 4) pe_int) (pe_callTy call_int1 (by rfl) T.int (by decide +kernel) (pa_cons (pv 5) pa_nil))) (pv 3)))))
        (pss_one (ps_set (i := 2) scMixed.nd rfl (Or.inl rfl) (pe_op op_add (pe_op op_mul (pv 2) pe_int) (pe_op op_modN (pe_op op_pow (pv 4) pe_int) (pv 3))))))))
      (pss_one (ps_ret (pv 2))))), ?_⟩
    obtain ⟨⟨r, t, hd⟩, ⟨la, hl, hll⟩, ⟨ce, hc, hcl⟩, hlc⟩ := id D
    walk_at "rd"
    have hd1 : ∀ x, upd H d (.dK (drawKvs l c r x)) d = some (.dK (drawKvs l c r x)) := fun x => upd_same
    refine ⟨_, dg_turn hd, _, rfl, _, dp_turn hd, _, dg_turn (hd1 _), .inl ⟨_, rfl, _, _, ⟨rfl, rfl⟩, ?_⟩⟩
    refine ⟨(by show 3 ≤ sizeLine; decide), fun p hp => ⟨p, rfl, ⟨_, SqL.of upd_same⟩, ?_⟩⟩
    have hpd : p ≠ d := fun e => by rw [e, hd1] at hp; cases hp
    refine for_list (K := K) (a := p) (xs := [V.int 2147483629, V.int 2147483587, V.int 2147483579]) (fun i σ H2 => ∃ (z tt : Int) (v3 v4 v5 : Option V), σ = [some (.ref d), some (.int tt), some (.int z), v3, v4, v5] ∧ Same (upd (upd H d (.dK (drawKvs l c r (t + 1)))) p (.lst [V.int 2147483629, V.int 2147483587, V.int 2147483579])) H2) ⟨_, _, _, _, _, rfl, Same.refl _⟩ (fun i σ H2 _ ⟨_, _, _, _, _, _, s2⟩ => SqL.of (s2 _ _ upd_same)) ?_ ?_
    · rintro i x σ H2 hx ⟨z, tt, v3, v4, v5, rfl, s2⟩
      obtain ⟨g, rfl, g0, g1⟩ : ∃ g : Int, x = V.int g ∧ 0 < g ∧ g < 2147483648 := by
        match i, hx with
        | 0, hx => exact ⟨_, (Option.some.inj hx).symm, by decide, by decide⟩
        | 1, hx => exact ⟨_, (Option.some.inj hx).symm, by decide, by decide⟩
        | 2, hx => exact ⟨_, (Option.some.inj hx).symm, by decide, by decide⟩
      have gn : g ≠ 0 := by omega
      have fm : ∀ y : Int, 0 ≤ y.fmod g ∧ y.fmod g < g := fun y => by
        rw [Int.fmod_eq_emod_of_nonneg _ (by omega)]
        exact ⟨Int.emod_nonneg _ gn, Int.emod_lt_of_pos _ g0⟩
      walk_at "rd"
      refine ⟨.inr trivial, ⟨by decide, by decide⟩, gn, ?_⟩
      have hd2 : H2 d = some (.dK (drawKvs l c r (t + 1))) := s2 _ _ (by rw [upd_ne hpd.symm]; exact hd1 _)
      have hc2 : H2 c = some (.lst (ce.map V.int)) := s2 _ _ (by rw [upd_ne (ne_of_none (by rw [upd_ne D.dc.symm]; exact hc) hp), upd_ne D.dc.symm]; exact hc)
      refine ⟨_, rfl, d, _, rfl, dg_cells hd2, c, rfl, ⟨_, SqL.of hc2⟩, for_list (K := K) (a := c) (xs := ce.map V.int) (fun i σ H3 => ∃ (b : Int) (v5 : Option V), σ = [some (.ref d), some (.int tt), some (.int z), some (.int g), some (.int b), v5] ∧ 0 ≤ b ∧ b < g ∧ H3 = H2) ⟨_, _, rfl, (fm _).1, (fm _).2, rfl⟩ (fun i σ H3 _ ⟨_, _, _, _, _, e⟩ => by rw [e]; exact SqL.of hc2) ?_ ?_⟩
      · rintro i x σ H3 hx ⟨b, v5, rfl, b0, b1, rfl⟩
        obtain ⟨y, rfl⟩ := get_map_int hx
        walk_at "rd"
        exact ⟨.inr trivial, gn, _, _, ⟨rfl, rfl⟩, (fm _).1, (fm _).2⟩
      · rintro σ H3 ⟨b, v5, rfl, b0, b1, rfl⟩
        walk_at "rd"
        exact ⟨.inr trivial, by show b.natAbs < 18446744073709551616; omega, gn, _, _, _, _, _, ⟨rfl, rfl, rfl, rfl, rfl⟩, s2⟩
    · rintro σ H2 ⟨z, tt, v3, v4, v5, rfl, s2⟩
      walk_at "rd"
      have hd2 : H2 d = some (.dK (drawKvs l c r (t + 1))) := s2 _ _ (by rw [upd_ne hpd.symm]; exact hd1 _)
      have up : ∀ b o, H b = some o → b ≠ d → H2 b = some o := fun b o e hb => s2 _ _ (by
        have q : upd H d (.dK (drawKvs l c r (t + 1))) b = some o := by rw [upd_ne hb]; exact e
        rw [upd_ne (ne_of_none q hp)]; exact q)
      exact k z H2 ⟨⟨r, t + 1, hd2⟩, ⟨la, up _ _ hl D.dl.symm, hll⟩, ⟨ce, up _ _ hc D.dc.symm, hcl⟩, hlc⟩ up
/-! ### data of ints -/
theorem dpAll_int {H : Hp} : ∀ ns : List Int, DpAll K H (ns.map V.int) (ns.map PyData.int)
  | [] => .nil
  | _ :: r => .cons (.int _) (dpAll_int r)
theorem can_ints : ∀ ns : List Int, PyData.canLayAll0 (ns.map PyData.int) = true
  | [] => by simp [PyData.canLayAll0]
  | _ :: r => by simp [PyData.canLayAll0, PyData.canLay0, can_ints r]
theorem depth_ints : ∀ ns : List Int, PyData.depthAll (ns.map PyData.int) = 0
  | [] => by simp [PyData.depthAll]
  | _ :: r => by simp [PyData.depthAll, PyData.depth, depth_ints r]
theorem shaped_ints (ns : List Int) : SeqAt.shaped (.list (ns.map PyData.int)) = true := by
  simp [SeqAt.shaped, PyData.canLay0, PyData.depth, can_ints, depth_ints]
theorem shaped_tints (ns : List Int) : SeqAt.shaped (.tuple (ns.map PyData.int)) = true := by
  simp [SeqAt.shaped, PyData.canLay0, PyData.depth, can_ints, depth_ints]
theorem eqvAll_ints : ∀ ns ms : List Int, PyData.eqvAll (ns.map PyData.int) (ms.map PyData.int) = decide (ns = ms)
  | [], [] => by simp [PyData.eqvAll]
  | [], _ :: _ => by simp [PyData.eqvAll]
  | _ :: _, [] => by simp [PyData.eqvAll]
  | a :: r, b :: q => by
    simp only [List.map_cons, PyData.eqvAll, PyData.eqv, eqvAll_ints r q, List.cons.injEq, Bool.decide_and]
    rfl
theorem eqv_ints (ns ms : List Int) : PyData.eqv (.list (ns.map PyData.int)) (.list (ms.map PyData.int)) = decide (ns = ms) := by
  rw [← eqvAll_ints]; simp [PyData.eqv]
def spTake (K : PySem.W.Frag) : Sp := fun vs H Q _ => ∃ (d l c : Addr) (m : Int), vs = [.ref d, .int m] ∧ DrawAt H d l c ∧ 0 < m ∧ m < 2 ^ 200 ∧
  ∀ (r : Int) (H' : Hp), 0 ≤ r → r < m → DrawAt H' d l c → KeepD H H' d l → Q (.int r) H'
theorem scTake : FnScope ["draw", "amount", "found"] ["draw", "amount"] (defScope sTake) := ⟨rfl, rfl, rfl, by decide +kernel, rfl, by decide +kernel, by decide +kernel⟩
theorem ok_take {f fM : Addr} {fd fdM : FuncData} (F : Fun K "_law_take" "_law_take" sTake f fd) (T : PreG mg) (GM : FnOk P w K mg base CX0 1 fM fdM ["draw"] (spMixed K)) (kM : PySem.W.keepIn K (.ref fM) = true) (bM : Binds K fdM ["draw"] []) (mM : mg "_law_mixed" = some (.ref fM)) : FnOk P w K mg base CX0 2 f fd ["draw", "amount"] (spTake K) := by
  refine F.ok scTake (fun vs H Q E h => ?_) (fun cdv A outer s H vs Q E hr h => ?_)
  · obtain ⟨d, l, c, m, rfl, _⟩ := h
    rfl
  · obtain ⟨d, l, c, m, rfl, D, m0, m1, k⟩ := h
    have hu := hu_of hr
    refine ⟨_, C8.pss_cut (ps_if (pt_cmpR op_eq (pe_dget hu (pv 0) pe_str (fun _ _ => rfl)) pe_int (nomark _))
        (pss_one (ps_dput hu (pv 0) pe_str (pe_ifExp (pt_cmpR (op_neD hr.units) (pe_dget hu (pv 0) pe_str (fun _ _ => rfl)) (pe_lst pa_nil) (nomark _))
          (pe_bm PySem.F.plainAttrs_list PySem.F.slot_list_pop PySem.F.type_list_pop mt_popAt (pe_dget hu (pv 0) pe_str (fun _ _ => rfl)) (pa_cons pe_int pa_nil))
          (pe_call GM hr rfl mM kM bM .nil pass0 (pa_cons (pv 0) pa_nil))) rfl)) pss_nil)
      (pss_cons (ps_set (i := 2) scTake.nd rfl (Or.inl rfl) (pe_op op_modN (pe_callTy call_int1 (by rfl) T.int (by decide +kernel) (pa_cons (pe_dget hu (pv 0) pe_str (fun _ _ => rfl)) pa_nil)) (pv 1)))
      (pss_cons (ps_dput hu (pv 0) pe_str (pe_op op_fdivW (pe_callTy call_int1 (by rfl) T.int (by decide +kernel) (pa_cons (pe_dget hu (pv 0) pe_str (fun _ _ => rfl)) pa_nil)) (pv 1)) rfl)
      (pss_one (ps_ret (pv 2))))), ?_⟩
    -- behind the if: the draw again, all else as it was
    refine ⟨fun σ' H' => σ' = [some (.ref d), some (.int m), none] ∧ DrawAt H' d l c ∧ KeepD H H' d l, ?_, ?_⟩
    · have key : ∀ H', DrawAt H' d l c → KeepD H H' d l → ([some (V.ref d), some (V.int m), none] : List (Option V)) = [some (.ref d), some (.int m), none] ∧ DrawAt H' d l c ∧ KeepD H H' d l := fun H' a b => ⟨rfl, a, b⟩
      obtain ⟨⟨r, t, hd⟩, ⟨la, hl, hll⟩, ⟨ce, hc, hcl⟩, hlc⟩ := id D
      walk_at "rd"
      refine ⟨_, dg_rest hd, rfl, ?_⟩
      refine ite2 (fun _ => ?_) (fun _ => (key H D (KeepD.refl _ _ _)).2)
      refine ⟨_, dg_large hd, by decide, fun q hq => ⟨.list (la.map .int), .list [], .lst (SqL.of (by rw [upd_ne (ne_of_none hl hq)]; exact hl)) (dpAll_int la), .lst (SqL.of upd_same) .nil, shaped_ints la, by decide, ?_⟩⟩
      rw [show PyData.eqv (.list (la.map .int)) (.list []) = decide (la = []) from eqv_ints la []]
      have hd1 : (upd H q (.lst [])) d = some (.dK (drawKvs l c r t)) := by rw [upd_ne (ne_of_none hd hq)]; exact hd
      have hl1 : (upd H q (.lst [])) l = some (.lst (la.map V.int)) := by rw [upd_ne (ne_of_none hl hq)]; exact hl
      have s1 : Same H (upd H q (.lst [])) := fun b o e => by rw [upd_ne (ne_of_none e hq)]; exact e
      cases la with
      | nil =>
        refine ⟨false, rfl, ?_⟩
        rw [if_neg Bool.false_ne_true]
        refine ⟨d, l, c, rfl, D.same s1, fun z H2 D2 k2 => ?_⟩
        obtain ⟨⟨r2, t2, hd2⟩, ⟨la2, hl2, hll2⟩, ⟨ce2, hc2, hcl2⟩, _⟩ := id D2
        refine ⟨_, dp_rest hd2, (key _ ⟨⟨_, _, upd_same⟩, ⟨la2, by rw [upd_ne D.dl.symm]; exact hl2, hll2⟩, ⟨ce2, by rw [upd_ne D.dc.symm]; exact hc2, hcl2⟩, hlc⟩ fun b o e h1 h2 => ?_).2⟩
        rw [upd_ne h1]
        exact k2 _ _ (s1 _ _ e) h1
      | cons y ys =>
        refine ⟨true, rfl, ?_⟩
        rw [if_pos rfl]
        refine ⟨_, rfl, _, _, rfl, dg_large hd1, .inl ⟨rfl, _, SqL.of hl1⟩, l, _, 0, 0, _, rfl, rfl, hl1, by decide, by decide, ?_, rfl, ?_⟩
        · rw [List.length_map, List.length_cons]
          unfold seqIndex?
          simp
        have hd2 : upd (upd H q (.lst [])) l (.lst (((y :: ys).map V.int).eraseIdx 0)) d = some (.dK (drawKvs l c r t)) := by rw [upd_ne D.dl]; exact hd1
        have hc1 : (upd H q (.lst [])) c = some (.lst (ce.map V.int)) := s1 _ _ hc
        refine ⟨_, dp_rest hd2, (key _ ⟨⟨_, _, upd_same⟩, ⟨ys, ?_, ?_⟩, ⟨ce, ?_, hcl⟩, hlc⟩ fun b o e h1 h2 => ?_).2⟩
        · rw [upd_ne D.dl.symm]; exact upd_same
        · rw [List.length_cons] at hll; omega
        · rw [upd_ne D.dc.symm, upd_ne hlc.symm]; exact hc1
        · rw [upd_ne h1, upd_ne h2]; exact s1 _ _ e
    · rintro σ' H' ⟨rfl, D', k'⟩
      obtain ⟨⟨r, t, hd⟩, ⟨la, hl, hll⟩, ⟨ce, hc, hcl⟩, hlc⟩ := id D'
      walk_at "rd"
      have fm : 0 ≤ r.fmod m ∧ r.fmod m < m := by
        rw [Int.fmod_eq_emod_of_nonneg _ (by omega)]
        exact ⟨Int.emod_nonneg _ (by omega), Int.emod_lt_of_pos _ m0⟩
      refine ⟨_, dg_rest hd, .inl ⟨_, rfl, by omega, _, dg_rest hd, .inl ⟨_, rfl, wide_div (b := 200) m0 (by omega) (by decide) (by decide), _, dp_rest hd, ?_⟩⟩⟩
      exact k _ _ fm.1 fm.2 ⟨⟨_, _, upd_same⟩, ⟨la, by rw [upd_ne D'.dl.symm]; exact hl, hll⟩, ⟨ce, by rw [upd_ne D'.dc.symm]; exact hc, hcl⟩, hlc⟩ (k'.trans fun b o e h1 h2 => by rw [upd_ne h1]; exact e)
def spPick (K : PySem.W.Frag) : Sp := fun vs H Q _ => ∃ (d l c p : Addr) (xs : List V), vs = [.ref d, .ref p] ∧ DrawAt H d l c ∧ H p = some (.lst xs) ∧ p ≠ l ∧ 0 < xs.length ∧ xs.length ≤ 2 ^ 100 ∧
  ∀ (i : Nat) (x : V) (H' : Hp), xs[i]? = some x → DrawAt H' d l c → KeepD H H' d l → Q x H'
theorem scPick : FnScope ["draw", "some"] ["draw", "some"] (defScope sPick) := ⟨rfl, rfl, rfl, by decide +kernel, rfl, by decide +kernel, by decide +kernel⟩
theorem ok_pick {f fM : Addr} {fd fdM : FuncData} (F : Fun K "_law_pick" "_law_pick" sPick f fd) (T : PreG mg) (GM : FnOk P w K mg base CX0 2 fM fdM ["draw", "amount"] (spTake K)) (kM : PySem.W.keepIn K (.ref fM) = true) (bM : Binds K fdM ["draw", "amount"] []) (mM : mg "_law_take" = some (.ref fM)) : FnOk P w K mg base CX0 3 f fd ["draw", "some"] (spPick K) := by
  refine F.ok scPick (fun vs H Q E h => ?_) (fun cdv A outer s H vs Q E hr h => ?_)
  · obtain ⟨d, l, c, p, xs, rfl, _⟩ := h
    rfl
  · obtain ⟨d, l, c, p, xs, rfl, D, hp, hpl, h0, hz, k⟩ := h
    have hu := hu_of hr
    refine ⟨_, pss_one (ps_ret (pe_ix ix_list (pv 1) (pe_call GM hr rfl mM kM bM .nil pass0 (pa_cons (pv 0) (pa_cons (pe_callB call_len_seq (by rfl) T.len PySem.boot_len (pa_cons (pv 1) pa_nil)) pa_nil))) (fun _ _ => rfl))), ?_⟩
    obtain ⟨⟨r, t, hd⟩, ⟨la, hl, hll⟩, ⟨ce, hc, hcl⟩, hlc⟩ := id D
    have hpd : p ≠ d := ne_of hp hd (by intro z; cases z)
    refine ⟨_, rfl, _, rfl, _, rfl, p, xs, rfl, .inl (SqL.of hp), ?_⟩
    refine ⟨d, l, c, _, rfl, D, by omega, by omega, fun r2 H2 r0 r1 D2 k2 => ?_⟩
    obtain ⟨j, rfl⟩ : ∃ j : Nat, r2 = (j : Int) := ⟨r2.toNat, by omega⟩
    have hj : xs[j]? = some (xs[j]'(by omega)) := List.getElem?_eq_getElem _
    exact ⟨p, xs, _, _, rfl, rfl, SqL.of (k2 _ _ hp hpd hpl), atI_nat hj, k j _ H2 hj D2 k2⟩
end
end WW
end

section
set_option Elab.async false
set_option linter.all false
set_option maxRecDepth 100000
set_option maxHeartbeats 4000000
/-! == and != by an own __eq__, both answers; attributes as targets of a tuple's assignment -/
namespace WO
open PySem PySem.Spec PyProof.Rows L2
/-- a.f as a target -/
def gAttr (K : PySem.W.Frag) (ta : TE) (f : Str) : TG := fun v σ H Q => ta σ H fun x H1 => ∃ a C dx fs, x = .ref a ∧ H1 a = some (.ins C dx fs) ∧ Cls K C ∧ NoAttr K C f ∧ fs.length < 1000 ∧ Q σ (upd H1 a (.ins C dx (putF f v fs)))
theorem pg_attr {X : Cx} {o : Expr} {f : Str} {pos : Pos} {ta : TE} (ho : PE X o ta) : PG X (.Attribute o f pos) (gAttr X.K ta f) := by
  refine ⟨fun pins s σ H v u Q I r h => ?_⟩
  rw [assign_Attribute]
  refine wpAny_bind (wpAny_holding (thn (ho.run pins s σ H _ I h) fun ov s1 ⟨x, H1, I1, r1, q⟩ => ?_))
  obtain ⟨a, C, dx, fs, rfl, hi, c, n, hz, q⟩ := q
  cases (show ov = Value.ref a from r1)
  refine wpAny_bind (wpAny_standAt (wpAny_bind (wpAny_holding (setattr_ok I1 hi c n hz r fun s' I' => wpAny_release ⟨_, _, I', q⟩))))
section
variable {X : Cx} {CX : CXT} {C f : Addr} {fd : FuncData} {ps : List Str} {sp : Sp} {E : XK} {n : Nat}
def rOw (K : PySem.W.Frag) (C : Addr) (sp : Sp) (E : XK) : R2 := fun x y H Q => ∃ a dx fs t, x = .ref a ∧ H a = some (.ins C dx fs) ∧ TyX K H y t ∧ PySem.W.notFirst K C t = true ∧
  sp [x, y] H (fun v H' => (∃ b, v = .bl b) ∧ Q v H') E
theorem op_ownEq (F : FnOk X.prog X.w X.K X.mg X.base CX n f fd ps sp) (hf : PySem.W.findIn X.K (.ref C) "__eq__" = some (some (.ref f))) (hfn : PySem.W.isFn X.K (.ref f) = true)
    (hb : Binds X.K fd ps []) (hr : Room n X.A) (hx : Passes CX X E) : OpR X (compareOp .Eq) (rOw X.K C sp E) := by
  intro pins s σ H x y v u Q I rx ry ⟨a, dx, fs, t, hxa, hi, ty, nf, q⟩
  subst hxa
  cases (show v = Value.ref a from rx)
  obtain ⟨mA, om, -, -, -, -⟩ := ins_get I.hok hi
  obtain ⟨od, ia, -⟩ := om.look
  obtain ⟨m, fr⟩ := I.fr
  obtain ⟨P, kx, hp, -⟩ := kit_of I ry ty
  have hl := F.len _ _ _ _ q
  show wpAny _ _ (richCompare .Eq (.ref a) u) _ _ _
  refine PySem.W.cmp_K hr.units0 fr I.ok.mod.kin ia (kx.ty _ _ I.kIn hp) nf hf hfn ?_
  have hu : ([Value.ref a, u] ++ []).length = ps.length := hl
  refine wpAny_call (codeAny_mono (F.run X.A X.stack s H ⟨[.ref a, u], []⟩ ([.ref a, u] ++ []) [.ref a, y] _ E hr I.env0
    (hb s [.ref a, u] I.kIn hu) (.cons rfl (.cons ry .nil)) q) fun r s' hq => ?_)
  cases r with
  | error er => exact hx pins σ H s er s' I hq
  | ok fl =>
    cases fl with
    | ret u' =>
      obtain ⟨z, H', I', rz, ⟨b, hb'⟩, q'⟩ := I.after hq
      exact SlX.cmpback (P := EP X pins σ Q) rz ⟨z, H', I', rz, q'⟩
    | next => exact False.elim hq
    | brk => exact False.elim hq
    | cont => exact False.elim hq
end
end WO
namespace WO
open PySem PySem.Spec PyProof.Rows L2
/-- a class of one's own over object, with __eq__, without __ne__ -/
def neB (K : PySem.W.Frag) (C f : Addr) : Bool := match K.lookup C with
  | some ⟨.type "type", _, .cls cd, sl⟩ => (match cd.mro, sl.toList with
    | [.ref C', .type "object"], [_, _, _, _, some (.builtin _), _] => C' == C && !cd.hasDel && PySem.W.nsOkIn K cd.ns && decide (PySem.W.nsIn K cd.ns "__eq__" = some (some (.ref f))) && decide (PySem.W.nsIn K cd.ns "__ne__" = some none)
    | _, _ => false)
  | _ => false
theorem ns_fun {K : PySem.W.Frag} {h : Heap} {N : Addr} (X : K.In h) (ok : PySem.W.nsOkIn K N = true) : ∃ m, h.Ns N m ∧ ∀ x v, PySem.W.nsIn K N x = some v → m x = v := by
  unfold PySem.W.nsOkIn at ok
  split at ok
  · rename_i cls dd es ep sl hl
    refine ⟨nsFind es, ⟨_, es, ep, X _ _ hl, rfl, fun e he => ?_, fun _ => rfl⟩, fun x v hv => ?_⟩
    · obtain ⟨i, hi, e1⟩ := Array.mem_iff_getElem.mp he
      have z := (Array.all_eq_true.mp ok) i hi
      rw [e1] at z
      split at z
      · rename_i s t hk
        exact ⟨s, t, hk⟩
      · cases z
    · unfold PySem.W.nsIn at hv
      rw [hl] at hv
      dsimp only at hv
      unfold nsFind findBy
      rw [← Array.find?_toList]
      split at hv
      · rename_i e he
        rw [he]
        cases hv
        rfl
      · rename_i he
        rw [he]
        split at hv
        · cases hv
        · cases hv
          rfl
  · cases ok
theorem neB_ok {K : PySem.W.Frag} {C f x : Addr} {h : Heap} {o : Obj} (X : K.In h) (hB : neB K C f = true) (hfn : PySem.W.isFn K (.ref f) = true) (hx : h.get? x = some o) (hc : o.cls = .ref C) :
    h.OwnEqNoNe x C f "object" [.type "object"] := by
  have hfn : ((K.lookup f).map (fun o => o.cls) == some (Value.type "function")) = true := hfn
  have hfn' : ∃ of, K.lookup f = some of ∧ of.cls = .type "function" := by
    cases e : K.lookup f with
    | none => rw [e] at hfn; cases hfn
    | some of =>
      rw [e] at hfn
      have z : (some of.cls : Option Value) = some (.type "function") := eq_of_beq hfn
      exact ⟨of, rfl, Option.some.inj z⟩
  obtain ⟨of, hf, hf2⟩ := hfn'
  unfold neB at hB
  split at hB
  · rename_i dd cd sl hl
    split at hB
    · rename_i C' k0 k1 k2 k3 n k5 hm hs
      simp only [Bool.and_eq_true, beq_iff_eq, Bool.not_eq_true', decide_eq_true_eq] at hB
      obtain ⟨⟨⟨⟨rfl, hd⟩, hok⟩, he⟩, hn⟩ := hB
      obtain ⟨m, hN, hm2⟩ := ns_fun X hok
      obtain ⟨nm, bs, mro, N, q, hdct, sn, sub, ab, col, hasDel⟩ := cd
      obtain ⟨sl⟩ := sl
      dsimp only at hm hs hd hN he hn hm2
      subst hm hd hs
      exact ⟨o, of, nm, q, N, bs, hdct, sn, sub, ab, col, dd, k0, k1, k2, k3, k5, n, m, some (.builtin "object.__eq__"), hx, hc, X _ _ hl, hN, hm2 _ _ he, X _ _ hf, hf2, rfl, rfl, hm2 _ _ hn⟩
    · cases hB
  · cases hB
section
variable {X : Cx} {CX : CXT} {C f : Addr} {fd : FuncData} {ps : List Str} {sp : Sp} {E : XK} {n : Nat}
/-- both are of the class -/
def rOwN (C : Addr) (sp : Sp) (E : XK) : R2 := fun x y H Q => ∃ a dx fs b dy gs, x = .ref a ∧ H a = some (.ins C dx fs) ∧ y = .ref b ∧ H b = some (.ins C dy gs) ∧
  sp [x, y] H (fun v H' => ∃ k, v = .bl k ∧ Q (.bl !k) H') E
theorem op_ownNe (F : FnOk X.prog X.w X.K X.mg X.base CX n f fd ps sp) (hB : neB X.K C f = true) (hfn : PySem.W.isFn X.K (.ref f) = true)
    (hb : Binds X.K fd ps []) (hr : Room (n + 1) X.A) (hx : Passes CX X E) : OpR X (compareOp .NotEq) (rOwN C sp E) := by
  intro pins s σ H x y v u Q I rx ry ⟨a, dx, fs, b, dy, gs, hxa, hi, hyb, hj, q⟩
  subst hxa hyb
  cases (show v = Value.ref a from rx)
  cases (show u = Value.ref b from ry)
  obtain ⟨mA, om, -, -, -, -⟩ := ins_get I.hok hi
  obtain ⟨mB, on, -, -, -, -⟩ := ins_get I.hok hj
  have hl := F.len _ _ _ _ q
  have hu : ([Value.ref a, Value.ref b] ++ []).length = ps.length := hl
  have e0 := I.env0
  show wpAny _ _ (richCompare .NotEq (.ref a) (.ref b)) _ _ _
  refine richCompare_ne_ownEq PySem.F.cmp_object (neB_ok I.kIn hB hfn om.obj rfl) on.obj rfl hr.in1.units0 ?_
  refine wpAny_call (codeAny_mono (F.run X.A.in1 X.stack s H ⟨[.ref a, .ref b], []⟩ ([Value.ref a, Value.ref b] ++ []) [.ref a, .ref b] _ E hr.in1
    ⟨e0.frames, e0.mod, e0.bs, e0.bsz, e0.funs, e0.frf, e0.hok, e0.bare⟩
    (hb s [.ref a, .ref b] I.kIn hu) (.cons rx (.cons ry .nil)) q) fun r s' hq => ?_)
  cases r with
  | error er => exact hx pins σ H s er s' I hq
  | ok fl =>
    cases fl with
    | ret u' =>
      obtain ⟨z, H', I', rz, k, rfl, q'⟩ := I.after hq
      cases (show u' = Value.bool k from rz)
      exact ⟨k, rfl, .bl !k, H', I', rfl, q'⟩
    | next => exact False.elim hq
    | brk => exact False.elim hq
    | cont => exact False.elim hq
end
end WO
end

section
set_option Elab.async false
set_option linter.all false
set_option maxRecDepth 100000
set_option maxHeartbeats 4000000
/-! Defs that are called where no text of a thing is being made (guards = some []): so repr(thing) may be asked in them. -/
namespace WG
open PySem PySem.Spec PyProof.Rows L2
/-- as FnOk, for calls under no guard -/
structure FnG (P : Program) (w : World) (K : PySem.W.Frag) (mg : Str → Option Value) (base : Heap)
    (CX : CXT) (k : Nat) (f : Addr) (fd : FuncData) (ps : List Str) (sp : Sp) : Prop where
  len : ∀ vs H Q E, sp vs H Q E → vs.length = ps.length
  run : ∀ (A : Around) (outer : List Env) (s : Shared) (H : Hp) (args : Args) (us : List Value) (vs : List V)
    (Q : VK) (E : XK), Room k A → A.guards = some [] → Env0 P w K mg base A outer s H →
    BindsTo s fd args (ps.zip us) → Vals vs us → sp vs H Q E →
    codeAny (model P w) A (.call (.ref f) args) (CR CX outer P w H s Q E) s
section
variable {P : Program} {w : World} {K : PySem.W.Frag} {mg : Str → Option Value} {base : Heap} {CX : CXT}
variable {k : Nat} {f : Addr} {fd : FuncData} {ps : List Str} {sp : Sp}
theorem FnG.of (F : FnOk P w K mg base CX k f fd ps sp) : FnG P w K mg base CX k f fd ps sp :=
  ⟨F.len, fun A outer s H args us vs Q E hr _ e0 hb hv hs => F.run A outer s H args us vs Q E hr e0 hb hv hs⟩
theorem FnG.mono {j : Nat} (F : FnG P w K mg base CX j f fd ps sp) (h : j ≤ k) : FnG P w K mg base CX k f fd ps sp :=
  ⟨F.len, fun A outer s H args us vs Q E hr => F.run A outer s H args us vs Q E (hr.mono h)⟩
/-- a def by its body, which may ask for texts -/
theorem okG {x qual : Str} {st : Stmt} {N : List Str} (F : Fun K x qual st f fd) (S : FnScope N ps (defScope st))
    (len : ∀ vs H Q E, sp vs H Q E → vs.length = ps.length)
    (body : ∀ (cdv : Value) (A : Around) (outer : List Env) (s : Shared) (H : Hp) (vs : List V) (Q : VK) (E : XK),
      Room k (A.deeper (envOfC qual (defScope st) s.heap.objs.size f cdv)) →
      (A.deeper (envOfC qual (defScope st) s.heap.objs.size f cdv)).guards = some [] → sp vs H Q E →
      ∃ t, PSs (cxOf CX P w K mg base N qual (defScope st) f cdv A outer s H E).nox (defBody st) t ∧
        t { nx := fun _ H' => Q .non H', rt := Q } (start N vs) H) :
    FnG P w K mg base CX (k + 1) f fd ps sp := by
  obtain ⟨oc, od, kV, doc, pm, an, cdv, ct, osl, rfl, lk, hcd⟩ := F.ex
  refine ⟨len, fun A outer s H args us vs Q E hr hga e0 hb r hsp => ?_⟩
  have hl := len _ _ _ _ hsp
  have KX : K.In s.heap := e0.mod.kin.keeps
    fun b o e => (e0.bs b o e).1
  have lim : s.heap.NoLimit := e0.mod.nolimit.keeps
    fun b o e => (e0.bs b o e).1
  have hkind : ∀ y ∈ ps.zip us, (defScope st).names.lookup y.1 = some .local ∨
      ((defScope st).names.lookup y.1 = some .cell ∧
        ((cellsFrom (s.heap.objs.size + 1) (defScope st).names []).lookup y.1).isSome = true) := by
    rintro ⟨n, v⟩ hy
    rcases S.par n (List.of_mem_zip hy).1 with q | q
    · exact .inl q
    · exact .inr ⟨q, PySem.W.cellsFrom_some _ _ _ (.inl q)⟩
  refine codeAny_call_function hr.depth (KX _ _ lk) rfl S.co S.gen rfl
    (PySem.W.codeRec_of KX hcd) (hb _ _ _ _ ?_)
  refine wpAny_newFunctionEnv_cells S.kind hkind
    fun env he s1 x => ?_
  subst he
  refine ⟨lim.keeps x.toInCall.keep,
    codeAny_func ?_⟩
  obtain ⟨t, ht, hq⟩ := body cdv A outer s H vs Q E (hr.deeper _) hga hsp
  have I := inv_start (CX := CX) (E := E) S hr.hd e0 hl r x
  refine wpAny_mono (ht.nox.run [] s1 (start N vs) H _ I hq)
    (fun fl s' hs => ?_) fun e s' hs => hs
  have fin : ∀ {σ' : L2.St} {H' : Hp} {v : V} {u : Value},
      Inv (cxOf CX P w K mg base N qual (defScope st) f cdv A outer s H E) [] σ' H' s' →
      RelV v u → Q v H' → CE outer P w H s Q u s' :=
    fun J rv q => ⟨_, _, J.os, J.bare, J.base, J.hok, rv, q⟩
  cases fl with
  | ret u =>
    obtain ⟨v, σ', H', J, rv, q⟩ := hs
    exact fin J rv q
  | next =>
    obtain ⟨σ', H', J, q⟩ := hs
    exact fin (v := V.non) (u := Value.none) J rfl q
  | brk =>
    obtain ⟨_, _, _, q⟩ := hs
    exact False.elim q
  | cont =>
    obtain ⟨_, _, _, q⟩ := hs
    exact False.elim q
end
section
variable {X : Cx} {CX : CXT} {k : Nat} {f : Addr} {fd : FuncData} {ps : List Str} {sp : Sp} {E : XK} {x : Str}
variable {ds : List Value} {dvs : List V} {p pos : Pos} {e : Expr} {es : List Expr} {t : TA}
/-- f(e, ..), under no guard -/
theorem pe_callG (F : FnG X.prog X.w X.K X.mg X.base CX k f fd ps sp) (hgu : X.A.guards = some []) (hr : Room k X.A) (hg : Gl X x)
    (hm : X.mg x = some (.ref f)) (hk : PySem.W.keepIn X.K (.ref f) = true) (hb : Binds X.K fd ps ds) (hd : Vals dvs ds)
    (hx : Passes CX X E) (ha : PA X (e :: es) t) (hdb : (x == ("__debug__" : Str)) = false := by decide)
    (he : starEach (e :: es) X.env = (false, eval e X.env) :: starEach es X.env := by rfl)
    (hpl : (backTo pos (starEach es X.env)).any (·.1) = false := by rfl) :
    PE X (.Call (.Name x p) (e :: es) [] pos) (tCall sp dvs E t) := by
  refine ⟨fun pins s σ H Q I h => ?_⟩
  refine wpAny_Call_Name_kw (ld_glob I hg hm ?_ hdb)
  refine PySem.W.callWith_K (h₀ := X.base) I.ok.mod.kin hk
    (thn (ha.run pos pins s σ H _ I h) fun us s1 ⟨vs, H1, I1, r, q⟩ => ⟨I1.kIn, ?_⟩) he hpl
  have r2 : Vals (vs ++ dvs) (us ++ ds) := r.append hd
  have hl : (us ++ ds).length = ps.length := by
    rw [← r2.length]
    exact F.len _ _ _ _ q
  refine wpAny_call (codeAny_mono (F.run X.A X.stack s1 H1 ⟨us, []⟩ (us ++ ds) (vs ++ dvs) Q E hr hgu I1.env0
    (hb s1 us I1.kIn hl) r2 q) fun r s' hq => ?_)
  cases r with
  | error er => exact hx pins σ H1 s1 er s' I1 hq
  | ok fl =>
    cases fl with
    | ret u => exact I1.after hq
    | next => exact False.elim hq
    | brk => exact False.elim hq
    | cont => exact False.elim hq
/-! ### texts of things -/
/-- what stands at v reads as d -/
def Rdb (X : Cx) (H : Hp) (v : V) (d : PyData) : Prop :=
  ∀ (pins : List (Addr × Obj)) (σ : L2.St) (s : Shared), Inv X pins σ H s → ∀ u, RelV v u →
    ∃ as, Reads s.heap u d as ∧ (d.hasDict = true → sysModules ∉ as)
theorem rdb_dp {H : Hp} {v : V} {d : PyData} (h : Dp X.K H v d) (hn : d.hasDict = false) : Rdb X H v d :=
  fun pins σ s I u r => by
    obtain ⟨as, q⟩ := Dp.reads I d v u h r
    exact ⟨as, q, fun z => by rw [hn] at z; cases z⟩
/-- repr of a list or a tuple -/
def rRepr (X : Cx) : List V → Hp → VK → Prop := fun xs H Q => ∃ (a : Addr) (d : PyData), xs = [.ref a] ∧ Rdb X H (.ref a) d ∧
  d.showable = true ∧ d.depth ≤ 60 ∧ d.shown.length ≤ sizeLine ∧ Q (.str d.shown) H
theorem call_repr (hgu : X.A.guards = some []) (hu : X.A.units + 64 < cLine) : CallR X (.builtin "repr") (rRepr X) := by
  intro pins s σ H xs us Q I r h
  obtain ⟨a, d, rfl, hd, hs, hdp, hz, q⟩ := h
  obtain ⟨u, rfl, ru⟩ := vals1 r
  obtain ⟨as, rd, hm⟩ := hd pins σ s I u ru
  cases (show u = Value.ref a from ru)
  exact repr_of_reads' rd hs hm hgu (by omega) (fun _ _ z => z)
    (fun h' u' tk hk => ⟨.str d.shown, H, I.kept (t' := tk) hk, ⟨u', rfl⟩, q⟩) hz
end
end WG
end

section
set_option Elab.async false
set_option linter.all false
set_option maxRecDepth 100000
set_option maxHeartbeats 4000000
/-! Lists and tuples alike: slices, walks. -/
namespace WQ
open PySem PySem.Spec PyProof.Rows L2 RZ
def SeqA (K : PySem.W.Frag) (H : Hp) (a : Addr) (xs : List V) : Prop := SqL K H a xs ∨ SqT K H a xs
theorem SeqA.same {K : PySem.W.Frag} {H H' : Hp} {a : Addr} {xs : List V} (h : SeqA K H a xs) (s : Same H H') : SeqA K H' a xs := by
  rcases h with h | h
  · exact .inl (s.seq h)
  · exact .inr (SqT.ext h s)
theorem new_same {H : Hp} {p : Addr} {o : HO} (h : H p = none) : Same H (upd H p o) := fun b u e => by rw [upd_ne (ne_of_none e h)]; exact e
def rSlS (K : PySem.W.Frag) : V → Option Int → Option Int → Hp → VK → Prop := fun x lo hi H Q => ∃ a xs, x = .ref a ∧ SeqA K H a xs ∧
  ∀ (H' : Hp) (p : Addr), Same H H' → SeqA K H' p (cutV xs lo hi) → (∀ ys, SqT K H a ys → SqT K H' p (cutV xs lo hi)) → (∀ ys, SqL K H a ys → SqL K H' p (cutV xs lo hi)) → Q (.ref p) H'
theorem cut_whole {xs : List V} {lo hi : Option Int} (h : HT.sIx xs.length 0 lo = 0 ∧ HT.sIx xs.length xs.length hi = xs.length) : cutV xs lo hi = xs := by
  unfold cutV
  rw [h.1, h.2]
  simp
section
variable {X : Cx}
theorem not_both {pins : List (Addr × Obj)} {σ : L2.St} {H : Hp} {s : Shared} {a : Addr} {xs ys : List V} (I : Inv X pins σ H s) (h1 : SqL X.K H a xs) (h2 : SqT X.K H a ys) : False := by
  obtain ⟨its, rv, pl1, _⟩ := I.list h1
  obtain ⟨its2, rv2, pt, _⟩ := I.tuple h2
  obtain ⟨o, e1, e2, _⟩ := pt
  obtain ⟨o', e1', e2', _⟩ := pl1.isList
  rw [e1] at e1'
  cases e1'
  rw [e2] at e2'
  exact absurd (Value.type.inj e2') (by decide)
theorem sl_seqB : SlR X (rSlS X.K) := by
  intro pins s σ H x v vl vu lo hi sl Q I rx hs pl pu h
  obtain ⟨a, xs, rfl, hx, q⟩ := h
  rcases hx with hx | hx
  · exact sl_list pins s σ H _ v vl vu lo hi sl Q I rx hs pl pu ⟨a, xs, rfl, hx, fun p hp => q _ p (new_same hp) (.inl (SqL.of upd_same)) (fun ys hy => (not_both I hx hy).elim) fun _ _ => SqL.of upd_same⟩
  · refine sl_tupA pins s σ H _ v vl vu lo hi sl Q I rx hs pl pu ⟨a, xs, rfl, hx, fun w => ?_, fun _ p hp => q _ p (new_same hp) (.inr (SqT.of upd_same)) (fun _ _ => SqT.of upd_same) fun ys hy => (not_both I hy hx).elim⟩
    have e := cut_whole w
    exact q H a (fun _ _ z => z) (by rw [e]; exact .inr hx) (fun _ _ => by rw [e]; exact hx) fun _ hy => (not_both I hy hx).elim
end
/-! ### walks -/
/-- a list stays a list, a tuple a tuple -/
def KeepS (K : PySem.W.Frag) (H H' : Hp) (a : Addr) (xs : List V) : Prop := (SqL K H a xs → SqL K H' a xs) ∧ (SqT K H a xs → SqT K H' a xs)
theorem KeepS.of {K : PySem.W.Frag} {H H' : Hp} (s : Same H H') (a : Addr) (xs : List V) : KeepS K H H' a xs := ⟨fun h => s.seq h, fun h => SqT.ext h s⟩
/-- behind the making of a list that is changed later on -/
theorem KeepS.past {K : PySem.W.Frag} {H1 H2 H3 : Hp} {l : Addr} {o : HO} (g : upd H1 l o = H2) (s : Same H1 H3) {a : Addr} {xs : List V} (h1 : o ≠ .lst xs) (h2 : o ≠ .tup xs) (h3 : ∀ ob u, o ≠ .frz ob u) : KeepS K H2 H3 a xs := by
  subst g
  have ne : ∀ {b u}, upd H1 l o b = some u → o ≠ u → H3 b = some u := fun {b u} e n => by
    have nb : b ≠ l := fun z => by
      rw [z, upd_same] at e
      exact n (Option.some.inj e)
    rw [upd_ne nb] at e
    exact s _ _ e
  constructor
  · rintro ((h | ⟨ob, h⟩) | h)
    · exact .inl (.inl (ne h h1))
    · exact .inl (.inr ⟨ob, ne h (h3 _ _)⟩)
    · exact .inr h
  · rintro ((h | ⟨ob, h⟩) | h)
    · exact .inl (.inl (ne h h2))
    · exact .inl (.inr ⟨ob, ne h (h3 _ _)⟩)
    · exact .inr h
/-- a list's or a tuple's walk, alike -/
def iSeq (K : PySem.W.Frag) (tl : TE) : TI := fun σ H R => tl σ H fun x H1 => ∃ a xs, x = .ref a ∧ SeqA K H1 a xs ∧
  ∀ (J : It) (G : Hp → Prop), Walk J xs.length G (YAt xs) → (∀ H', KeepS K H1 H' a xs → G H') → R J H1
section
variable {X : Cx} {tg : Expr}
theorem pi_seq {l : Expr} {tl : TE} (hl : PE X l tl) : PI X tg l (iSeq X.K tl) := by
  refine ⟨fun pins s σ H R I h => thn (hl.run pins s σ H _ I h) fun v s1 ⟨x, H1, I1, r1, a, xs, e, hq, q⟩ => ?_⟩
  subst e
  cases r1
  have one : ∀ b ∈ [s1.heap.objs.size], FpOk X pins H1 b := by
    intro b hb
    obtain rfl : b = s1.heap.objs.size := by simpa using hb
    exact I1.fpOk (Nat.le_refl _) (I1.hok.fresh (Nat.le_refl _))
  rcases hq with hq | hq
  · obtain ⟨its, rv, p, hz⟩ := I1.list hq
    exact wpAny_pyIter_list p.isList ⟨_, [_], _, _, H1, rfl, I1.kept (t' := s1.toks) fun b o e => Heap.get?_push_of_some _ e, turn_list a _, ⟨_, Heap.get?_push_size _ rfl, rfl, rfl⟩, one, q _ _ walk_list fun H' s => s.1 hq⟩
  · obtain ⟨its, rv, p, hz⟩ := I1.tuple hq
    exact wpAny_pyIter_tuple (show s1.heap.IsTuple a its.toArray from p) ⟨_, [_], _, _, H1, rfl, I1.kept (t' := s1.toks) fun b o e => Heap.get?_push_of_some _ e, turn_tuple a _, ⟨_, Heap.get?_push_size _ rfl, rfl, rfl⟩, one, q _ _ walk_tup fun H' s => s.2 hq⟩
end
theorem walk_zipT {K : PySem.W.Frag} {a b : Addr} {xs ys : List V} {n : Nat} (hn : n = min xs.length ys.length) : Walk (ItzT K a b) n (fun H => SqT K H a xs ∧ SqT K H b ys) (YPair (fun i => xs[i]?) (fun i => ys[i]?)) where
  goes := fun i H hi ⟨h1, h2⟩ => ⟨xs, ys, xs[i]'(by omega), ys[i]'(by omega), h1, h2, List.getElem?_eq_getElem _, List.getElem?_eq_getElem _⟩
  stops := fun H ⟨h1, h2⟩ => ⟨xs, ys, h1, h2, by omega⟩
  yields := fun i H x H' hi ⟨h1, h2⟩ ⟨T, x1, y1, e1, e2, e3, e4, e5⟩ => ⟨T, x1, y1, e1, e2, e3, e4 _ h1, e5 _ h2⟩
/-- two lists, or two tuples -/
def SeqP (K : PySem.W.Frag) (H : Hp) (a : Addr) (xs : List V) (b : Addr) (ys : List V) : Prop := (SqL K H a xs ∧ SqL K H b ys) ∨ (SqT K H a xs ∧ SqT K H b ys)
theorem SeqP.same {K : PySem.W.Frag} {H H' : Hp} {a b : Addr} {xs ys : List V} (h : SeqP K H a xs b ys) (s : Same H H') : SeqP K H' a xs b ys := by
  rcases h with ⟨h1, h2⟩ | ⟨h1, h2⟩
  · exact .inl ⟨s.seq h1, s.seq h2⟩
  · exact .inr ⟨SqT.ext h1 s, SqT.ext h2 s⟩
theorem SeqP.l {K : PySem.W.Frag} {H : Hp} {a b : Addr} {xs ys : List V} (h : SeqP K H a xs b ys) : SeqA K H a xs := by
  rcases h with ⟨h1, h2⟩ | ⟨h1, h2⟩
  · exact .inl h1
  · exact .inr h1
theorem SeqP.r {K : PySem.W.Frag} {H : Hp} {a b : Addr} {xs ys : List V} (h : SeqP K H a xs b ys) : SeqA K H b ys := by
  rcases h with ⟨h1, h2⟩ | ⟨h1, h2⟩
  · exact .inl h2
  · exact .inr h2
theorem SeqP.swap {K : PySem.W.Frag} {H : Hp} {a b : Addr} {xs ys : List V} (h : SeqP K H a xs b ys) : SeqP K H b ys a xs := by
  rcases h with ⟨h1, h2⟩ | ⟨h1, h2⟩
  · exact .inl ⟨h2, h1⟩
  · exact .inr ⟨h2, h1⟩
def iZipS (K : PySem.W.Frag) (ta : TA) : TI := fun σ H R => ta σ H fun vs H1 => ∃ a b xs ys, vs = [.ref a, .ref b] ∧ SeqP K H1 a xs b ys ∧
  ∀ (J : It) (G : Hp → Prop), Walk J (min xs.length ys.length) G (YPair (fun i => xs[i]?) (fun i => ys[i]?)) → (∀ H', KeepS K H1 H' a xs → KeepS K H1 H' b ys → G H') → R J H1
theorem pi_zipS {X : Cx} {e e2 : Expr} {ta : TA} {p pos tpos : Pos} {elts : List Expr} {kk : Nat} (hg : Gl X "zip") (hm : X.mg "zip" = none) (ha : PA X [e, e2] ta)
    (h1 : starEach [e, e2] X.env = (false, eval e X.env) :: starEach [e2] X.env := by rfl) (h2 : (backTo pos (starEach [e2] X.env)).any (·.1) = false := by rfl) :
    PI X (.Tuple elts kk tpos) (.Call (.Name "zip" p) [e, e2] [] pos) (iZipS X.K ta) := by
  refine ⟨fun pins s σ H R I h => Call_ (ld_blt I hg hm PyProof.Rows.boot_zip (PyProof.Rows.callWith_type1 (thn (ha.run pos pins s σ H _ I h) fun us s1 ⟨vs, H1, I1, r1, a, b, xs, ys, ex, hq, q⟩ => ?_) h1 h2))⟩
  subst ex
  cases r1 with
  | cons r rr =>
    cases rr with
    | cons r' rr =>
      cases rr
      cases r
      cases r'
      have five : ∀ c ∈ [s1.heap.objs.size + 4, s1.heap.objs.size + 2, s1.heap.objs.size + 3, s1.heap.objs.size, s1.heap.objs.size + 1], FpOk X pins H1 c := by
        intro c hc
        have le : s1.heap.objs.size ≤ c := by
          simp only [List.mem_cons, List.not_mem_nil, or_false] at hc
          rcases hc with z | z | z | z | z <;> rw [z] <;> first | exact Nat.le_add_right _ _ | exact Nat.le_refl _
        exact I1.fpOk le (I1.hok.fresh le)
      rcases hq with ⟨qx, qy⟩ | ⟨qx, qy⟩
      · obtain ⟨_, _, p1, _⟩ := I1.list qx
        obtain ⟨_, _, p2, _⟩ := I1.list qy
        refine call_zip_2 p1.isList p2.isList fun g hz hTI hTO i1 i2 _ hk => wpAny_pyIter_zip hz ?_
        exact ⟨_, [_, _, _, _, _], _, _, H1, rfl, I1.kept (t' := s1.toks) hk, turn_zip (PySem.W.ktu_apart s1.heap.objs.size a b p1.lt p2.lt), ⟨hz, hTI, ⟨_, _, hTO⟩, i1, i2⟩, five, q _ _ (walk_zip rfl) fun H' s t => ⟨s.1 qx, t.1 qy⟩⟩
      · obtain ⟨its1, _, p1, _⟩ := I1.tuple qx
        obtain ⟨its2, _, p2, _⟩ := I1.tuple qy
        obtain ⟨_, l1, _⟩ := id p1
        obtain ⟨_, l2, _⟩ := id p2
        refine call_zipT (show s1.heap.IsTuple a its1.toArray from p1) (show s1.heap.IsTuple b its2.toArray from p2) fun g hz hTI hTO i1 i2 _ hk => wpAny_pyIter_zip hz ?_
        exact ⟨_, [_, _, _, _, _], _, _, H1, rfl, I1.kept (t' := s1.toks) hk, turn_zipT (PySem.W.ktu_apart s1.heap.objs.size a b (Heap.lt_size l1) (Heap.lt_size l2)), ⟨hz, hTI, ⟨_, _, hTO⟩, i1, i2⟩, five,
          q _ _ (walk_zipT rfl) fun H' s t => ⟨s.2 qx, t.2 qy⟩⟩
/-! ### enumerate of a list or a tuple -/
def IteT (K : PySem.W.Frag) (a : Addr) (n : Nat) : It :=
  ⟨fun i H => ∃ (xs : List V) (x : V), SqT K H a xs ∧ xs.length = n ∧ xs[i]? = some x,
   fun i H v H' => ∃ T x, v = .ref T ∧ H T = none ∧ H' = upd H T (.tup [.int (i : Nat), x]) ∧ ∀ xs, SqT K H a xs → xs[i]? = some x,
   fun i H => ∃ xs : List V, SqT K H a xs ∧ xs.length = n ∧ n ≤ i⟩
theorem turn_enumT {P : Program} {w : World} {K : PySem.W.Frag} {elts : List Expr} {kk : Nat} {tpos : Pos} (a e it : Addr) (n : Nat) (hea : e ≠ a) (hia : a ≠ it) :
    Turn P w K (.Tuple elts kk tpos) (IteT K a n) [e, it] e (fun i h => ((∃ old, IsEnum h e it ((i : Nat) : Int) old) ∧ h.IsTupleIter it a i ∧ e ≠ it) ∧ i ≤ n) where
  mem := by simp
  obj := by
    rintro i h ⟨⟨⟨old, he⟩, ⟨o, ho, hc, hd⟩, _⟩, _⟩ b hb
    rcases (show b = e ∨ b = it by simpa using hb) with rfl | rfl
    · exact ⟨_, he, fun v q => nomatch q⟩
    · exact ⟨o, ho, fun v q => by rw [hd] at q; cases q⟩
  keep := by
    rintro i h h' ⟨⟨⟨old, he⟩, hi, hne⟩, hn⟩ k
    exact ⟨⟨⟨old, k e (by simp) _ he⟩, hi.at fun o q => k it (by simp) o q, hne⟩, hn⟩
  item := by
    rintro X rfl rfl rfl hc i pins s σ H E I hf ⟨⟨⟨old, he⟩, hit, hne⟩, hni⟩ ⟨xs, x, hq, hxn, hx⟩
    obtain ⟨its, rv, p, hz⟩ := I.tuple hq
    obtain ⟨u, hu, ru⟩ := rv.get hx
    have hel : e < s.heap.objs.size := Heap.lt_size he
    have hil : it < s.heap.objs.size := by obtain ⟨_, q, _⟩ := hit; exact Heap.lt_size q
    have pT : s.heap.IsTuple a its.toArray := p
    have il : i < its.toArray.size := by
      have := (List.getElem?_eq_some_iff.mp hu).1
      simpa using this
    refine wpAny_pyNext_enum_itemC (Draws.tuple (prog := X.prog) (w := X.w) (A := X.A.in1) (show X.A.in1.handled = none from I.ok.hd hc) it a hia its.toArray) he ⟨hit, pT⟩ il hne (by simp [hne, hea]) fun y h1 tk hy ho hst hT hsz hk => ?_
    have ey : y = u := by
      have hy' : its.toArray[i]? = some y := hy
      rw [List.getElem?_toArray, hu] at hy'
      exact (Option.some.inj hy').symm
    subst ey
    refine ⟨_, rfl, wpAny_letOwnedTupleGo_enum (s := { s with heap := h1, toks := tk + 1 }) ho fun h2 he2 sb => ?_⟩
    have hT2 : h2.get? s.heap.objs.size = some { cls := .type "tuple", data := .seq #[.int i tk, y] } := (sb.2 _ (Nat.ne_of_gt hel)).trans hT
    have new : ObjOk X.prog X.w (upd H s.heap.objs.size (.tup [.int (i : Nat), x])) h2 s.heap.objs.size (.tup [.int (i : Nat), x]) :=
      ⟨by show 2 ≤ sizeLine; decide, [.int i tk, y], .cons ⟨_, rfl⟩ (.cons ru .nil), ⟨_, hT2, rfl, _, rfl⟩⟩
    have I1 : Inv X pins σ (upd H s.heap.objs.size (.tup [.int (i : Nat), x])) { s with heap := h2, toks := tk + 1 } :=
      I.turnedNew (ch := [e, it]) (fun b ob hb q => (sb.2 b (fun z => hb (by simp [z]))).trans (hk b ob (fun z => hb (by simp [z])) (fun z => hb (by simp [z])) q)) hf (Nat.le_refl _) new
    refine ⟨.ref s.heap.objs.size, _, I1, rfl, ⟨_, x, rfl, I.hok.fresh (Nat.le_refl _), rfl, fun ys hy => by rw [I.tuple_inj hy hq]; exact hx⟩, ⟨⟨⟨y, ?_⟩, hst.1.at fun o q => (sb.2 it (Ne.symm hne)).trans q, hne⟩, ?_⟩, fun b hb => ?_⟩
    · rw [show ((i + 1 : Nat) : Int) = (i : Int) + 1 by omega]
      exact he2
    · have := (List.getElem?_eq_some_iff.mp hx).1
      omega
    · have lt : b < s.heap.objs.size := by
        rcases (show b = e ∨ b = it by simpa using hb) with rfl | rfl
        · exact hel
        · exact hil
      rw [upd_ne (Nat.ne_of_lt lt)]
      exact (hf b hb).1
  done := by
    rintro X rfl rfl rfl hc i pins s σ H E I hf ⟨⟨⟨old, he⟩, hit, hne⟩, hni⟩ ⟨xs, hq, hxn, hx⟩
    obtain ⟨its, rv, p, hz⟩ := I.tuple hq
    obtain ⟨f0, f1, f2, f3, f4, f5⟩ := hf it (by simp)
    have pT : s.heap.IsTuple a its.toArray := p
    have hl := rv.length
    have ei : i = its.toArray.size := by rw [List.size_toArray]; omega
    rw [ei] at hit
    exact wpAny_pyNext_enum_endD (Draws.tuple (prog := X.prog) (w := X.w) (A := X.A.in1) (show X.A.in1.handled = none from I.ok.hd hc) it a hia its.toArray) he ⟨hit, pT⟩
      fun h1 eb => ⟨rfl, I.turned (t' := s.toks) (fun b o hb q => eb b o hb q) f0 f1 f3 f4 f5⟩
  self := fun A i s Q E st h => let ⟨⟨⟨_, he⟩, _⟩, _⟩ := st; wpAny_pyIter_enum he h
theorem new_enumT (t : Addr) (items : Array Value) :
    Meets (Builtin.«enumerate.__new__» ⟨[.type "enumerate", .ref t], []⟩) (fun _ R s => s.heap.IsTuple t items ∧
      R (.ok (.ret (.ref (s.heap.objs.size + 1)))) { s with heap := (s.heap.push { cls := .type "tuple_iterator", data := .fields #[.ref t, .int 0 0] }).push { cls := .type "enumerate", data := .fields #[.none, .bool false, .ref s.heap.objs.size, rawInt 0, .none, .none] } }) :=
  .of_wp fun prog w A R s h => by
    obtain ⟨hp, g, d, tk, os⟩ := s
    obtain ⟨hl, h⟩ := h
    have e1 : (hp.push { cls := .type "tuple_iterator", data := .fields #[.ref t, .int 0 0] }).objs.size = hp.objs.size + 1 := Heap.size_push ..
    rw [← e1] at h
    have hsub := sub_enumerate
    obtain ⟨o, ho, ho2⟩ := id hl
    wp_walk using AutoSeq1.wpAny_loadPart' ho
    refine wpAny_stack_any fun st => wpAny_pure ?_
    split
    · rename_i c _ _ _ _ _
      cases (c == Value.type "enumerate")
      · wp_walk using wpAny_pyIter_tuple hl
        exact ⟨_, rfl, h⟩
      · wp_walk using wpAny_pyIter_tuple hl
        exact ⟨_, rfl, h⟩
    · wp_walk using wpAny_pyIter_tuple hl
      exact ⟨_, rfl, h⟩
theorem call_enumT {prog : Program} {w : World} {A : Around} {E : Value → Shared → Prop} {s : Shared} {t : Addr} {items : Array Value} {Q : Value → Shared → Prop} (hL : s.heap.IsTuple t items)
    (h : ∀ h', IsEnum h' (s.heap.objs.size + 1) s.heap.objs.size 0 .none → h'.IsTupleIter s.heap.objs.size t 0 → (∀ b o, s.heap.get? b = some o → h'.get? b = some o) → Q (.ref (s.heap.objs.size + 1)) { s with heap := h' }) :
    wpAny (model prog w) A (call (.type "enumerate") [.ref t]) Q E s := by
  refine callType_new F.called_enumerate (by decide) (F.typeCall_enumerate_1 _) (F.newCall_enumerate_1 _) (fun obj => F.args_object_init_2 obj _) F.entry_enumerate_new (new_enumT t items) ⟨hL, ?_⟩
  have e1 : (s.heap.push { cls := .type "tuple_iterator", data := .fields #[.ref t, .int 0 0] }).objs.size = s.heap.objs.size + 1 := Heap.size_push ..
  have he : IsEnum ((s.heap.push { cls := .type "tuple_iterator", data := .fields #[.ref t, .int 0 0] }).push { cls := .type "enumerate", data := .fields #[.none, .bool false, .ref s.heap.objs.size, rawInt 0, .none, .none] })
      (s.heap.objs.size + 1) s.heap.objs.size 0 .none := by
    have z := Heap.get?_push_size (s.heap.push { cls := .type "tuple_iterator", data := .fields #[.ref t, .int 0 0] }) (o := { cls := .type "enumerate", data := .fields #[.none, .bool false, .ref s.heap.objs.size, rawInt 0, .none, .none] }) rfl
    rw [e1] at z
    exact z
  exact ⟨⟨_, he, rfl⟩, h _ he ⟨_, Heap.get?_push_of_some _ (Heap.get?_push_size _ rfl), rfl, rfl⟩ fun b o x => Heap.get?_push_of_some _ (Heap.get?_push_of_some _ x)⟩
theorem walk_enumT {K : PySem.W.Frag} {a : Addr} {xs : List V} : Walk (IteT K a xs.length) xs.length (fun H => SqT K H a xs) (YPair (fun i => some (.int (i : Nat))) (fun i => xs[i]?)) := by
  refine ⟨fun i _ hi q => ⟨xs, xs[i], q, rfl, by simp [hi]⟩, fun _ q => ⟨xs, q, rfl, Nat.le_refl _⟩, fun i H v H' _ q y => ?_⟩
  obtain ⟨T, x, h1, h2, h3, h4⟩ := y
  exact ⟨T, .int (i : Nat), x, h1, h2, h3, rfl, h4 xs q⟩
def iEnumS (K : PySem.W.Frag) (ta : TA) : TI := fun σ H R => ta σ H fun vs H1 => ∃ a xs, vs = [.ref a] ∧ SeqA K H1 a xs ∧
  ∀ (J : It) (G : Hp → Prop), Walk J xs.length G (YPair (fun i => some (.int (i : Nat))) (fun i => xs[i]?)) → (∀ H', KeepS K H1 H' a xs → G H') → R J H1
theorem pi_enumS {X : Cx} {e : Expr} {ta : TA} {p pos tpos : Pos} {elts : List Expr} {kk : Nat} (hg : Gl X "enumerate") (hm : X.mg "enumerate" = none) (ha : PA X [e] ta) (hs : starEach [e] X.env = [(false, eval e X.env)] := by rfl) :
    PI X (.Tuple elts kk tpos) (.Call (.Name "enumerate" p) [e] [] pos) (iEnumS X.K ta) := by
  refine ⟨fun pins s σ H R I h => ?_⟩
  refine Call_ (ld_blt I hg hm boot_enumerate (PyProof.Rows.callWith_type1 (thn (ha.run pos pins s σ H _ I h) fun us s1 ⟨vs, H1, I1, r1, a, xs, ex, hq, q⟩ => ?_) hs rfl))
  subst ex
  cases r1 with
  | cons r rr =>
    cases rr
    cases r
    have two : ∀ b ∈ [s1.heap.objs.size + 1, s1.heap.objs.size], FpOk X pins H1 b := by
      intro b hb
      have le : s1.heap.objs.size ≤ b := by
        rcases (show b = s1.heap.objs.size + 1 ∨ b = s1.heap.objs.size by simpa using hb) with z | z
        · rw [z]; exact Nat.le_succ _
        · rw [z]; exact Nat.le_refl _
      exact I1.fpOk le (I1.hok.fresh le)
    rcases hq with hq | hq
    · obtain ⟨its, rv, p', hz⟩ := I1.list hq
      refine call_enumerate_list p'.isList fun h' he hit hsz hk => wpAny_pyIter_enum he ?_
      exact ⟨s1.heap.objs.size + 1, [_, _], _, _, H1, rfl, I1.kept (t' := s1.toks) hk, turn_enum a (s1.heap.objs.size + 1) s1.heap.objs.size, ⟨⟨.none, he⟩, hit, Nat.succ_ne_self _⟩, two, q _ _ walk_enum fun H' s => s.1 hq⟩
    · obtain ⟨its, rv, p', hz⟩ := I1.tuple hq
      have pT : s1.heap.IsTuple a its.toArray := p'
      obtain ⟨o, ho, _⟩ := id pT
      have lt := Heap.lt_size ho
      refine call_enumT pT fun h' he hit hk => wpAny_pyIter_enum he ?_
      exact ⟨s1.heap.objs.size + 1, [_, _], _, _, H1, rfl, I1.kept (t' := s1.toks) hk, turn_enumT a (s1.heap.objs.size + 1) s1.heap.objs.size xs.length (Nat.ne_of_gt (Nat.lt_succ_of_lt lt)) (Nat.ne_of_lt lt),
        ⟨⟨⟨.none, he⟩, hit, Nat.succ_ne_self _⟩, Nat.zero_le _⟩, two, q _ _ walk_enumT fun H' s => s.2 hq⟩
end WQ
end

section
set_option Elab.async false
set_option linter.all false
set_option maxRecDepth 100000
set_option maxHeartbeats 4000000
/-! Errors that are caught, kept under a name and looked at behind the except suite. -/
namespace WT
open PySem PySem.Spec PyProof.Rows L2
/-- an error that was caught: its class, its own dict -/
def Caught (cls : Value) (d : Option Addr) (a : Addr) : HO := .ext fun h => ∃ (oe : Obj) (vs : Array Value), h.get? a = some oe ∧ Zc cls d oe ∧ oe.data = .fields vs
theorem caught_ok {P : Program} {w : World} {H : Hp} {h : Heap} {a : Addr} {cls : Value} {d : Option Addr} {oe : Obj} {vs : Array Value} (e : h.get? a = some oe) (z : Zc cls d oe) (k : oe.data = .fields vs) :
    ObjOk P w H h a (Caught cls d a) :=
  ⟨⟨oe, vs, e, z, k⟩, ⟨oe, e⟩, fun h1 h2 ⟨o, us, e1, z1, k1⟩ st => ⟨o, us, st _ e1, z1, k1⟩⟩
theorem upd_keep {H : Hp} {a b : Addr} {o u : HO} (na : H a = none) (e : H b = some u) : upd H a o b = some u := by
  rw [upd_ne (ne_of_none e na)]
  exact e
section
variable {X : Cx} {pins : List (Addr × Obj)} {σ : L2.St} {H : Hp} {s : Shared}
/-- an error's object, new since the entry, is tracked from now on -/
theorem track {a : Addr} {cls : Value} {d : Option Addr} {oe : Obj} {vs : Array Value} (I : Inv X pins σ H s) (n0 : X.s_0.heap.get? a = none)
    (e : s.heap.get? a = some oe) (z : Zc cls d oe) (k : oe.data = .fields vs) (na : H a = none) (nL : a ≠ X.env.locals) (np : ∀ p ∈ X.pn ++ pins, p.1 ≠ a) :
    Inv X pins σ (upd H a (Caught cls d a)) s where
  ok := I.ok
  os := I.os
  bare := I.bare
  base := {
    keep := I.base.keep
    slot := I.base.slot
    free := fun b o q n m => by
      have hb : b ≠ a := fun h => by rw [h, n0] at q; cases q
      rw [upd_ne hb]
      exact I.base.free b o q n m
    there := I.base.there
    tups := fun b xs q => upd_keep na (I.base.tups b xs q)
    frzs := fun b o u q => upd_keep na (I.base.frzs b o u q)
    tbls := fun b ps q => by
      obtain ⟨more, m⟩ := I.base.tbls b ps q
      exact ⟨more, upd_keep na m⟩ }
  loc := I.loc
  cell := I.cell
  free := by
    rw [upd_ne (Ne.symm nL)]
    exact I.free
  freeC := fun x c q => by
    have hc : c ≠ a := fun h => by
      obtain ⟨v, o, ho, hd⟩ := I.cell x c q
      rw [h, e] at ho
      cases ho
      rw [k] at hd
      cases hd
    rw [upd_ne hc]
    exact I.freeC x c q
  pin := fun p hp => by
    obtain ⟨p1, p2, p3, p4, p5⟩ := I.pin p hp
    exact ⟨p1, by rw [upd_ne (np p hp)]; exact p2, p3, p4, p5⟩
  hok := fun b o q => by
    by_cases hb : b = a
    · subst hb
      rw [upd_same] at q
      cases q
      exact caught_ok e z k
    · rw [upd_ne hb] at q
      exact (I.hok b o q).stay (fun c v _ r => r) (fun c r => upd_keep na r) fun c xs r => upd_keep na r
  len := I.len
/-- into an except suite, nothing pinned -/
theorem toSuite (I : Inv X pins σ H s) (a : Addr) : Inv (X.suite a (X.pn ++ pins)) [] σ H s :=
  ⟨I.ok.suite a _, I.os, I.bare, I.base, I.loc, I.cell, I.free, I.freeC, fun p hp => I.pin p (by rwa [List.append_nil] at hp), I.hok, I.len⟩
theorem ofSuite {a : Addr} {pn' : List (Addr × Obj)} (I : Inv (X.suite a (X.pn ++ pins)) pn' σ H s) (ok : X.Ok) : Inv X pins σ H s :=
  ⟨ok, I.os, I.bare, I.base, I.loc, I.cell, I.free, I.freeC, fun p hp => I.pin p (List.mem_append_left _ hp), I.hok, I.len⟩
end
/-- what is wished of an error of the body: the clause takes it, and its suite runs with the error tracked -/
def goneE (i : Nat) (D : Ends) : Ends :=
  { nx := fun σ H => D.nx (σ.set i none) H, rt := D.rt, bk := fun σ H => D.bk (σ.set i none) H, ct := fun σ H => D.ct (σ.set i none) H }
def wErr (K : PySem.W.Frag) (c : Value) (n i : Nat) (ts : TS) (D : Ends) : WX := fun cls d σ H =>
  PySem.W.exmOne K cls c = some true ∧ (σ.length = n → ∀ a, H a = none → ts (goneE i D) (σ.set i (some (.ref a))) (upd H a (Caught cls d a)))
section
variable {X : Cx} {x n : Str} {c : Value} {i : Nat} {body suite : List Stmt} {b0 : Stmt} {np q1 q2 : Pos} {tb : WX → TS} {ts : TS}
/-- try: body, except x as n: suite; every error of the body is of x -/
theorem ps_try_err (hs : X.stack = X.env :: X.outer) (hf : X.env.frame = some X.env.locals) (hx : X.ex = []) (hN : X.N.Nodup) (hi : X.N[i]? = some n)
    (hln : X.env.kindOf n = some .local) (hc : Names X x c)
    (hb : ∀ (W : WX) (pn : List (Addr × Obj)) (xe : Value → Shared → Prop), Takes (X.tr pn xe) W → PSs (X.tr pn xe) body (tb W))
    (hsu : ∀ (a : Addr) (pn : List (Addr × Obj)), PSs (X.suite a pn) (b0 :: suite) ts) :
    PS X (.Try body [.ExceptHandler (some (.Name x np)) (some n) (b0 :: suite) q2] [] [] q1) (fun D σ H => tb (wErr X.K c X.N.length i ts D) D σ H) := by
  refine ⟨fun pins s σ H D I h => ?_⟩
  have ok := I.ok
  have hfr : X.A.frames = some (X.env :: X.outer) := ok.frames.trans (congrArg some hs)
  refine wpAny_Try_except ?_
  refine wpAny_mono ((hb (wErr X.K c X.N.length i ts D) (X.pn ++ pins)
    (fun e t1 => wpAny (model X.prog X.w) X.A (noteFrame e X.env)
      (fun _ t2 => wpAny (model X.prog X.w) X.A (setFlight e none)
        (fun _ t3 => wpAny (model X.prog X.w) X.A (handleBy e X.env [.ExceptHandler (some (.Name x np)) (some n) (b0 :: suite) q2]) (SP X pins D) X.xe t3)
        X.xe t2) X.xe t1) (fun u t xx => ?_)).run [] s σ H D (I.toTry _) h) (fun f t hsp => ?_) (fun _ _ z => z)
  · obtain ⟨a, B, sI, pins', σ', H', cls, d, rfl, J0, nb, up, sky, na, os, ag, hb1, hyes⟩ := xx
    have J : Inv X pins σ' H' sI := J0.ofTry ok
    have sky1 : Sky B (X.env :: X.outer) a (Zc cls d) X.env.locals t.heap := hs ▸ sky
    show wpAny (model X.prog X.w) X.A (noteFrame (.ref a) X.env) _ _ _
    refine Sky.land Zc.steady hfr hf sky1 fun g3 fl3 up3 => ?_
    have J3 : Inv X pins σ' H' { t with heap := g3 } := J.landed nb fl3.1 (up.trans up3) os ag
    obtain ⟨oe3, vs3, he3, hz3, hd3⟩ := fl3.there
    have far : a ∉ frs (X.env :: X.outer) := fun hm => by
      obtain ⟨_, o1, e1, nf⟩ := fl3.2.2.1.mem hm
      rw [he3] at e1
      cases e1
      exact nf _ hd3
    have nL : a ≠ X.env.locals := fun z => far (List.mem_filterMap.mpr ⟨X.env, List.mem_cons_self, by rw [hf, z]⟩)
    have nI : sI.heap.get? a = none := by
      cases q : sI.heap.get? a with
      | none => rfl
      | some o =>
        have z := nb a o q (hs ▸ far)
        rw [fl3.2.1] at z
        cases z
    have n0 : X.s_0.heap.get? a = none := by
      cases q : X.s_0.heap.get? a with
      | none => rfl
      | some o =>
        obtain ⟨o1, z⟩ := J.base.there a o q (by rw [hx]; simp)
        rw [nI] at z
        cases z
    have npin : ∀ p ∈ X.pn ++ pins, p.1 ≠ a := fun p hp z => by
      have w := (J.pin p hp).1
      rw [z, nI] at w
      cases w
    have S3 := toSuite J3 a
    refine wpAny_handleBy_cons (codeAny_handlers_test ?_) (by intro q; cases q)
    have LT : PySem.W.Looks (model X.prog X.w) g3 (typeOf (.ref a)) cls := fun A Q E s1 k q => wpAny_typeOf_ref (k _ _ he3) (by rw [hz3.1]; exact q)
    have LM := PySem.W.exm_one (M := model X.prog X.w) (J3.kIn) LT hb1
    have test : ∀ {Q : Value → Shared → Prop} {E : Value → Shared → Prop}, Q c { t with heap := g3 } →
        wpAny (model X.prog X.w) (X.A.mark (some (.ref a))) (eval (.Name x np) X.env) Q E { t with heap := g3 } := by
      intro Q E q
      obtain ⟨hg, hdbg, hm | ⟨hm, hv, hnn⟩⟩ := hc
      · exact ld_glob (X := X.suite a (X.pn ++ pins)) S3 hg hm q hdbg
      · exact ld_blt (X := X.suite a (X.pn ++ pins)) S3 hg hm hv q hnn hdbg
    refine test (LM.here ?_)
    refine codeAny_handlers_suite_as ?_
    refine HandSPX.lands_againZ fl3 fun g4 fl4 up4 => ?_
    have J4 : Inv X pins σ' H' { t with heap := g4 } := J.landed nb fl4.1 ((up.trans up3).trans up4) os ag
    obtain ⟨oe4, vs4, he4, hz4, hd4⟩ := fl4.there
    have S4 := toSuite (track J4 n0 he4 hz4 hd4 na nL npin) a
    refine store_ok (X := X.suite a (X.pn ++ pins)) (v := .ref a) S4 hN hi (.inl hln) rfl (fun s5 S5 => ?_) (.inr hln)
    refine wpAny_mono ((hsu a (X.pn ++ pins)).run [] s5 _ _ _ S5 (hyes J.len a na)) (fun f s6 hsp => ?_) (fun _ _ z => False.elim z)
    have fin : ∀ {σ6 : L2.St} {H6 : Hp} {Q : Shared → Prop}, Inv (X.suite a (X.pn ++ pins)) [] σ6 H6 s6 → (∀ s7, Inv X pins (σ6.set i none) H6 s7 → Q s7) →
        wpAny (model X.prog X.w) X.A (do bindName X.env n .none; unbindBehindTheSuite X.env n q2) (fun _ s7 => Q s7) X.xe s6 :=
      fun S6 hq => gone_ok (ofSuite S6 ok) hN hi hln hq
    cases f with
    | next =>
      obtain ⟨σ6, H6, S6, r6⟩ := hsp
      exact fin S6 fun s7 J7 => ⟨_, _, J7, r6⟩
    | brk =>
      obtain ⟨σ6, H6, S6, r6⟩ := hsp
      exact fin S6 fun s7 J7 => ⟨_, _, J7, r6⟩
    | cont =>
      obtain ⟨σ6, H6, S6, r6⟩ := hsp
      exact fin S6 fun s7 J7 => ⟨_, _, J7, r6⟩
    | ret u =>
      obtain ⟨v6, σ6, H6, S6, rv6, r6⟩ := hsp
      exact fin S6 fun s7 J7 => ⟨_, _, _, J7, rv6, r6⟩
  · cases f with
    | next =>
      obtain ⟨σ1, H1, J1, r1⟩ := hsp
      exact wpAny_execs_nil ⟨σ1, H1, J1.ofTry ok, r1⟩
    | brk =>
      obtain ⟨σ1, H1, J1, r1⟩ := hsp
      exact ⟨σ1, H1, J1.ofTry ok, r1⟩
    | cont =>
      obtain ⟨σ1, H1, J1, r1⟩ := hsp
      exact ⟨σ1, H1, J1.ofTry ok, r1⟩
    | ret u =>
      obtain ⟨v1, σ1, H1, J1, rv1, r1⟩ := hsp
      exact ⟨v1, σ1, H1, J1.ofTry ok, rv1, r1⟩
end
/-! ### what is caught, looked at -/
/-- what an own error class says, so that instances can be asked -/
structure AskE (K : PySem.W.Frag) (C : Addr) : Prop where
  cl : (PySem.W.clsIn K C).isSome = true
  ga : PySem.W.findIn K (.ref C) "__getattribute__" = some (some (.builtin "BaseException.__getattribute__"))
  gt : PySem.W.findIn K (.ref C) "__getattr__" = some none
  sb : PySem.W.subIn K (.ref C) (.type "BaseException") = some true
  ca : PySem.W.findIn K (.ref C) "__class__" = some (some (.builtin "object.__class__"))
  cg : PySem.W.specialIn K (.builtin "object.__class__") "__get__" = some (some (.builtin "getset_descriptor.__get__"))
  ct : PySem.W.takesIn K (.builtin "object.__class__") = some true
  cm : PySem.W.mroIn K C (.type "object") = some true
inductive ErrC (H : Hp) (a C : Addr) : Option (Str × V) → Prop where
  | bare (h : H a = some (Caught (.ref C) none a)) : ErrC H a C none
  | with_ {d : Addr} {f : Str} {y : V} (h : H a = some (Caught (.ref C) (some d) a)) (hd : H d = some (.xd [(f, y)])) : ErrC H a C (some (f, y))
section
variable {X : Cx} {pins : List (Addr × Obj)} {σ : L2.St} {H : Hp} {s : Shared}
theorem errC_inst {a C : Addr} {o : Option (Str × V)} (I : Inv X pins σ H s) (e : ErrC H a C o) :
    ∃ ox od, PySem.W.InstAt s.heap a ox C od ∧ (∀ f y, o = some (f, y) → ∃ ob u, od = some ob ∧ RelV y u ∧ PySem.W.lookIn f ob = some (some u)) := by
  cases e with
  | bare h =>
    obtain ⟨⟨oe, vs, g1, z, g2⟩, _, _⟩ := I.hok a _ h
    refine ⟨oe, none, ⟨g1, z.1, ?_, ?_⟩, fun f y q => nomatch q⟩
    · unfold PySem.W.notCls
      rw [g2]
    · rw [z.2]
      trivial
  | @with_ d f y h hd =>
    obtain ⟨⟨oe, vs, g1, z, g2⟩, _, _⟩ := I.hok a _ h
    obtain ⟨mA, hn, rl⟩ := I.hok d _ hd
    obtain ⟨od, ho, hl⟩ := lookIn_ns hn
    refine ⟨oe, some od, ⟨g1, z.1, ?_, ?_⟩, fun f' y' q => ?_⟩
    · unfold PySem.W.notCls
      rw [g2]
    · rw [z.2]
      exact ho
    · cases q
      have r0 := rl f
      have e0 : List.lookup f [(f, y)] = some y := by simp [List.lookup]
      rw [e0] at r0
      obtain ⟨u, hu, ru⟩ := RelO.some_of (v := y) (o := mA f) r0
      exact ⟨od, u, rfl, ru, by rw [hl, hu]⟩
def rIsC (K : PySem.W.Frag) : List V → Hp → VK → Prop := fun xs H Q => ∃ (a C : Addr) (o : Option (Str × V)) (c : V) (cv : Value) (b : Bool),
  xs = [.ref a, c] ∧ ErrC H a C o ∧ ClsV c cv ∧ AskE K C ∧ PySem.W.kitOne K (.ref C) cv = some b ∧ Q (.bl b) H
/-- isinstance of a caught error, or of anything else that is told of -/
def rIsA (K : PySem.W.Frag) : List V → Hp → VK → Prop := fun xs H Q => rIsC K xs H Q ∨ rIsi K xs H Q
theorem call_isA : CallR X (.builtin "isinstance") (rIsA X.K) := by
  intro pins s σ H xs us Q I r h
  rcases h with ⟨a, C, o, c, cv, b, rfl, e, k, T, ek, q⟩ | h
  · obtain ⟨u1, u2, rfl, r1, r2⟩ := vals2 r
    have e2 := k.eq r2
    subst e2
    cases (show u1 = Value.ref a from r1)
    obtain ⟨ox, od, J, _⟩ := errC_inst I e
    exact PySem.W.kia_one (PySem.W.kitx_exc T.cl T.ga T.gt T.sb T.ca T.cg T.ct T.cm) I.kIn J ek (fun z => nomatch z) fun tk => ⟨.bl b, H, I.kept (t' := tk) fun _ _ z => z, rfl, q⟩
  · exact call_isi pins s σ H xs us Q I r h
/-- e.f of a caught error -/
def tCtF (K : PySem.W.Frag) (f : Str) (te : TE) : TE := fun σ H Q => te σ H fun x H1 => ∃ (a C : Addr) (y : V), x = .ref a ∧ ErrC H1 a C (some (f, y)) ∧ AskE K C ∧ PySem.W.hasDictIn K C = true ∧ PySem.W.findIn K (.ref C) f = some none ∧ Q y H1
theorem pe_ctF {e : Expr} {te : TE} {pos : Pos} {f : Str} (he : PE X e te) (hb : attributeBase e f X.env (eval e X.env) = eval e X.env := by rfl) : PE X (.Attribute e f pos) (tCtF X.K f te) := by
  refine ⟨fun pins s σ H Q I h => attr_of hb (thn (he.run pins s σ H _ I h) fun u s1 hh => ?_)⟩
  obtain ⟨x, H1, I1, rx, a, C, y, ex, ea, T, hdct, hno, q⟩ := hh
  subst ex
  obtain rfl : u = Value.ref a := rx
  obtain ⟨ox, od, J, hl⟩ := errC_inst I1 ea
  obtain ⟨ob, u, rfl, ru, l⟩ := hl _ _ rfl
  exact HandSPX.exc_get I1.kIn J T.ga T.gt T.sb (PySem.W.findObj_own hdct hno rfl l) (handed_of ru) ⟨y, H1, I1.tok _, ru, q⟩
end
/-! ### _law_caught(lambda: ..) -/
/-- what the def makes of the lambda's reading: None, or the error that was caught -/
def TTc (K : PySem.W.Frag) (W : Addr) : (XK → Hp → VK → Prop) → Hp → VK → Prop := fun tl H Q =>
  tl (fun cls d H' => PySem.W.exmOne K cls (.ref W) = some true ∧ ∀ a, H' a = none → Q (.ref a) (upd H' a (Caught cls d a))) H (fun _ H' => ∃ v, (some (some V.non) : Option (Option V)) = some (some v) ∧ Q v H')
abbrev nCaught : List Str := ["work", "caught", "error"]
theorem caught_gives {X : Cx} {q : Str} {sg : Scope} {g W : Addr} {cdg : Value} {j1 : Nat} {p1 p2 p3 p4 p5 p6 p7 p8 p9 p10 p11 p12 p13 p14 : Pos}
    (hge : sg.names.lookup ("WaitError" : Str) = some .globalImplicit) (hme : X.mg "WaitError" = some (.ref W)) (hl0 : sg.names.lookup ("work" : Str) = some .local) (hl1 : sg.names.lookup ("caught" : Str) = some .local) (hl2 : sg.names.lookup ("error" : Str) = some .local) :
    LamX.GivesTo X nCaught "_law_caught" sg g cdg [.Assign [.Name "caught" p1] (.Constant .none j1 p2) p3,
      .Try [.Expr (.Call (.Name "work" p4) [] [] p5) p6] [.ExceptHandler (some (.Name "WaitError" p7)) (some "error") [.Assign [.Name "caught" p8] (.Name "error" p9) p10] p11] [] [] p12,
      .Return (some (.Name "caught" p13)) p14] "work" q (TTc X.K W) := by
  intro f c' s H Q tl act hc h
  have nd : nCaught.Nodup := by decide +kernel
  refine ⟨_, pss_cons (ps_set (i := 1) nd rfl (Or.inl hl1) pe_non)
    (pss_cons (ps_try_err (X := (cxOf C8.CX0 X.prog X.w X.K X.mg X.base nCaught "_law_caught" sg g cdg X.A X.stack s H C8.E0).nox) (c := .ref W) (i := 2)
        (tb := fun W' D σ H => ∃ Ech : XK, (∀ cls d σ' H', Ech cls d H' → W' cls d σ' H') ∧ σ[0]? = some (some (.ref f)) ∧ H c' = some (LamX.CodeO c' q) ∧ tl Ech H (fun _ H' => D.nx σ H'))
        rfl rfl rfl nd rfl hl2 ⟨hge, by decide, .inl hme⟩ (fun W' pn xe tk => ?_) (fun a pn => pss_one (ps_set (i := 1) nd rfl (Or.inl hl1) (pe_var (i := 2) rfl (Or.inl hl2)))))
    (pss_one (ps_ret (pe_var (i := 1) rfl (Or.inl hl1))))), ?_⟩
  · refine ⟨fun pins s' σ H' D I h' => ?_⟩
    obtain ⟨Ech, hW, h1, h2, h3⟩ := h'
    exact (pss_one (ps_expr (pos := p6) (act W' pn xe Ech p4 p5 tk hW))).run pins s' σ H' D I ⟨h1, h2, h3⟩
  · refine ⟨_, fun cls d σ' H' h' => ?_, rfl, hc, h⟩
    obtain ⟨e1, e2⟩ := h'
    refine ⟨e1, fun hl a ha => ?_⟩
    match σ', hl with
    | [x0, x1, x2], _ => exact ⟨.ref a, rfl, .ref a, rfl, e2 a ha⟩
end WT
end

section
set_option Elab.async false
set_option linter.all false
set_option maxRecDepth 100000
set_option maxHeartbeats 4000000
/-! Own errors with one attribute: their making, raised. -/
namespace WT
open PySem PySem.Spec PyProof.Rows L2
/-- the promise of «def __init__(self, f): self.f = f» -/
def spErrI (K : PySem.W.Frag) (f : Str) : Sp := fun vs H Q _ => ∃ (a C : Addr) (y : V), vs = [.ref a, y] ∧ H a = some (exo a C none) ∧ OexC K C ∧ PySem.W.findIn K (.ref C) f = some none ∧
  ∀ d, H d = none → d ≠ a → Q .non (upd (upd H d (exd d [(f, y)])) a (exo a C (some d)))
/-- an own error class x with an attribute f, as the top has made it -/
structure ErrT (P : Program) (w : World) (K : PySem.W.Frag) (mg : Str → Option Value) (base : Heap) (x f : Str) (C fI : Addr) (fd : FuncData) : Prop where
  ox : OexC K C
  iC : PySem.W.findIn K (.ref C) "__init__" = some (some (.ref fI))
  tI : PySem.W.typeIn K (.ref fI) = some (.type "function")
  hf : PySem.W.findIn K (.ref C) f = some none
  hd : PySem.W.hasDictIn K C = true
  ask : AskE K C
  gC : mg x = some (.ref C)
  fn : FnOk P w K mg base CX0 1 fI fd [("self" : Str), f] (spErrI K f)
  bd : Binds K fd [("self" : Str), f] []
/-- how the raising leaves the heap -/
def Raised (H : Hp) (f : Str) (y : V) (d : Addr) (H' : Hp) : Prop := H d = none ∧ H' d = some (.xd [(f, y)]) ∧ Same H H'
theorem mkO_post {P : Program} {w : World} {K : PySem.W.Frag} {mg : Str → Option Value} {base : Heap} {x f : Str} {C fI : Addr} {fd : FuncData} {H : Hp} {y : V} {Q : XK} (T : ErrT P w K mg base x f C fI fd)
    (k : ∀ d H', Raised H f y d H' → Q (.ref C) (some d) H') :
    [y].length ≤ 1000 ∧ ∀ a, H a = none → spErrI K f (.ref a :: ([y] ++ [])) (upd H a (exo a C none))
      (fun v H2 => v = .non ∧ ∃ (d : Addr) (fs : List (Str × V)), H2 a = some (exo a C (some d)) ∧ H2 d = some (exd d fs) ∧ H d = none ∧ Q (.ref C) (some d) (upd (del H2 a) d (.xd fs))) (fun _ _ _ => False) := by
  refine ⟨(by show 1 ≤ 1000; decide), fun a ha => ⟨a, C, y, rfl, upd_same, T.ox, T.hf, fun d hd hne => ?_⟩⟩
  have hd0 : H d = none := by rwa [upd_ne hne] at hd
  refine ⟨rfl, d, [(f, y)], upd_same, by rw [upd_ne hne, upd_same], hd0, k d _ ⟨hd0, upd_same, fun b o e => ?_⟩⟩
  have b1 : b ≠ d := ne_of_none e hd0
  have b2 : b ≠ a := ne_of_none e ha
  rw [upd_ne b1, del_ne b2, upd_ne b2, upd_ne b1, upd_ne b2]
  exact e
/-- an own error class x without an attribute -/
structure PlainT (K : PySem.W.Frag) (mg : Str → Option Value) (x : Str) (C : Addr) : Prop where
  ex : PySem.W.excIn K C [.type "ValueError", .type "Exception", .type "BaseException", .type "object"] "ValueError.__new__" = true
  gC : mg x = some (.ref C)
  kC : PySem.W.keepIn K (.ref C) = true
  sb : PySem.W.subIn K (.ref C) (.type "BaseException") = some true
  ty : PySem.W.typeIn K (.ref C) = some (.type "type")
  ask : AskE K C
/-- the wish of nothing -/
abbrev E00 : XK := fun _ _ _ => False
theorem passF {X : Cx} : Passes (L2.CX X.prog X.w) X E00 := by
  intro pins σ H s e s' I c
  obtain ⟨a, B, H', cls, d, _, _, _, _, _, _, _, z⟩ := c
  exact z.elim
/-- from where an error leaves the def -/
theorem passX {X : Cx} {W : WX} {E : XK} (tk : Takes X W) (h : ∀ cls d σ H, E cls d H → W cls d σ H) : Passes (L2.CX X.prog X.w) X E := passes_call tk h
theorem Raised.same {H H1 H2 : Hp} {f : Str} {y : V} {d : Addr} (s : Same H H1) (r : Raised H1 f y d H2) : Raised H f y d H2 :=
  ⟨s.free r.1, r.2.1, Same.trans s r.2.2⟩
end WT
end

section
set_option Elab.async false
set_option linter.all false
set_option maxRecDepth 100000
set_option maxHeartbeats 4000000
namespace WW
open PySem L2 WO WG RZ WQ
theorem same_new {H : Hp} {p : Addr} {o : HO} (h : H p = none) : Same H (upd H p o) := fun b u e => by rw [upd_ne (ne_of_none e h)]; exact e
theorem alloc {H H' : Hp} {p : Addr} {o : HO} (e : upd H p o = H') (h : H p = none) : Same H H' ∧ H' p = some o := by
  subst e
  exact ⟨same_new h, upd_same⟩
theorem seqT {K : PySem.W.Frag} {H H' : Hp} {a : Addr} {xs : List V} (s : Same H H') (h : SqT K H a xs) : SqT K H' a xs := SqT.ext h s
theorem tyX_seqL {K : PySem.W.Frag} {H : Hp} {a : Addr} {xs : List V} (h : SqL K H a xs) : TyX K H (.ref a) (.type "list") := by
  rcases h with (h | ⟨o, h⟩) | ⟨o, its, n, h, hc, -⟩
  · exact .base (.lst h)
  · exact .base (.frz h)
  · exact .kList h hc
theorem tyX_seqT {K : PySem.W.Frag} {H : Hp} {a : Addr} {xs : List V} (h : SqT K H a xs) : TyX K H (.ref a) (.type "tuple") := by
  rcases h with (h | ⟨o, h⟩) | ⟨o, its, n, h, hc, -⟩
  · exact .base (.tup h)
  · exact .fTuple h
  · exact .kTuple h hc
theorem bT {p : Prop} [Decidable p] (h : p) : V.bl (decide p) = V.bl true := by rw [decide_eq_true h]
theorem bF {p : Prop} [Decidable p] (h : ¬ p) : V.bl (decide p) = V.bl false := by rw [decide_eq_false h]
theorem all_rep (n : Nat) : (List.replicate n true).all id = true := by
  induction n with
  | zero => rfl
  | succ n ih => rw [List.replicate_succ, List.all_cons, ih]; rfl
theorem any_rep (n : Nat) : (List.replicate n false).any id = false := by
  induction n with
  | zero => rfl
  | succ n ih => rw [List.replicate_succ, List.any_cons, ih]; rfl
def reps (b : Bool) (n : Nat) : List V := (List.replicate n b).map V.bl
theorem reps_snoc (b : Bool) (n : Nat) : reps b n ++ [.bl b] = reps b (n + 1) := by
  unfold reps
  rw [List.replicate_succ', List.map_append]
  rfl
theorem reps_len (b : Bool) (n : Nat) : (reps b n).length = n := by unfold reps; rw [List.length_map, List.length_replicate]
theorem cut1 {xs : List V} (h : 1 ≤ xs.length) : cutV xs (some 1) none = xs.drop 1 := by
  have e : HT.sIx xs.length 0 (some 1) = 1 := by
    unfold HT.sIx
    dsimp only
    rw [if_neg (by decide)]
    show min 1 xs.length = 1
    omega
  unfold cutV
  rw [e]
  show (xs.drop 1).take (xs.length - 1) = _
  exact List.take_of_length_le (by rw [List.length_drop]; exact Nat.le_refl _)
/-! ### flat values and their kinds -/
def numV : V → Bool
  | .int _ => true
  | _ => false
/-- x's kind, as the isinstance of int and of bool sees it: b says whether it is a number -/
def NumT (K : PySem.W.Frag) (H : Hp) (x : V) (b : Bool) : Prop :=
  ∃ (t : Value) (b1 b2 : Bool), TyX K H x t ∧ PySem.W.kitOne K t (.type "int") = some b1 ∧ PySem.W.kitOne K t (.type "bool") = some b2 ∧ (b1 && !b2) = b
theorem numT_flat {K : PySem.W.Frag} {H : Hp} {x : V} (h : flatV x = true) : NumT K H x (numV x) := by
  cases x with
  | non => exact ⟨.type "NoneType", false, false, .base .non, kit_ty (by decide +kernel), kit_ty (by decide +kernel), rfl⟩
  | bl b => exact ⟨.type "bool", true, true, .base (.bl b), kit_ty (by decide +kernel), kit_ty (by decide +kernel), rfl⟩
  | int i => exact ⟨.type "int", true, false, .base (.int i), kit_ty (by decide +kernel), kit_ty (by decide +kernel), rfl⟩
  | str z => exact ⟨.type "str", false, false, .base (.str z), kit_ty (by decide +kernel), kit_ty (by decide +kernel), rfl⟩
  | byt _ => cases h
  | flt _ => cases h
  | ref _ => cases h
  | ty _ => cases h
theorem numT_list {K : PySem.W.Frag} {H : Hp} {a : Addr} {xs : List V} (h : SqL K H a xs) : NumT K H (.ref a) false :=
  ⟨.type "list", false, false, tyX_seqL h, kit_ty (by decide +kernel), kit_ty (by decide +kernel), rfl⟩
theorem numT_tup {K : PySem.W.Frag} {H : Hp} {a : Addr} {xs : List V} (h : SqT K H a xs) : NumT K H (.ref a) false :=
  ⟨.type "tuple", false, false, tyX_seqT h, kit_ty (by decide +kernel), kit_ty (by decide +kernel), rfl⟩
theorem numT_dict {K : PySem.W.Frag} {H : Hp} {a : Addr} {kvs : List (Key × V)} (h : H a = some (.dK kvs)) : NumT K H (.ref a) false :=
  ⟨.type "dict", false, false, .base (.dK h), kit_ty (by decide +kernel), kit_ty (by decide +kernel), rfl⟩
section
variable {K : PySem.W.Frag}
/-- x is a list, a tuple, or something else -/
def ListT (K : PySem.W.Frag) (H : Hp) (x : V) (b : Bool) : Prop :=
  ∃ t : Value, TyX K H x t ∧ ((t = .type "list" ∧ b = true) ∨ (t = .type "tuple" ∧ b = true) ∨ (PySem.W.kitOne K t (.type "list") = some false ∧ PySem.W.kitOne K t (.type "tuple") = some false ∧ b = false))
theorem listT_flat {H : Hp} {x : V} (h : flatV x = true) : ListT K H x false := by
  cases x with
  | non => exact ⟨.type "NoneType", .base .non, .inr (.inr ⟨kit_ty (by decide +kernel), kit_ty (by decide +kernel), rfl⟩)⟩
  | bl b => exact ⟨.type "bool", .base (.bl b), .inr (.inr ⟨kit_ty (by decide +kernel), kit_ty (by decide +kernel), rfl⟩)⟩
  | int i => exact ⟨.type "int", .base (.int i), .inr (.inr ⟨kit_ty (by decide +kernel), kit_ty (by decide +kernel), rfl⟩)⟩
  | str z => exact ⟨.type "str", .base (.str z), .inr (.inr ⟨kit_ty (by decide +kernel), kit_ty (by decide +kernel), rfl⟩)⟩
  | byt _ => cases h
  | flt _ => cases h
  | ref _ => cases h
  | ty _ => cases h
theorem listT_dict {H : Hp} {a : Addr} {kvs : List (Key × V)} (h : H a = some (.dK kvs)) : ListT K H (.ref a) false :=
  ⟨.type "dict", .base (.dK h), .inr (.inr ⟨kit_ty (by decide +kernel), kit_ty (by decide +kernel), rfl⟩)⟩
theorem listT_seq {H : Hp} {a : Addr} {xs : List V} (h : SeqA K H a xs) : ListT K H (.ref a) true := by
  rcases h with h | h
  · exact ⟨_, tyX_seqL h, .inl ⟨rfl, rfl⟩⟩
  · exact ⟨_, tyX_seqT h, .inr (.inl ⟨rfl, rfl⟩)⟩
end
theorem TyX.same' {K : PySem.W.Frag} {H H' : Hp} {x : V} {t : Value} (s : Same H H') (h : TyX K H x t) : TyX K H' x t := by
  cases h with
  | base h =>
    cases h with
    | non => exact .base .non
    | bl b => exact .base (.bl b)
    | int i => exact .base (.int i)
    | str z => exact .base (.str z)
    | flt z => exact .base (.flt z)
    | lst e => exact .base (.lst (s _ _ e))
    | frz e => exact .base (.frz (s _ _ e))
    | tup e => exact .base (.tup (s _ _ e))
    | dK e => exact .base (.dK (s _ _ e))
    | dT e => exact .base (.dT (s _ _ e))
    | ins e cl ha hn htk hm => exact .base (.ins (s _ _ e) cl ha hn htk hm)
  | byt b => exact .byt b
  | set e => exact .set (s _ _ e)
  | kList e c => exact .kList e c
  | kTuple e c => exact .kTuple e c
  | kDict e c => exact .kDict e c
  | fTuple e => exact .fTuple (s _ _ e)
  | fDict e => exact .fDict (s _ _ e)
theorem ListT.same {K : PySem.W.Frag} {H H' : Hp} {x : V} {b : Bool} (h : ListT K H x b) (s : Same H H') : ListT K H' x b := by
  obtain ⟨t, h1, h2⟩ := h
  exact ⟨t, TyX.same' s h1, h2⟩
theorem NumT.same {K : PySem.W.Frag} {H H' : Hp} {x : V} {b : Bool} (h : NumT K H x b) (s : Same H H') : NumT K H' x b := by
  obtain ⟨t, b1, b2, h1, h2⟩ := h
  exact ⟨t, b1, b2, TyX.same' s h1, h2⟩
end WW
end

section
set_option Elab.async false
set_option linter.all false
set_option maxRecDepth 100000
set_option maxHeartbeats 4000000
namespace WW
open PySem L2 WO WG RZ WQ WT
abbrev sNum : Stmt := top 5
abbrev sIsList : Stmt := top 6
abbrev sIsRow : Stmt := top 9
abbrev sIsRun : Stmt := top 12
abbrev sNeedRun : Stmt := top 13
abbrev sHeapsOf : Stmt := top 14
abbrev sHeaps : Stmt := top 15
abbrev sWaits : Stmt := top 16
structure RunG (mg : Str → Option Value) : Prop where
  isi : mg "isinstance" = none
  int : mg "int" = none
  bool : mg "bool" = none
  list : mg "list" = none
  tuple : mg "tuple" = none
  len : mg "len" = none
  all : mg "all" = none
  zip : mg "zip" = none
  enumerate : mg "enumerate" = none
  max : mg "max" = none
  sum : mg "sum" = none
  range : mg "range" = none
  most : ∃ t, mg "MOST_BEATS" = some (.int 1000 t)
  flows : ∃ t, mg "MOST_FLOWS" = some (.int 8 t)
section
variable {P : Program} {w : World} {K : PySem.W.Frag} {mg : Str → Option Value} {base : Heap}
def spNum (K : PySem.W.Frag) : Sp := fun vs H Q _ => ∃ (x : V) (b : Bool), vs = [x] ∧ NumT K H x b ∧ Q (.bl b) H
theorem scNum : FnScope ["thing"] ["thing"] (defScope sNum) := ⟨rfl, rfl, rfl, by decide +kernel, rfl, by decide +kernel, by decide +kernel⟩
theorem ok_num {f : Addr} {fd : FuncData} (F : Fun K "is_number" "is_number" sNum f fd) (T : RunG mg) : FnOk P w K mg base CX0 1 f fd ["thing"] (spNum K) := by
  refine F.ok scNum (fun vs H Q E h => ?_) (fun cdv A outer s H vs Q E hr h => ?_)
  · obtain ⟨x, b, rfl, _⟩ := h
    rfl
  · obtain ⟨x, b, rfl, ⟨t, b1, b2, ty, k1, k2, e⟩, k⟩ := h
    refine ⟨_, pss_one (ps_ret (pe_and (pe_callB call_isi (by rfl) T.isi (by decide +kernel) (pa_cons (pv 0) (pa_cons (pe_bltn (v := .ty "int") (by rfl) T.int (by decide +kernel) rfl) pa_nil)))
      (pe_one (pe_not (pe_callB call_isi (by rfl) T.isi (by decide +kernel) (pa_cons (pv 0) (pa_cons (pe_bltn (v := .ty "bool") (by rfl) T.bool (by decide +kernel) rfl) pa_nil))))))), ?_⟩
    refine ⟨_, rfl, x, .ty "int", t, .type "int", b1, rfl, .ty _, ty, k1, b1, rfl, ?_⟩
    subst e
    cases b1 with
    | false => exact iteF k
    | true => exact iteT ⟨_, rfl, x, .ty "bool", t, .type "bool", b2, rfl, .ty _, ty, k2, b2, rfl, k⟩
def spIsList (K : PySem.W.Frag) : Sp := fun vs H Q _ => ∃ (x : V) (b : Bool), vs = [x] ∧ ListT K H x b ∧ ∀ H', Same H H' → Q (.bl b) H'
theorem scIsList : FnScope ["thing"] ["thing"] (defScope sIsList) := ⟨rfl, rfl, rfl, by decide +kernel, rfl, by decide +kernel, by decide +kernel⟩
theorem ok_isList {f : Addr} {fd : FuncData} (F : Fun K "is_list" "is_list" sIsList f fd) (T : RunG mg) : FnOk P w K mg base CX0 1 f fd ["thing"] (spIsList K) := by
  refine F.ok scIsList (fun vs H Q E h => ?_) (fun cdv A outer s H vs Q E hr h => ?_)
  · obtain ⟨x, b, rfl, _⟩ := h
    rfl
  · obtain ⟨x, b, rfl, h, k⟩ := h
    refine ⟨_, pss_one (ps_ret (pe_callB call_isiT (by rfl) T.isi (by decide +kernel) (pa_cons (pv 0) (pa_cons (pe_tup (pa_cons (pe_bltn (v := .ty "list") (by rfl) T.list (by decide +kernel) rfl)
      (pa_cons (pe_bltn (v := .ty "tuple") (by rfl) T.tuple (by decide +kernel) rfl) pa_nil))) pa_nil)))), ?_⟩
    refine ⟨_, rfl, (by show 2 ≤ sizeLine; decide), fun t ht => ?_⟩
    have s1 := same_new (o := .tup [.ty "list", .ty "tuple"]) ht
    obtain ⟨t', ty, c⟩ := h.same s1
    rcases c with ⟨rfl, rfl⟩ | ⟨rfl, rfl⟩ | ⟨c1, c2, rfl⟩
    · exact ⟨_, t, _, _, [.type "list", .type "tuple"], true, rfl, upd_same, .cons (.ty _) (.cons (.ty _) .nil), ty,
        kitAny_cons (kit_ty (r := true) (by decide +kernel)) (fun z => by cases z) (fun _ => rfl), k _ s1⟩
    · exact ⟨_, t, _, _, [.type "list", .type "tuple"], true, rfl, upd_same, .cons (.ty _) (.cons (.ty _) .nil), ty,
        kitAny_cons (kit_ty (r := false) (by decide +kernel)) (fun _ => kitAny_cons (r := true) (kit_ty (r := true) (by decide +kernel)) (fun z => by cases z) (fun _ => rfl)) (fun z => by cases z), k _ s1⟩
    · exact ⟨_, t, _, _, [.type "list", .type "tuple"], false, rfl, upd_same, .cons (.ty _) (.cons (.ty _) .nil), ty,
        kitAny_cons c1 (fun _ => kitAny_cons (r := false) c2 (fun _ => rfl) (fun z => by cases z)) (fun z => by cases z), k _ s1⟩
end
end WW
end

section
set_option Elab.async false
set_option linter.all false
set_option maxRecDepth 100000
set_option maxHeartbeats 4000000
namespace WW
open PySem L2 WO WG RZ WQ WT
/-! ### rows -/
def Asc0 (ns : List Int) : Prop := ∃ r, ns = 0 :: r ∧ ns.Pairwise (· ≤ ·)
def RowOk (o : Option (List V)) : Prop := ∃ ns : List Int, o = some (ns.map V.int) ∧ Asc0 ns
/-- what stands in the place of a row -/
inductive RowIn (K : PySem.W.Frag) (H : Hp) : V → Option (List V) → Prop
  | no {x : V} (h : ListT K H x false) : RowIn K H x none
  | seq {a : Addr} {xs : List V} (h : SeqA K H a xs) (fl : xs.all flatV = true) (l : xs.length ≤ 1001) : RowIn K H (.ref a) (some xs)
theorem RowIn.same {K : PySem.W.Frag} {H H' : Hp} {x : V} {o : Option (List V)} (h : RowIn K H x o) (s : Same H H') : RowIn K H' x o := by
  cases h with
  | no h => exact .no (h.same s)
  | seq h fl l => exact .seq (h.same s) fl l
theorem all_ints : ∀ {xs : List V}, xs.all numV = true → ∃ ns : List Int, xs = ns.map V.int
  | [], _ => ⟨[], rfl⟩
  | x :: r, h => by
    rw [List.all_cons, Bool.and_eq_true] at h
    obtain ⟨ns, e⟩ := all_ints h.2
    cases x with
    | int i => exact ⟨i :: ns, by rw [e]; rfl⟩
    | _ => cases h.1
theorem ints_all : ∀ (ns : List Int), (ns.map V.int).all numV = true
  | [] => rfl
  | i :: r => by rw [List.map_cons, List.all_cons, ints_all r]; rfl
theorem ints_inj {ns ms : List Int} (h : ns.map V.int = ms.map V.int) : ns = ms := (List.map_inj_right fun a b h => V.int.inj h).mp h
theorem take_snoc {α : Type} {xs : List α} {i : Nat} {x : α} (h : xs[i]? = some x) : xs.take (i + 1) = xs.take i ++ [x] := by
  rw [List.take_add_one, h]
  rfl
def bls (bs : List Bool) : List V := bs.map V.bl
theorem bls_snoc (bs : List Bool) (b : Bool) : bls bs ++ [.bl b] = bls (bs ++ [b]) := by unfold bls; rw [List.map_append]; rfl
theorem bls_len (bs : List Bool) : (bls bs).length = bs.length := List.length_map ..
theorem small1000' {n : Nat} (h : n ≤ 1001) : n < sizeLine := Nat.lt_of_le_of_lt h (by decide)
/-- each one at most the next one -/
def steps (ns : List Int) : List Bool := (List.zip ns (ns.drop 1)).map fun p => decide (p.1 ≤ p.2)
theorem steps_pw : ∀ ns : List Int, (steps ns).all id = true ↔ ns.Pairwise (· ≤ ·)
  | [] => by simp [steps]
  | [a] => by simp [steps]
  | a :: b :: r => by
    have ih := steps_pw (b :: r)
    have e : steps (a :: b :: r) = decide (a ≤ b) :: steps (b :: r) := rfl
    rw [e, List.all_cons, Bool.and_eq_true, ih]
    constructor
    · rintro ⟨h1, h2⟩
      have h1' : a ≤ b := of_decide_eq_true h1
      refine .cons (fun z hz => ?_) h2
      rcases List.mem_cons.mp hz with rfl | hz
      · exact h1'
      · exact Int.le_trans h1' ((List.pairwise_cons.mp h2).1 z hz)
    · intro h
      exact ⟨decide_eq_true ((List.pairwise_cons.mp h).1 b (List.mem_cons_self ..)), (List.pairwise_cons.mp h).2⟩
section
variable {P : Program} {w : World} {K : PySem.W.Frag} {mg : Str → Option Value} {base : Heap}
def spIsRow (K : PySem.W.Frag) : Sp := fun vs H Q _ => ∃ (x : V) (o : Option (List V)), vs = [x] ∧ RowIn K H x o ∧ ∀ (b : Bool) H', Same H H' → (b = true ↔ RowOk o) → Q (.bl b) H'
abbrev nIsRow : List Str := ["thing", "one", "two"]
theorem scIsRow : FnScope nIsRow ["thing"] (defScope sIsRow) := ⟨rfl, rfl, rfl, by decide +kernel, rfl, by decide +kernel, by decide +kernel⟩
theorem ok_isRow {f fL fN : Addr} {fd dL dN : FuncData} (F : Fun K "is_row" "is_row" sIsRow f fd) (T : RunG mg)
    (GL : FnOk P w K mg base CX0 1 fL dL ["thing"] (spIsList K)) (kL : PySem.W.keepIn K (.ref fL) = true) (bL : Binds K dL ["thing"] []) (mL : mg "is_list" = some (.ref fL))
    (GN : FnOk P w K mg base CX0 1 fN dN ["thing"] (spNum K)) (kN : PySem.W.keepIn K (.ref fN) = true) (bN : Binds K dN ["thing"] []) (mN : mg "is_number" = some (.ref fN)) :
    FnOk P w K mg base CX0 2 f fd ["thing"] (spIsRow K) := by
  refine F.ok scIsRow (fun vs H Q E h => ?_) (fun cdv A outer s H vs Q E hr h => ?_)
  · obtain ⟨x, o, rfl, _⟩ := h
    rfl
  · obtain ⟨x, o, rfl, h, k⟩ := h
    obtain ⟨tm, mM⟩ := T.most
    refine ⟨_, pss_cons (ps_if (PW.pt (pw_or (pt_not (pt_val (pe_call GL hr rfl mL kL bL .nil pass0 (pa_cons (pv 0) pa_nil))))
          (pw_or1 (pt_not (pt_chain op_le op_le pe_int (pe_callB call_len_seq (by rfl) T.len PySem.boot_len (pa_cons (pv 0) pa_nil)) (pe_op op_add (pe_glob (v := .int 1000) rfl mM ⟨_, rfl⟩) pe_int))))))
        (pss_one (ps_ret pe_bl)) pss_nil)
      (pss_cons (ps_if (PW.pt (pw_or (pt_not (pt_val (pe_callB (cr_all rfl) (by rfl) T.all (by decide +kernel) (pa_cons
            (pe_lc (own := [("one", 1)]) (g := gName 1) (tt := tYes) rfl scIsRow.nd (pi_seq (pv 0)) (blkOk_by (N := nIsRow) (sc := defScope sIsRow) (by decide +kernel)) (fun _ _ _ _ _ => pg_name (i := 1) scIsRow.nd rfl (Or.inl rfl)) (fun _ _ _ _ _ => pts_nil)
              (fun _ _ _ _ _ => pe_call GN hr rfl mN kN bN .nil pass0 (pa_cons (pv 1) pa_nil))) pa_nil))))
          (pw_or1 (pt_cmpR op_ne (pe_ix ix_seq (pv 0) pe_int (fun _ _ => rfl)) pe_int (nomark _)))))
        (pss_one (ps_ret pe_bl)) pss_nil)
      (pss_one (ps_ret (pe_callB (cr_all rfl) (by rfl) T.all (by decide +kernel) (pa_cons
            (pe_lc (own := [("one", 1), ("two", 2)]) (g := gTup K 2 (gCons (gName 1) (gCons (gName 2) gNil))) (tt := tYes) rfl scIsRow.nd (pi_zipS (by rfl) T.zip (pa_cons (pv 0) (pa_cons (pe_slice sl_seqB (pv 0) (po_some pe_int) po_none) pa_nil))) (blkOk_by (N := nIsRow) (sc := defScope sIsRow) (by decide +kernel))
              (fun _ _ _ _ _ => pg_tup rfl (pgs_cons (pg_name (i := 1) scIsRow.nd rfl (Or.inl rfl)) (pgs_cons (pg_name (i := 2) scIsRow.nd rfl (Or.inl rfl)) pgs_nil))) (fun _ _ _ _ _ => pts_nil)
              (fun _ _ _ _ _ => pe_cmpR op_le (pv 1) (pv 2) (nomark _))) pa_nil))))), ?_⟩
    have no : ∀ {H' : Hp}, Same H H' → ¬ RowOk o → Q (.bl false) H' := fun s n => k false _ s ⟨fun z => (by cases z), fun z => absurd z n⟩
    cases h with
    | no h =>
      exact ⟨_, rfl, x, false, rfl, h, fun H1 s1 => ⟨false, rfl, iteT (no s1 (by rintro ⟨ns, e, _⟩; cases e))⟩⟩
    | @seq a xs h fl l =>
      refine ⟨_, rfl, .ref a, true, rfl, listT_seq h, fun H1 s1 => ⟨true, rfl, iteF ?_⟩⟩
      have h1 := h.same s1
      refine ⟨_, rfl, a, xs, rfl, h1, _, _, rfl, rfl, ?_⟩
      by_cases c1 : 1 ≤ xs.length
      · refine ⟨true, bT (by omega), iteT ⟨_, _, rfl, rfl, _, _, rfl, rfl, true, bT (by show (xs.length : Int) ≤ 1000 + 1; omega), iteF ?_⟩⟩
        refine ⟨_, rfl, a, xs, rfl, h1, fun J G wk st D hD => lc_it wk (fun i H2 => ∃ bs : List Bool, H2 D = some (.lst (bls bs)) ∧ bs = (xs.take i).map numV ∧ Same H1 H2) ⟨[], upd_same, rfl, same_new hD⟩ (fun i H2 _ ⟨_, _, _, s2⟩ => st _ (.of s2 _ _)) ?_ ?_⟩
        · rintro i x H2 H2' hi ⟨bs, hd, e, s2⟩ ⟨rfl, hx⟩
          have fx : flatV x = true := (List.all_eq_true.mp fl) x (List.mem_of_getElem? hx)
          refine ⟨rfl, _, rfl, x, numV x, rfl, numT_flat fx, _, hd, ?_, bs ++ [numV x], ?_, ?_, fun b o e => by rw [upd_ne (ne_of_none e hD)]; exact s2 b o e⟩
          · rw [bls_len, e, List.length_map, List.length_take]
            exact small1000' (by omega)
          · rw [bls_snoc]
            exact upd_same
          · rw [take_snoc hx, List.map_append, e]
            rfl
        · rintro H2 ⟨bs, hd, e, s2⟩
          rw [List.take_length] at e
          refine ⟨D, bs, rfl, SqL.of hd, ?_⟩
          have e2 : bs.all id = xs.all numV := by rw [e, List.all_map]; rfl
          rw [e2]
          have sA := Same.trans s1 s2
          cases cN : xs.all numV with
          | false =>
            refine ⟨false, rfl, iteT (no sA ?_)⟩
            rintro ⟨ns, e, _⟩
            cases e
            rw [ints_all] at cN
            cases cN
          | true =>
            refine ⟨true, rfl, iteF ?_⟩
            obtain ⟨ns, rfl⟩ := all_ints cN
            have h2 := h.same sA
            cases ns with
            | nil => exact absurd c1 (by simp)
            | cons n0 r =>
              have ixr : ∀ Q : VK, Q (.int n0) H2 → rIx K (.ref a) (.int 0) H2 Q := fun Q q => by
                rcases h2 with h2 | h2
                · exact .inl ⟨a, _, _, _, rfl, rfl, h2, atI_nat (j := 0) rfl, q⟩
                · exact .inr (.inl ⟨a, _, _, _, rfl, rfl, h2, atI_nat (j := 0) rfl, q⟩)
              refine ⟨_, rfl, ixr _ ⟨rfl, !decide (V.int n0 = V.int 0), rfl, ?_⟩⟩
              by_cases c0 : n0 = 0
              · subst c0
                rw [decide_eq_true rfl]
                refine iteF ⟨_, rfl, _, rfl, 1, rfl, a, _, rfl, h2, fun H3 p s3 hp hpT hpL => ?_⟩
                rw [cut1 (by rw [List.length_map]; exact Nat.succ_le_succ (Nat.zero_le _))] at hp hpT hpL
                have h3 := h2.same s3
                have pr : SeqP K H3 a ((0 :: r).map V.int) p (((0 :: r).map V.int).drop 1) := by
                  rcases h2 with g | g
                  · exact .inl ⟨Same.seq s3 g, hpL _ g⟩
                  · exact .inr ⟨seqT s3 g, hpT _ g⟩
                have ln : min ((0 :: r).map V.int).length (((0 :: r).map V.int).drop 1).length = r.length := by simp
                refine ⟨a, p, _, _, rfl, pr, fun J G wk st D2 hD2 => lc_it wk (fun i H4 => ∃ bs : List Bool, H4 D2 = some (.lst (bls bs)) ∧ bs = (steps (0 :: r)).take i ∧ Same H3 H4) ⟨[], upd_same, rfl, same_new hD2⟩ (fun i H4 _ ⟨_, _, _, s4⟩ => st _ (.of s4 _ _) (.of s4 _ _)) ?_ ?_⟩
                · rintro i v H4 H5 hi ⟨bs, hd4, e4, s4⟩ ⟨t, x, y, rfl, ht, rfl, hx, hy⟩
                  rw [ln] at hi
                  dsimp only at hx hy
                  rw [List.getElem?_map] at hx
                  rw [List.getElem?_drop, List.getElem?_map, Nat.add_comm] at hy
                  obtain ⟨u, hu⟩ : ∃ u, (0 :: r : List Int)[i]? = some u := ⟨_, List.getElem?_eq_getElem (by simp; omega)⟩
                  obtain ⟨z, hz⟩ : ∃ z, (0 :: r : List Int)[i + 1]? = some z := ⟨_, List.getElem?_eq_getElem (by simp; omega)⟩
                  rw [hu] at hx
                  rw [hz] at hy
                  cases hx
                  cases hy
                  have es : (steps (0 :: r))[i]? = some (decide (u ≤ z)) := by
                    unfold steps
                    rw [List.getElem?_map, (List.getElem?_zip_eq_some (z := (u, z))).mpr ⟨hu, by rw [List.getElem?_drop, Nat.add_comm]; exact hz⟩]
                    rfl
                  refine ⟨t, [_, _], rfl, SqT.of upd_same, rfl, _, _, rfl, _, _, rfl, rfl, rfl, _, rfl, _, rfl, _, _, rfl, rfl, bls bs, ?_, ?_, bs ++ [decide (u ≤ z)], ?_, ?_, fun b o e => by rw [upd_ne (ne_of_none e hD2), upd_ne (ne_of_none (s4 _ _ e) ht)]; exact s4 _ _ e⟩
                  · rw [upd_ne (ne_of_none hd4 ht)]; exact hd4
                  · rw [bls_len, e4, List.length_take]
                    rw [List.length_map, List.length_cons] at l
                    exact small1000' (by omega)
                  · rw [bls_snoc]
                    exact upd_same
                  · rw [take_snoc es, e4]
                · rintro H4 ⟨bs, hd4, e4, s4⟩
                  have ls : (steps (0 :: r)).length = r.length := by simp [steps]
                  rw [ln, ← ls, List.take_length] at e4
                  refine ⟨D2, bs, rfl, SqL.of hd4, k _ _ (Same.trans sA (Same.trans s3 s4)) ?_⟩
                  rw [e4, steps_pw]
                  constructor
                  · intro pw
                    exact ⟨_, rfl, r, rfl, pw⟩
                  · rintro ⟨ns, e, r', e', pw⟩
                    have := ints_inj (Option.some.inj e)
                    rw [this]
                    exact pw
              · have e0 : decide (V.int n0 = V.int 0) = false := decide_eq_false fun z => c0 (V.int.inj z)
                rw [e0]
                refine iteT (no sA ?_)
                rintro ⟨ns, e, r', e', _⟩
                have := ints_inj (Option.some.inj e)
                rw [e'] at this
                exact c0 (List.cons.inj this).1
      · refine ⟨false, bF (by omega), iteF ⟨false, rfl, iteT (no s1 ?_)⟩⟩
        rintro ⟨ns, e, r, rfl, _⟩
        have := congrArg List.length (Option.some.inj e)
        simp at this
        omega
end
end WW
end

section
set_option Elab.async false
set_option linter.all false
set_option maxRecDepth 100000
set_option maxHeartbeats 4000000
namespace WW
open PySem L2 WO WG RZ WQ WT
/-! ### runs -/
abbrev Two : Type := Option (Option (List V) × Option (List V))
def RunPair (cs gs : List Int) : Prop := Asc0 cs ∧ Asc0 gs ∧ cs.length = gs.length ∧ ∀ (i : Nat) (c g : Int), cs[i]? = some c → gs[i]? = some g → g ≤ c
def RunOk (o : Two) : Prop := ∃ cs gs : List Int, o = some (some (cs.map V.int), some (gs.map V.int)) ∧ RunPair cs gs
def NoTup (K : PySem.W.Frag) (H : Hp) (x : V) : Prop := ∃ t : Value, TyX K H x t ∧ PySem.W.kitOne K t (.type "tuple") = some false
inductive ThIn (K : PySem.W.Frag) (H : Hp) : V → Two → Prop
  | no {x : V} (h : NoTup K H x) : ThIn K H x none
  | len {a : Addr} {ys : List V} (h : SqT K H a ys) (l : ys.length ≠ 2) : ThIn K H (.ref a) none
  | two {a : Addr} {y z : V} {o1 o2 : Option (List V)} (h : SqT K H a [y, z]) (h1 : RowIn K H y o1) (h2 : RowIn K H z o2)
      (hp : ∀ xs ys, o1 = some xs → o2 = some ys → ∃ c g, y = .ref c ∧ z = .ref g ∧ SeqP K H c xs g ys) : ThIn K H (.ref a) (some (o1, o2))
theorem NoTup.same {K : PySem.W.Frag} {H H' : Hp} {x : V} (h : NoTup K H x) (s : Same H H') : NoTup K H' x := by
  obtain ⟨t, h1, h2⟩ := h
  exact ⟨t, TyX.same' s h1, h2⟩
theorem ThIn.same {K : PySem.W.Frag} {H H' : Hp} {x : V} {o : Two} (h : ThIn K H x o) (s : Same H H') : ThIn K H' x o := by
  cases h with
  | no h => exact .no (h.same s)
  | len h l => exact .len (seqT s h) l
  | two h h1 h2 hp =>
    refine .two (seqT s h) (h1.same s) (h2.same s) fun xs ys e1 e2 => ?_
    obtain ⟨c, g, a, b, p⟩ := hp xs ys e1 e2
    exact ⟨c, g, a, b, p.same s⟩
theorem RowIn.len {K : PySem.W.Frag} {H : Hp} {x : V} {xs : List V} (h : RowIn K H x (some xs)) : ∃ a, x = .ref a ∧ SeqA K H a xs ∧ xs.length ≤ 1001 := by
  cases h with
  | seq h fl l => exact ⟨_, rfl, h, l⟩
/-- pairwise at most -/
def below (gs cs : List Int) : List Bool := (List.zip gs cs).map fun p => decide (p.1 ≤ p.2)
theorem below_iff {gs cs : List Int} : (below gs cs).all id = true ↔ ∀ (i : Nat) (c g : Int), cs[i]? = some c → gs[i]? = some g → g ≤ c := by
  unfold below
  rw [List.all_eq_true]
  constructor
  · intro h i c g hc hg
    have hz : (List.zip gs cs)[i]? = some (g, c) := (List.getElem?_zip_eq_some (z := (g, c))).mpr ⟨hg, hc⟩
    have := h (decide (g ≤ c)) (List.mem_map.mpr ⟨(g, c), List.mem_of_getElem? hz, rfl⟩)
    exact of_decide_eq_true this
  · intro h b hb
    obtain ⟨⟨g, c⟩, hm, rfl⟩ := List.mem_map.mp hb
    obtain ⟨i, hi, e⟩ := List.mem_iff_getElem.mp hm
    have hz : (List.zip gs cs)[i]? = some (g, c) := by rw [List.getElem?_eq_getElem hi, e]
    have z := (List.getElem?_zip_eq_some (z := (g, c))).mp hz
    exact decide_eq_true (h i c g z.2 z.1)
section
variable {P : Program} {w : World} {K : PySem.W.Frag} {mg : Str → Option Value} {base : Heap}
def spIsRun (K : PySem.W.Frag) : Sp := fun vs H Q _ => ∃ (x : V) (o : Two), vs = [x] ∧ ThIn K H x o ∧ ∀ (b : Bool) H', Same H H' → (b = true ↔ RunOk o) → Q (.bl b) H'
abbrev nIsRun : List Str := ["thing", "came", "gone", "less", "more"]
theorem scIsRun : FnScope nIsRun ["thing"] (defScope sIsRun) := ⟨rfl, rfl, rfl, by decide +kernel, rfl, by decide +kernel, by decide +kernel⟩
theorem ok_isRun {f fR : Addr} {fd dR : FuncData} (F : Fun K "is_run" "is_run" sIsRun f fd) (T : RunG mg)
    (GR : FnOk P w K mg base CX0 2 fR dR ["thing"] (spIsRow K)) (kR : PySem.W.keepIn K (.ref fR) = true) (bR : Binds K dR ["thing"] []) (mR : mg "is_row" = some (.ref fR)) :
    FnOk P w K mg base CX0 3 f fd ["thing"] (spIsRun K) := by
  refine F.ok scIsRun (fun vs H Q E h => ?_) (fun cdv A outer s H vs Q E hr h => ?_)
  · obtain ⟨x, o, rfl, _⟩ := h
    rfl
  · obtain ⟨x, o, rfl, h, k⟩ := h
    refine ⟨_, pss_cons (ps_if (PW.pt (pw_or (pt_not (pt_val (pe_callB call_isi (by rfl) T.isi (by decide +kernel) (pa_cons (pv 0) (pa_cons (pe_bltn (v := .ty "tuple") (by rfl) T.tuple (by decide +kernel) rfl) pa_nil)))))
          (pw_or1 (pt_cmpR op_ne (pe_callB call_len_seq (by rfl) T.len PySem.boot_len (pa_cons (pv 0) pa_nil)) pe_int (nomark _)))))
        (pss_one (ps_ret pe_bl)) pss_nil)
      (pss_cons (ps_asg (pv 0) (pg_tup rfl (pgs_cons (pg_name (i := 1) scIsRun.nd rfl (.inl rfl)) (pgs_cons (pg_name (i := 2) scIsRun.nd rfl (.inl rfl)) pgs_nil))))
      (pss_cons (ps_if (PW.pt (pw_or (pt_not (pt_val (pe_call GR hr rfl mR kR bR .nil pass0 (pa_cons (pv 1) pa_nil)))) (pw_or (pt_not (pt_val (pe_call GR hr rfl mR kR bR .nil pass0 (pa_cons (pv 2) pa_nil))))
          (pw_or1 (pt_cmpR op_ne (pe_callB call_len_seq (by rfl) T.len PySem.boot_len (pa_cons (pv 1) pa_nil)) (pe_callB call_len_seq (by rfl) T.len PySem.boot_len (pa_cons (pv 2) pa_nil)) (nomark _))))))
        (pss_one (ps_ret pe_bl)) pss_nil)
      (pss_one (ps_ret (pe_callB (cr_all rfl) (by rfl) T.all (by decide +kernel) (pa_cons
            (pe_lc (own := [("less", 3), ("more", 4)]) (g := gTup K 2 (gCons (gName 3) (gCons (gName 4) gNil))) (tt := tYes) rfl scIsRun.nd (pi_zipS (by rfl) T.zip (pa_cons (pv 2) (pa_cons (pv 1) pa_nil))) (blkOk_by (N := nIsRun) (sc := defScope sIsRun) (by decide +kernel))
              (fun _ _ _ _ _ => pg_tup rfl (pgs_cons (pg_name (i := 3) scIsRun.nd rfl (Or.inl rfl)) (pgs_cons (pg_name (i := 4) scIsRun.nd rfl (Or.inl rfl)) pgs_nil))) (fun _ _ _ _ _ => pts_nil)
              (fun _ _ _ _ _ => pe_cmpR op_le (pv 3) (pv 4) (nomark _))) pa_nil)))))), ?_⟩
    have no : ∀ {H' : Hp}, Same H H' → ¬ RunOk o → Q (.bl false) H' := fun s n => k false _ s ⟨fun z => (by cases z), fun z => absurd z n⟩
    cases h with
    | no h =>
      obtain ⟨t, ty, kt⟩ := h
      exact ⟨_, rfl, x, .ty "tuple", t, .type "tuple", false, rfl, .ty _, ty, kt, false, rfl, iteT (no (Same.refl _) (by rintro ⟨_, _, e, _⟩; cases e))⟩
    | @len a ys h l =>
      refine ⟨_, rfl, .ref a, .ty "tuple", .type "tuple", .type "tuple", true, rfl, .ty _, tyX_seqT h, kit_ty (by decide +kernel), true, rfl, iteF ?_⟩
      refine ⟨_, rfl, a, ys, rfl, .inr h, rfl, true, ?_, iteT (no (Same.refl _) (by rintro ⟨_, _, e, _⟩; cases e))⟩
      have e : decide (V.int (ys.length : Nat) = V.int 2) = false := decide_eq_false fun z => l (by have := V.int.inj z; omega)
      show V.bl (!decide (V.int (ys.length : Nat) = V.int 2)) = _
      rw [e]
      rfl
    | @two a y z o1 o2 h h1 h2 hp =>
      refine ⟨_, rfl, .ref a, .ty "tuple", .type "tuple", .type "tuple", true, rfl, .ty _, tyX_seqT h, kit_ty (by decide +kernel), true, rfl, iteF ?_⟩
      refine ⟨_, rfl, a, [y, z], rfl, .inr h, rfl, false, rfl, iteF ?_⟩
      refine ⟨_, rfl, a, [y, z], rfl, h, rfl, _, _, rfl, _, _, rfl, rfl, ?_⟩
      refine ⟨_, rfl, y, o1, rfl, h1, fun b1 H1 s1 i1 => ⟨b1, rfl, ?_⟩⟩
      cases b1 with
      | false =>
        refine iteT (no s1 ?_)
        rintro ⟨cs, gs, e, p, _⟩
        cases e
        exact absurd (i1.mpr ⟨cs, rfl, p⟩) Bool.false_ne_true
      | true =>
        obtain ⟨cs, rfl, pc⟩ := i1.mp rfl
        refine iteF ⟨_, rfl, z, o2, rfl, h2.same s1, fun b2 H2 s2 i2 => ⟨b2, rfl, ?_⟩⟩
        have sA := Same.trans s1 s2
        cases b2 with
        | false =>
          refine iteT (no sA ?_)
          rintro ⟨cs', gs, e, _, p, _⟩
          injection e with e
          injection e with e1 e2
          exact absurd (i2.mpr ⟨gs, e2, p⟩) Bool.false_ne_true
        | true =>
          obtain ⟨gs, rfl, pg⟩ := i2.mp rfl
          obtain ⟨c, g, rfl, rfl, sp⟩ := hp _ _ rfl rfl
          obtain ⟨_, _, _, lc⟩ := h1.len
          obtain ⟨_, _, _, lg⟩ := h2.len
          rw [List.length_map] at lc lg
          have sp2 := sp.same sA
          refine iteF ⟨_, rfl, c, _, rfl, sp2.l, _, rfl, g, _, rfl, sp2.r, rfl, !decide (cs.length = gs.length), ?_, ?_⟩
          · show V.bl (!decide (V.int _ = V.int _)) = _
            congr 2
            exact decide_eq_decide.mpr ⟨fun q => by have := V.int.inj q; simp only [List.length_map] at this; omega, fun q => by simp only [List.length_map, q]⟩
          · by_cases el : cs.length = gs.length
            · rw [decide_eq_true el]
              refine iteF ?_
              refine ⟨_, rfl, _, rfl, g, c, _, _, rfl, sp2.swap, fun J G wk st D hD => lc_it wk (fun i H4 => ∃ bs : List Bool, H4 D = some (.lst (bls bs)) ∧ bs = (below gs cs).take i ∧ Same H2 H4) ⟨[], upd_same, rfl, same_new hD⟩ (fun i H4 _ ⟨_, _, _, s4⟩ => st _ (.of s4 _ _) (.of s4 _ _)) ?_ ?_⟩
              · rintro i v H4 H5 hi ⟨bs, hd4, e4, s4⟩ ⟨t, x, y, rfl, ht, rfl, hx, hy⟩
                dsimp only at hx hy
                rw [List.length_map, List.length_map] at hi
                rw [List.getElem?_map] at hx hy
                obtain ⟨u, hu⟩ : ∃ u, gs[i]? = some u := ⟨_, List.getElem?_eq_getElem (by omega)⟩
                obtain ⟨z, hz⟩ : ∃ z, cs[i]? = some z := ⟨_, List.getElem?_eq_getElem (by omega)⟩
                rw [hu] at hx
                rw [hz] at hy
                cases hx
                cases hy
                have es : (below gs cs)[i]? = some (decide (u ≤ z)) := by
                  unfold below
                  rw [List.getElem?_map, (List.getElem?_zip_eq_some (z := (u, z))).mpr ⟨hu, hz⟩]
                  rfl
                refine ⟨t, [_, _], rfl, SqT.of upd_same, rfl, _, _, rfl, _, _, rfl, rfl, rfl, _, rfl, _, rfl, _, _, rfl, rfl, bls bs, ?_, ?_, bs ++ [decide (u ≤ z)], ?_, ?_, fun b o e => by rw [upd_ne (ne_of_none e hD), upd_ne (ne_of_none (s4 _ _ e) ht)]; exact s4 _ _ e⟩
                · rw [upd_ne (ne_of_none hd4 ht)]; exact hd4
                · rw [bls_len, e4, List.length_take]
                  exact small1000' (by omega)
                · rw [bls_snoc]
                  exact upd_same
                · rw [take_snoc es, e4]
              · rintro H4 ⟨bs, hd4, e4, s4⟩
                have ls : (below gs cs).length = min gs.length cs.length := by unfold below; rw [List.length_map, List.length_zip]
                rw [List.length_map, List.length_map, ← ls, List.take_length] at e4
                refine ⟨D, bs, rfl, SqL.of hd4, k _ _ (Same.trans sA s4) ?_⟩
                rw [e4, below_iff]
                constructor
                · intro q
                  exact ⟨cs, gs, rfl, pc, pg, el, q⟩
                · rintro ⟨cs', gs', e, _, _, _, q⟩
                  injection e with e
                  injection e with e1 e2
                  have a1 := ints_inj (Option.some.inj e1)
                  have a2 := ints_inj (Option.some.inj e2)
                  rw [a1, a2]
                  exact q
            · rw [decide_eq_false el]
              refine iteT (no sA ?_)
              rintro ⟨cs', gs', e, _, _, q, _⟩
              injection e with e
              injection e with e1 e2
              have a1 := ints_inj (Option.some.inj e1)
              have a2 := ints_inj (Option.some.inj e2)
              rw [← a1, ← a2] at q
              exact el q
def spNeedRun (K : PySem.W.Frag) (CR : Addr) : Sp := fun vs H Q E => ∃ (x : V) (o : Two), vs = [x] ∧ ThIn K H x o ∧ (RunOk o → ∀ H', Same H H' → Q .non H') ∧ (¬ RunOk o → ∀ H', Same H H' → E (.ref CR) none H')
theorem scNeedRun : FnScope ["thing"] ["thing"] (defScope sNeedRun) := ⟨rfl, rfl, rfl, by decide +kernel, rfl, by decide +kernel, by decide +kernel⟩
theorem ok_needRun {f fR CR : Addr} {fd dR : FuncData} (F : Fun K "need_run" "need_run" sNeedRun f fd) (B : PlainT K mg "BadRun" CR)
    (GR : FnOk P w K mg base CX0 3 fR dR ["thing"] (spIsRun K)) (kR : PySem.W.keepIn K (.ref fR) = true) (bR : Binds K dR ["thing"] []) (mR : mg "is_run" = some (.ref fR)) :
    FnOk P w K mg base (L2.CX P w) 4 f fd ["thing"] (spNeedRun K CR) := by
  refine F.okX scNeedRun (fun vs H Q E h => ?_) (fun cdv A outer s H vs Q E hr h => ?_)
  · obtain ⟨x, o, rfl, _⟩ := h
    rfl
  · obtain ⟨x, o, rfl, h, k1, k2⟩ := h
    refine ⟨_, pss_one (ps_if (pt_not (pt_val (pe_call GR hr rfl mR kR bR .nil pass0 (pa_cons (pv 0) pa_nil))))
      (pss_one (ps_raise rfl (takes_of rfl rfl rfl rfl) (pmk_own PySem.F.excBase_ValueError B.ex B.gC B.kC (raises_own B.sb B.ty) rfl))) pss_nil), ?_⟩
    refine ⟨_, rfl, x, o, rfl, h, fun b H1 s1 ib => ⟨b, rfl, ?_⟩⟩
    cases b with
    | true => exact iteF (k1 (ib.mp rfl) H1 s1)
    | false => exact iteT (k2 (fun z => absurd (ib.mpr z) Bool.false_ne_true) H1 s1)
def heaps (cs gs : List Int) : List Int := (List.zip cs gs).map fun p => p.1 - p.2
def spHeapsOf (K : PySem.W.Frag) : Sp := fun vs H Q _ => ∃ (a c g : Addr) (cs gs : List Int), vs = [.ref a] ∧ SqT K H a [.ref c, .ref g] ∧ SeqP K H c (cs.map V.int) g (gs.map V.int) ∧ cs.length ≤ 1001 ∧
  ∀ p H', Same H H' → H' p = some (.lst ((heaps cs gs).map V.int)) → Q (.ref p) H'
abbrev nHeapsOf : List Str := ["run", "more", "less"]
theorem scHeapsOf : FnScope nHeapsOf ["run"] (defScope sHeapsOf) := ⟨rfl, rfl, rfl, by decide +kernel, rfl, by decide +kernel, by decide +kernel⟩
theorem ok_heapsOf {f : Addr} {fd : FuncData} (F : Fun K "heaps_of" "heaps_of" sHeapsOf f fd) (T : RunG mg) : FnOk P w K mg base CX0 1 f fd ["run"] (spHeapsOf K) := by
  refine F.ok scHeapsOf (fun vs H Q E h => ?_) (fun cdv A outer s H vs Q E hr h => ?_)
  · obtain ⟨a, c, g, cs, gs, rfl, _⟩ := h
    rfl
  · obtain ⟨a, c, g, cs, gs, rfl, h, sp, l, k⟩ := h
    refine ⟨_, pss_one (ps_ret (pe_lc (own := [("more", 1), ("less", 2)]) (g := gTup K 2 (gCons (gName 1) (gCons (gName 2) gNil))) (tt := tYes) rfl scHeapsOf.nd (pi_zipS (by rfl) T.zip (pa_cons (pe_ix ix_tup (pv 0) pe_int (fun _ _ => rfl)) (pa_cons (pe_ix ix_tup (pv 0) pe_int (fun _ _ => rfl)) pa_nil))) (blkOk_by (N := nHeapsOf) (sc := defScope sHeapsOf) (by decide +kernel))
              (fun _ _ _ _ _ => pg_tup rfl (pgs_cons (pg_name (i := 1) scHeapsOf.nd rfl (Or.inl rfl)) (pgs_cons (pg_name (i := 2) scHeapsOf.nd rfl (Or.inl rfl)) pgs_nil))) (fun _ _ _ _ _ => pts_nil)
              (fun _ _ _ _ _ => pe_op op_sub (pv 1) (pv 2)))), ?_⟩
    refine ⟨_, rfl, a, _, _, .ref c, rfl, rfl, h, atI_nat (j := 0) rfl, _, rfl, a, _, _, .ref g, rfl, rfl, h, atI_nat (j := 1) rfl, ?_⟩
    refine ⟨c, g, _, _, rfl, sp, fun J G wk st D hD => lc_it wk (fun i H4 => H4 D = some (.lst (((heaps cs gs).take i).map V.int)) ∧ Same H H4) ⟨upd_same, same_new hD⟩ (fun i H4 _ ⟨_, s4⟩ => st _ (.of s4 _ _) (.of s4 _ _)) ?_ ?_⟩
    · rintro i v H4 H5 hi ⟨hd4, s4⟩ ⟨t, x, y, rfl, ht, rfl, hx, hy⟩
      dsimp only at hx hy
      rw [List.length_map, List.length_map] at hi
      rw [List.getElem?_map] at hx hy
      obtain ⟨u, hu⟩ : ∃ u, cs[i]? = some u := ⟨_, List.getElem?_eq_getElem (by omega)⟩
      obtain ⟨z, hz⟩ : ∃ z, gs[i]? = some z := ⟨_, List.getElem?_eq_getElem (by omega)⟩
      rw [hu] at hx
      rw [hz] at hy
      cases hx
      cases hy
      have es : (heaps cs gs)[i]? = some (u - z) := by
        unfold heaps
        rw [List.getElem?_map, (List.getElem?_zip_eq_some (z := (u, z))).mpr ⟨hu, hz⟩]
        rfl
      refine ⟨t, [_, _], rfl, SqT.of upd_same, rfl, _, _, rfl, _, _, rfl, rfl, rfl, _, rfl, _, rfl, _, _, rfl, rfl, ((heaps cs gs).take i).map V.int, ?_, ?_, ?_, fun b o e => by rw [upd_ne (ne_of_none e hD), upd_ne (ne_of_none (s4 _ _ e) ht)]; exact s4 _ _ e⟩
      · rw [upd_ne (ne_of_none hd4 ht)]; exact hd4
      · rw [List.length_map, List.length_take]
        exact small1000' (by omega)
      · rw [take_snoc es, List.map_append]
        exact upd_same
    · rintro H4 ⟨hd4, s4⟩
      have ls : (heaps cs gs).length = min cs.length gs.length := by unfold heaps; rw [List.length_map, List.length_zip]
      rw [List.length_map, List.length_map, ← ls, List.take_length] at hd4
      exact k D H4 s4 hd4
def spHeaps (K : PySem.W.Frag) (CR : Addr) : Sp := fun vs H Q E => ∃ (x : V) (o : Two), vs = [x] ∧ ThIn K H x o ∧
  (∀ cs gs : List Int, o = some (some (cs.map V.int), some (gs.map V.int)) → RunPair cs gs → ∀ p H', Same H H' → H' p = some (.lst ((heaps cs gs).map V.int)) → Q (.ref p) H') ∧ (¬ RunOk o → ∀ H', Same H H' → E (.ref CR) none H')
theorem scHeaps : FnScope ["run"] ["run"] (defScope sHeaps) := ⟨rfl, rfl, rfl, by decide +kernel, rfl, by decide +kernel, by decide +kernel⟩
theorem ok_heaps {f fR fO CR : Addr} {fd dR dO : FuncData} (F : Fun K "run_heaps" "run_heaps" sHeaps f fd)
    (GR : FnOk P w K mg base (L2.CX P w) 4 fR dR ["thing"] (spNeedRun K CR)) (kR : PySem.W.keepIn K (.ref fR) = true) (bR : Binds K dR ["thing"] []) (mR : mg "need_run" = some (.ref fR))
    (GO : FnOk P w K mg base CX0 1 fO dO ["run"] (spHeapsOf K)) (kO : PySem.W.keepIn K (.ref fO) = true) (bO : Binds K dO ["run"] []) (mO : mg "heaps_of" = some (.ref fO)) :
    FnOk P w K mg base (L2.CX P w) 5 f fd ["run"] (spHeaps K CR) := by
  refine F.okX scHeaps (fun vs H Q E h => ?_) (fun cdv A outer s H vs Q E hr h => ?_)
  · obtain ⟨x, o, rfl, _⟩ := h
    rfl
  · obtain ⟨x, o, rfl, h, k1, k2⟩ := h
    have hr1 := hr.mono (show 1 ≤ 4 by decide)
    refine ⟨_, pss_cons (ps_expr (pe_call GR hr rfl mR kR bR .nil (passX (E := E) (takes_of rfl rfl rfl rfl) (fun _ _ _ _ h => h)) (pa_cons (pv 0) pa_nil)))
      (pss_one (ps_ret (pe_call GO hr1 rfl mO kO bO .nil pass0 (pa_cons (pv 0) pa_nil)))), ?_⟩
    refine ⟨_, rfl, x, o, rfl, h, fun ro H1 s1 => ?_, k2⟩
    obtain ⟨cs, gs, rfl, rp⟩ := ro
    cases h with
    | @two a y z o1 o2 h h1 h2 hp =>
      obtain ⟨c, g, rfl, rfl, sp⟩ := hp _ _ rfl rfl
      obtain ⟨_, _, _, lc⟩ := h1.len
      rw [List.length_map] at lc
      exact ⟨_, rfl, a, c, g, cs, gs, rfl, seqT s1 h, sp.same s1, lc, fun p H' s' hp' => k1 cs gs rfl rp p H' (Same.trans s1 s') hp'⟩
end
end WW
end

section
set_option Elab.async false
set_option linter.all false
set_option maxRecDepth 100000
set_option maxHeartbeats 4000000
namespace WW
open PySem L2 WO WG RZ WQ WT
/-! ### waits -/
def hit (cs gs : List Int) (t d : Nat) : Bool := decide (cs.getD t 0 ≤ gs.getD (t + d) 0)
def waitV (cs gs : List Int) (t : Nat) : V := match (List.range (gs.length - t)).find? (hit cs gs t) with
  | some d => .int d
  | none => .non
def waits (cs gs : List Int) : List V := (List.range cs.length).map (waitV cs gs)
theorem waits_get {cs gs : List Int} {i : Nat} (h : i < cs.length) : (waits cs gs)[i]? = some (waitV cs gs i) := by
  unfold waits
  rw [List.getElem?_map, List.getElem?_range h]
  rfl
/-- no letter that came ahead of i has left ahead of e -/
def Lo (cs gs : List Int) (i e : Nat) : Prop := ∀ j, i ≤ j → j < e → gs.getD j 0 < cs.getD i 0
theorem waitV_at {cs gs : List Int} {i e : Nat} (h : Lo cs gs i e) (ie : i ≤ e) (he : e < gs.length) (hh : cs.getD i 0 ≤ gs.getD e 0) : waitV cs gs i = .int ((e : Int) - (i : Int)) := by
  have f : (List.range (gs.length - i)).find? (hit cs gs i) = some (e - i) := by
    rw [List.find?_range_eq_some]
    refine ⟨?_, List.mem_range.mpr (by omega), fun j hj => ?_⟩
    · unfold hit
      rw [show i + (e - i) = e by omega]
      exact decide_eq_true hh
    · unfold hit
      have := h (i + j) (by omega) (by omega)
      rw [decide_eq_false (by omega)]
      rfl
  unfold waitV
  rw [f]
  show V.int ((e - i : Nat) : Int) = _
  congr 1
  omega
theorem waitV_no {cs gs : List Int} {i : Nat} (h : Lo cs gs i gs.length) : waitV cs gs i = .non := by
  have f : (List.range (gs.length - i)).find? (hit cs gs i) = none := by
    rw [List.find?_eq_none]
    intro j hj
    have hj := List.mem_range.mp hj
    have := h (i + j) (by omega) (by omega)
    intro q
    have q' : cs.getD i 0 ≤ gs.getD (i + j) 0 := of_decide_eq_true q
    omega
  unfold waitV
  rw [f]
theorem pair_mono {cs gs : List Int} (p : RunPair cs gs) {i : Nat} (h : i + 1 < cs.length) : cs.getD i 0 ≤ cs.getD (i + 1) 0 := by
  obtain ⟨⟨r, e, pw⟩, _⟩ := p
  rw [List.getD_eq_getElem?_getD, List.getD_eq_getElem?_getD, List.getElem?_eq_getElem (show i < cs.length by omega), List.getElem?_eq_getElem h]
  exact List.pairwise_iff_getElem.mp pw i (i + 1) (by omega) h (by omega)
theorem ixA {K : PySem.W.Frag} {H : Hp} {a : Addr} {xs : List V} {i : Int} {v : V} {Q : VK} (h : SeqA K H a xs) (e : atI xs i = some v) (k : Q v H) : rIx K (.ref a) (.int i) H Q := by
  rcases h with h | h
  · exact .inl ⟨a, xs, i, v, rfl, rfl, h, e, k⟩
  · exact .inr (.inl ⟨a, xs, i, v, rfl, rfl, h, e, k⟩)
section
variable {P : Program} {w : World} {K : PySem.W.Frag} {mg : Str → Option Value} {base : Heap}
def spWaits (K : PySem.W.Frag) (CR : Addr) : Sp := fun vs H Q E => ∃ (x : V) (o : Two), vs = [x] ∧ ThIn K H x o ∧
  (∀ cs gs : List Int, o = some (some (cs.map V.int), some (gs.map V.int)) → RunPair cs gs → ∀ p H', H p = none → Same H H' → H' p = some (.lst (waits cs gs)) → Q (.ref p) H') ∧ (¬ RunOk o → ∀ H', Same H H' → E (.ref CR) none H')
abbrev nWaits : List Str := ["run", "came", "gone", "told", "end", "beat", "letters"]
theorem scWaits : FnScope nWaits ["run"] (defScope sWaits) := ⟨rfl, rfl, rfl, by decide +kernel, rfl, by decide +kernel, by decide +kernel⟩
theorem ok_waits {f fR CR : Addr} {fd dR : FuncData} (F : Fun K "run_waits" "run_waits" sWaits f fd) (T : RunG mg)
    (GR : FnOk P w K mg base (L2.CX P w) 4 fR dR ["thing"] (spNeedRun K CR)) (kR : PySem.W.keepIn K (.ref fR) = true) (bR : Binds K dR ["thing"] []) (mR : mg "need_run" = some (.ref fR)) :
    FnOk P w K mg base (L2.CX P w) 5 f fd ["run"] (spWaits K CR) := by
  refine F.okX scWaits (fun vs H Q E h => ?_) (fun cdv A outer s H vs Q E hr h => ?_)
  · obtain ⟨x, o, rfl, _⟩ := h
    rfl
  · obtain ⟨x, o, rfl, h, k1, k2⟩ := h
    refine ⟨_, pss_cons (ps_expr (pe_call GR hr rfl mR kR bR .nil (passX (E := E) (takes_of rfl rfl rfl rfl) (fun _ _ _ _ h => h)) (pa_cons (pv 0) pa_nil)))
      (pss_cons (ps_asg (pv 0) (pg_tup rfl (pgs_cons (pg_name (i := 1) scWaits.nd rfl (.inl rfl)) (pgs_cons (pg_name (i := 2) scWaits.nd rfl (.inl rfl)) pgs_nil))))
      (pss_cons (ps_set (i := 3) scWaits.nd rfl (Or.inl rfl) (pe_lst pa_nil))
      (pss_cons (ps_set (i := 4) scWaits.nd rfl (Or.inl rfl) pe_int)
      (pss_cons (ps_for (passes_of rfl) rfl (pi_enumS (by rfl) T.enumerate (pa_cons (pv 1) pa_nil)) (pg_tup rfl (pgs_cons (pg_name (i := 5) scWaits.nd rfl (Or.inl rfl)) (pgs_cons (pg_name (i := 6) scWaits.nd rfl (Or.inl rfl)) pgs_nil)))
        (pss_cons (ps_set (i := 4) scWaits.nd rfl (Or.inl rfl) (pe_callB (call_max2 rfl) (by rfl) T.max (by decide +kernel) (pa_cons (pv 4) (pa_cons (pv 5) pa_nil))))
        (C8.pss_cut (ps_while (passes_of rfl) (PW.pt (pw_and (pt_cmpR op_lt (pv 4) (pe_callB call_len_seq (by rfl) T.len PySem.boot_len (pa_cons (pv 2) pa_nil)) (nomark _)) (pw_and1 (pt_cmpR op_lt (pe_ix ix_seq (pv 2) (pv 4) (fun _ _ => rfl)) (pv 6) (nomark _)))))
          (pss_one (ps_aug (i := 4) scWaits.nd rfl (Or.inl rfl) pe_int ip_add)))
        (pss_one (ps_expr (pe_bm PySem.F.plainAttrs_list PySem.F.slot_list_append PySem.F.type_list_append mt_append (pv 3) (pa_cons
          (pe_ifExp (pt_cmpR op_lt (pv 4) (pe_callB call_len_seq (by rfl) T.len PySem.boot_len (pa_cons (pv 2) pa_nil)) (nomark _)) (pe_op op_sub (pv 4) (pv 5)) pe_non) pa_nil)))))))
      (pss_one (ps_ret (pv 3))))))), ?_⟩
    refine ⟨_, rfl, x, o, rfl, h, fun ro H1 s1 => ?_, k2⟩
    obtain ⟨cs, gs, rfl, rp⟩ := ro
    cases h with
    | @two a y z o1 o2 h h1 h2 hp =>
      obtain ⟨c, g, rfl, rfl, sp⟩ := hp _ _ rfl rfl
      obtain ⟨_, _, _, lc⟩ := h1.len
      rw [List.length_map] at lc
      have sp1 := sp.same s1
      have ln := rp.2.2.1
      refine ⟨_, rfl, a, [_, _], rfl, seqT s1 h, rfl, _, _, rfl, _, _, rfl, rfl, ?_⟩
      refine ⟨(by decide), fun l hl => ?_⟩
      generalize g2 : upd H1 l _ = H2
      obtain ⟨s2, f2⟩ := alloc g2 hl
      refine ⟨_, rfl, c, _, rfl, sp1.l.same s2, fun J G wk st => for_it wk (fun i σ H3 => ∃ (e : Nat) (v5 v6 : Option V), σ = [some (.ref a), some (.ref c), some (.ref g), some (.ref l), some (.int e), v5, v6] ∧ e ≤ gs.length ∧ Lo cs gs i e ∧ H3 l = some (.lst ((waits cs gs).take i)) ∧ Same H1 H3) ?_ ?_ ?_ ?_⟩
      · exact ⟨0, _, _, rfl, Nat.zero_le _, fun j _ h => absurd h (Nat.not_lt_zero _), f2, s2⟩
      · rintro i σ H3 hi ⟨e, v5, v6, rfl, _, _, _, s3⟩
        refine st _ (KeepS.past g2 s3 (fun z => ?_) (fun z => by cases z) (fun _ _ z => by cases z))
        obtain ⟨⟨r, e, _⟩, _⟩ := rp
        rw [e] at z
        cases z
      · rintro i v σ H3 H4 hi ⟨e, v5, v6, rfl, el, lo, hl3, s3⟩ ⟨t, x, y, rfl, ht, rfl, hx, hy⟩
        dsimp only at hx hy
        cases hx
        rw [List.length_map] at hi
        have hc : cs[i]? = some (cs.getD i 0) := by
          rw [List.getD_eq_getElem?_getD, List.getElem?_eq_getElem hi]
          rfl
        rw [List.getElem?_map, hc] at hy
        cases hy
        generalize g4 : upd H3 t _ = H4
        obtain ⟨s4, f4⟩ := alloc g4 ht
        have hl4 := s4 _ _ hl3
        have sB := Same.trans s3 s4
        have spB := sp1.same sB
        refine ⟨t, [_, _], rfl, SqT.of f4, rfl, _, _, rfl, _, _, rfl, rfl, ?_⟩
        refine ⟨_, rfl, _, rfl, _, _, rfl, ?_⟩
        refine ⟨fun σ' H' => ∃ e' : Nat, σ' = [some (.ref a), some (.ref c), some (.ref g), some (.ref l), some (.int e'), some (.int (i : Nat)), some (.int (cs.getD i 0))] ∧ i ≤ e' ∧ e' ≤ gs.length ∧ Lo cs gs i e' ∧ (e' < gs.length → cs.getD i 0 ≤ gs.getD e' 0) ∧ H' = H4, ?_, ?_⟩
        · refine while_by (fun σ' H' => ∃ e' : Nat, σ' = [some (.ref a), some (.ref c), some (.ref g), some (.ref l), some (.int e'), some (.int (i : Nat)), some (.int (cs.getD i 0))] ∧ i ≤ e' ∧ e' ≤ gs.length ∧ Lo cs gs i e' ∧ H' = H4)
            (fun σ' _ => match σ' with
              | [_, _, _, _, some (.int e'), _, _] => gs.length - e'.toNat
              | _ => 0) ⟨max e i, ?_, Nat.le_max_right _ _, by omega, fun j h1 h2 => lo j h1 (by omega), rfl⟩ ?_ ?_
          · show [_, _, _, _, some (V.int (if ((i : Nat) : Int) > (e : Int) then ((i : Nat) : Int) else (e : Int))), _, _] = _
            rw [show (if ((i : Nat) : Int) > (e : Int) then ((i : Nat) : Int) else (e : Int)) = ((max e i : Nat) : Int) by split <;> omega]
          · rintro σ' H' ⟨e', rfl, ie, ee, lo', rfl⟩
            refine ⟨_, rfl, _, rfl, g, _, rfl, spB.r, _, _, rfl, rfl, _, rfl, ?_⟩
            by_cases c1 : e' < gs.length
            · rw [decide_eq_true (show (e' : Int) < (((gs.map V.int).length : Nat) : Int) by rw [List.length_map]; omega)]
              have hg : gs[e']? = some (gs.getD e' 0) := by
                rw [List.getD_eq_getElem?_getD, List.getElem?_eq_getElem c1]
                rfl
              have ea : atI (gs.map V.int) (e' : Int) = some (.int (gs.getD e' 0)) := atI_nat (by rw [List.getElem?_map, hg]; rfl)
              refine iteT ⟨_, rfl, _, rfl, ixA spB.r ea ⟨_, rfl, _, _, rfl, rfl, _, rfl, ?_⟩⟩
              by_cases c2 : gs.getD e' 0 < cs.getD i 0
              · rw [decide_eq_true c2]
                refine iteT ⟨_, rfl, _, _, rfl, rfl, ⟨e' + 1, ?_, by omega, by omega, fun j h1 h2 => ?_, rfl⟩, ?_⟩
                · show [_, _, _, _, some (V.int ((e' : Int) + 1)), _, _] = _
                  rw [show ((e' : Int) + 1) = ((e' + 1 : Nat) : Int) by omega]
                · by_cases ej : j = e'
                  · rw [ej]
                    exact c2
                  · exact lo' j h1 (by omega)
                · show gs.length - ((e' : Int) + 1).toNat < gs.length - ((e' : Int)).toNat
                  omega
              · rw [decide_eq_false c2]
                exact iteF ⟨e', rfl, ie, ee, lo', fun _ => by omega, rfl⟩
            · rw [decide_eq_false (show ¬ (e' : Int) < (((gs.map V.int).length : Nat) : Int) by rw [List.length_map]; omega)]
              exact iteF (iteF ⟨e', rfl, ie, ee, lo', fun q => absurd q c1, rfl⟩)
          · intro σ' H' Q1 Q2 m h
            obtain ⟨v1, e1, v2, e2, p, ys, e3, hs, i1, j1, e4, e5, b, e6, h⟩ := h
            refine ⟨v1, e1, v2, e2, p, ys, e3, hs, i1, j1, e4, e5, b, e6, ?_⟩
            cases b with
            | false => exact m _ _ h
            | true =>
              obtain ⟨v3, e7, v4, e8, hix⟩ := h
              refine ⟨v3, e7, v4, e8, ?_⟩
              rcases hix with ⟨p, xs, ii, v, a1, a2, a3, a4, v5, a5, i2, j2, a6, a7, b2, a8, q⟩ | ⟨p, xs, ii, v, a1, a2, a3, a4, v5, a5, i2, j2, a6, a7, b2, a8, q⟩ | ⟨p, xs, ii, a1, a2, a3, a4, v5, a9, i2, j2, a6, a7, b2, a8, q⟩
              · exact .inl ⟨p, xs, ii, v, a1, a2, a3, a4, v5, a5, i2, j2, a6, a7, b2, a8, m _ _ q⟩
              · exact .inr (.inl ⟨p, xs, ii, v, a1, a2, a3, a4, v5, a5, i2, j2, a6, a7, b2, a8, m _ _ q⟩)
              · exact .inr (.inr ⟨p, xs, ii, a1, a2, a3, a4, v5, a9, i2, j2, a6, a7, b2, a8, m _ _ q⟩)
        · rintro σ' H' ⟨e', rfl, ie, ee, lo', hh, rfl⟩
          have lo2 : Lo cs gs (i + 1) e' := fun j h1 h2 => by
            have q := lo' j (by omega) h2
            have m := pair_mono rp (i := i) (by omega)
            omega
          have fin : ∀ x : V, x = waitV cs gs i → ∃ (e : Nat) (v5 v6 : Option V), [some (V.ref a), some (.ref c), some (.ref g), some (.ref l), some (.int e'), some (.int (i : Nat)), some (.int (cs.getD i 0))] = [some (.ref a), some (.ref c), some (.ref g), some (.ref l), some (.int e), v5, v6] ∧ e ≤ gs.length ∧ Lo cs gs (i + 1) e ∧
              upd H' l (.lst ((waits cs gs).take i ++ [x])) l = some (.lst ((waits cs gs).take (i + 1))) ∧ Same H1 (upd H' l (.lst ((waits cs gs).take i ++ [x]))) := fun x ex => by
            refine ⟨e', _, _, rfl, ee, lo2, ?_, fun b o z => by rw [upd_ne (ne_of_none z hl)]; exact sB _ _ z⟩
            rw [upd_same, take_snoc (waits_get hi), ex]
          have lz : ((waits cs gs).take i).length < sizeLine := by
            rw [List.length_take]
            exact small1000' (by omega)
          refine ⟨_, rfl, .inl ⟨rfl, _, SqL.of hl4⟩, _, rfl, _, rfl, g, _, rfl, spB.r, _, _, rfl, rfl, _, rfl, ?_⟩
          by_cases c1 : e' < gs.length
          · rw [decide_eq_true (show (e' : Int) < (((gs.map V.int).length : Nat) : Int) by rw [List.length_map]; omega)]
            exact iteT ⟨_, rfl, _, rfl, _, _, rfl, rfl, l, _, _, rfl, rfl, hl4, lz, fin _ (waitV_at lo' ie c1 (hh c1)).symm⟩
          · rw [decide_eq_false (show ¬ (e' : Int) < (((gs.map V.int).length : Nat) : Int) by rw [List.length_map]; omega)]
            have en : e' = gs.length := by omega
            rw [en] at lo'
            exact iteF ⟨l, _, _, rfl, rfl, hl4, lz, fin _ (waitV_no lo').symm⟩
      · rintro σ H3 ⟨e, v5, v6, rfl, _, _, hl3, s3⟩
        rw [List.length_map] at hl3
        have lw : (waits cs gs).length = cs.length := by unfold waits; rw [List.length_map, List.length_range]
        rw [← lw, List.take_length] at hl3
        exact ⟨_, rfl, k1 cs gs rfl rp l H3 (s1.free hl) (Same.trans s1 s3) hl3⟩
end
end WW
end

section
set_option Elab.async false
set_option linter.all false
set_option maxRecDepth 100000
set_option maxHeartbeats 4000000
namespace WW
open PySem L2 WO WG RZ WQ WT
abbrev sIsBundle : Stmt := top 17
abbrev sNeedBundle : Stmt := top 18
abbrev sAdded : Stmt := top 19
abbrev sTogether : Stmt := top 20
/-! ### bundles -/
def twoOf (r : List Int × List Int) : Two := some (some (r.1.map V.int), some (r.2.map V.int))
def BunOk (o : Option (List Two)) : Prop := ∃ rs : List (List Int × List Int), o = some (rs.map twoOf) ∧ 1 ≤ rs.length ∧ rs.length ≤ 8 ∧ (∀ r ∈ rs, RunPair r.1 r.2) ∧ ∃ n, ∀ r ∈ rs, r.1.length = n
def ThAll (K : PySem.W.Frag) (H : Hp) (ys : List V) (os : List Two) : Prop := ys.length = os.length ∧ ∀ (i : Nat) (y : V), ys[i]? = some y → ∃ o, os[i]? = some o ∧ ThIn K H y o
theorem ThAll.same {K : PySem.W.Frag} {H H' : Hp} {ys : List V} {os : List Two} (h : ThAll K H ys os) (s : Same H H') : ThAll K H' ys os :=
  ⟨h.1, fun i y e => by
    obtain ⟨o, e1, e2⟩ := h.2 i y e
    exact ⟨o, e1, e2.same s⟩⟩
inductive BunIn (K : PySem.W.Frag) (H : Hp) : V → Option (List Two) → Prop
  | no {x : V} (h : NoTup K H x) : BunIn K H x none
  | tup {a : Addr} {ys : List V} {os : List Two} (h : SqT K H a ys) (p : ThAll K H ys os) (l : ys.length ≤ 1001) : BunIn K H (.ref a) (some os)
theorem BunIn.same {K : PySem.W.Frag} {H H' : Hp} {x : V} {o : Option (List Two)} (h : BunIn K H x o) (s : Same H H') : BunIn K H' x o := by
  cases h with
  | no h => exact .no (h.same s)
  | tup h p l => exact .tup (seqT s h) (p.same s) l
/-- the values of some truths -/
def Tells (bs : List Bool) (p : Nat → Prop) : Prop := ∀ (i : Nat) (b : Bool), bs[i]? = some b → (b = true ↔ p i)
theorem Tells.all {bs : List Bool} {p : Nat → Prop} (h : Tells bs p) : bs.all id = true ↔ ∀ i, i < bs.length → p i := by
  rw [List.all_eq_true]
  constructor
  · intro q i hi
    have e : bs[i]? = some bs[i] := List.getElem?_eq_getElem hi
    exact (h i _ e).mp (q _ (List.getElem_mem hi))
  · intro q b hb
    obtain ⟨i, hi, e⟩ := List.mem_iff_getElem.mp hb
    exact (h i b (by rw [List.getElem?_eq_getElem hi, e])).mpr (q i hi)
theorem Tells.snoc {bs : List Bool} {p : Nat → Prop} (h : Tells bs p) {b : Bool} (hb : b = true ↔ p bs.length) : Tells (bs ++ [b]) p := by
  intro i c hc
  by_cases hi : i < bs.length
  · rw [List.getElem?_append_left hi] at hc
    exact h i c hc
  · rw [List.getElem?_append_right (by omega)] at hc
    have e : i = bs.length := by
      have := (List.getElem?_eq_some_iff.mp hc).1
      simp at this
      omega
    subst e
    simp at hc
    subst hc
    exact hb
theorem Tells.nil {p : Nat → Prop} : Tells [] p := fun i b h => by simp at h
/-- all parts right: the rows -/
theorem rows_of : ∀ {os : List Two}, (∀ o ∈ os, RunOk o) → ∃ rs : List (List Int × List Int), os = rs.map twoOf ∧ ∀ r ∈ rs, RunPair r.1 r.2
  | [], _ => ⟨[], rfl, fun r h => by cases h⟩
  | o :: q, h => by
    obtain ⟨rs, e, p⟩ := rows_of (os := q) fun x hx => h x (List.mem_cons_of_mem _ hx)
    obtain ⟨cs, gs, e1, p1⟩ := h o (List.mem_cons_self ..)
    refine ⟨(cs, gs) :: rs, by rw [e, e1]; rfl, fun r hr => ?_⟩
    rcases List.mem_cons.mp hr with rfl | hr
    · exact p1
    · exact p r hr
theorem twoOf_inj {r s : List Int × List Int} (h : twoOf r = twoOf s) : r = s := by
  obtain ⟨a, b⟩ := r
  obtain ⟨c, d⟩ := s
  injection h with h
  injection h with h1 h2
  have e1 : a = c := ints_inj (Option.some.inj h1)
  have e2 : b = d := ints_inj (Option.some.inj h2)
  rw [e1, e2]
theorem twos_inj {rs ss : List (List Int × List Int)} (h : rs.map twoOf = ss.map twoOf) : rs = ss := (List.map_inj_right fun _ _ q => twoOf_inj q).mp h
/-- a run's two rows in the heap -/
structure RunAt (K : PySem.W.Frag) (H : Hp) (x : V) (r : List Int × List Int) : Prop where
  ex : ∃ a c g, x = .ref a ∧ SqT K H a [.ref c, .ref g] ∧ SeqP K H c (r.1.map V.int) g (r.2.map V.int)
theorem ThIn.run {K : PySem.W.Frag} {H : Hp} {x : V} {r : List Int × List Int} (h : ThIn K H x (twoOf r)) : RunAt K H x r := by
  obtain ⟨cs, gs⟩ := r
  unfold twoOf at h
  cases h with
  | two h h1 h2 hp =>
    obtain ⟨c, g, rfl, rfl, sp⟩ := hp _ _ rfl rfl
    exact ⟨_, c, g, rfl, h, sp⟩
section
variable {P : Program} {w : World} {K : PySem.W.Frag} {mg : Str → Option Value} {base : Heap}
def rLenS (K : PySem.W.Frag) : List V → Hp → VK → Prop := fun xs H Q => ∃ p ys, xs = [.ref p] ∧ (SqL K H p ys ∨ SqT K H p ys) ∧ Q (.int ys.length) H
theorem call_lenS {X : Cx} : CallR X (.builtin "len") (rLenS X.K) := call_len_seq
def spIsBundle (K : PySem.W.Frag) : Sp := fun vs H Q _ => ∃ (x : V) (o : Option (List Two)), vs = [x] ∧ BunIn K H x o ∧ ∀ (b : Bool) H', Same H H' → (b = true ↔ BunOk o) → Q (.bl b) H'
abbrev nIsBundle : List Str := ["thing", "run"]
theorem scIsBundle : FnScope nIsBundle ["thing"] (defScope sIsBundle) := ⟨rfl, rfl, rfl, by decide +kernel, rfl, by decide +kernel, by decide +kernel⟩
theorem ok_isBundle {f fR : Addr} {fd dR : FuncData} (F : Fun K "is_bundle" "is_bundle" sIsBundle f fd) (T : RunG mg)
    (GR : FnOk P w K mg base CX0 3 fR dR ["thing"] (spIsRun K)) (kR : PySem.W.keepIn K (.ref fR) = true) (bR : Binds K dR ["thing"] []) (mR : mg "is_run" = some (.ref fR)) :
    FnOk P w K mg base CX0 4 f fd ["thing"] (spIsBundle K) := by
  refine F.ok scIsBundle (fun vs H Q E h => ?_) (fun cdv A outer s H vs Q E hr h => ?_)
  · obtain ⟨x, o, rfl, _⟩ := h
    rfl
  · obtain ⟨x, o, rfl, h, k⟩ := h
    obtain ⟨tm, mM⟩ := T.flows
    refine ⟨_, pss_cons (ps_if (PW.pt (pw_or (pt_not (pt_val (pe_callB call_isi (by rfl) T.isi (by decide +kernel) (pa_cons (pv 0) (pa_cons (pe_bltn (v := .ty "tuple") (by rfl) T.tuple (by decide +kernel) rfl) pa_nil)))))
          (pw_or1 (pt_not (pt_chain op_le op_le pe_int (pe_callB call_len_seq (by rfl) T.len PySem.boot_len (pa_cons (pv 0) pa_nil)) (pe_glob (v := .int 8) rfl mM ⟨_, rfl⟩))))))
        (pss_one (ps_ret pe_bl)) pss_nil)
      (pss_cons (ps_if (pt_not (pt_val (pe_callB (cr_all rfl) (by rfl) T.all (by decide +kernel) (pa_cons
            (pe_lc (own := [("run", 1)]) (g := gName 1) (tt := tYes) rfl scIsBundle.nd (pi_tup (pv 0)) (blkOk_by (N := nIsBundle) (sc := defScope sIsBundle) (by decide +kernel)) (fun _ _ _ _ _ => pg_name (i := 1) scIsBundle.nd rfl (Or.inl rfl)) (fun _ _ _ _ _ => pts_nil)
              (fun _ _ _ _ _ => pe_call GR hr rfl mR kR bR .nil pass0 (pa_cons (pv 1) pa_nil))) pa_nil))))
        (pss_one (ps_ret pe_bl)) pss_nil)
      (pss_one (ps_ret (pe_callB (cr_all rfl) (by rfl) T.all (by decide +kernel) (pa_cons
            (pe_lc (own := [("run", 1)]) (g := gName 1) (tt := tYes) rfl scIsBundle.nd (pi_tup (pv 0)) (blkOk_by (N := nIsBundle) (sc := defScope sIsBundle) (by decide +kernel)) (fun _ _ _ _ _ => pg_name (i := 1) scIsBundle.nd rfl (Or.inl rfl)) (fun _ _ _ _ _ => pts_nil)
              (fun _ _ _ _ _ => pe_cmpR op_eq (pe_callB (r := rLenS K) call_lenS (by rfl) T.len PySem.boot_len (pa_cons (pe_ix (r := rIxT K) ix_tup (pv 1) pe_int (fun _ _ => rfl)) pa_nil)) (pe_callB (r := rLenS K) call_lenS (by rfl) T.len PySem.boot_len (pa_cons (pe_ix (r := rIxT K) ix_tup (pe_ix (r := rIxT K) ix_tup (pv 0) pe_int (fun _ _ => rfl)) pe_int (fun _ _ => rfl)) pa_nil)) (nomark _))) pa_nil))))), ?_⟩
    have no : ∀ {H' : Hp}, Same H H' → ¬ BunOk o → Q (.bl false) H' := fun s n => k false _ s ⟨fun z => (by cases z), fun z => absurd z n⟩
    cases h with
    | no h =>
      obtain ⟨t, ty, kt⟩ := h
      exact ⟨_, rfl, x, .ty "tuple", t, .type "tuple", false, rfl, .ty _, ty, kt, false, rfl, iteT (no (Same.refl _) (by rintro ⟨_, e, _⟩; cases e))⟩
    | @tup a ys os h p l =>
      refine ⟨_, rfl, .ref a, .ty "tuple", .type "tuple", .type "tuple", true, rfl, .ty _, tyX_seqT h, kit_ty (by decide +kernel), true, rfl, iteF ?_⟩
      refine ⟨_, rfl, a, ys, rfl, .inr h, _, _, rfl, rfl, ?_⟩
      by_cases c1 : 1 ≤ ys.length
      · refine ⟨true, bT (by omega), iteT ⟨_, _, rfl, rfl, ?_⟩⟩
        by_cases c2 : ys.length ≤ 8
        · refine ⟨true, bT (by omega), iteF ?_⟩
          have ll := p.1
          refine ⟨_, rfl, a, rfl, ⟨_, h⟩, fun D hD => lc_tup (K := K) (a := a) (xs := ys) (fun i H2 => ∃ bs : List Bool, H2 D = some (.lst (bls bs)) ∧ bs.length = i ∧ Tells bs (fun j => ∃ o, os[j]? = some o ∧ RunOk o) ∧ Same H H2) ⟨[], upd_same, rfl, Tells.nil, same_new hD⟩ (fun i H2 _ ⟨_, _, _, _, s2⟩ => seqT s2 h) ?_ ?_⟩
          · rintro i x H2 hx ⟨bs, hd, e, te, s2⟩
            have hi : i < ys.length := (List.getElem?_eq_some_iff.mp hx).1
            obtain ⟨o, ho, th⟩ := p.2 i x hx
            refine ⟨rfl, _, rfl, x, o, rfl, th.same s2, fun b H3 s3 ib => ⟨_, s3 _ _ hd, ?_, bs ++ [b], ?_, ?_, ?_, ?_⟩⟩
            · rw [bls_len, e]
              exact small1000' (by omega)
            · rw [bls_snoc]
              exact upd_same
            · rw [List.length_append, e]
              rfl
            · refine te.snoc ?_
              rw [e]
              constructor
              · intro z
                exact ⟨o, ho, ib.mp z⟩
              · rintro ⟨o', ho', r⟩
                rw [ho] at ho'
                cases ho'
                exact ib.mpr r
            · exact fun b o e => by rw [upd_ne (ne_of_none e hD)]; exact s3 _ _ (s2 b o e)
          · rintro H2 ⟨bs, hd, e, te, s2⟩
            refine ⟨D, bs, rfl, SqL.of hd, bs.all id, rfl, ?_⟩
            cases hb : bs.all id with
            | false =>
              refine iteT (no s2 ?_)
              rintro ⟨rs, er, _, _, rp, _⟩
              cases er
              have : bs.all id = true := te.all.mpr fun i hi => by
                rw [List.length_map] at ll
                have hr : rs[i]? = some (rs[i]'(by omega)) := List.getElem?_eq_getElem _
                exact ⟨_, by rw [List.getElem?_map, hr]; rfl, _, _, rfl, rp _ (List.getElem_mem _)⟩
              rw [this] at hb
              cases hb
            | true =>
              have ok := te.all.mp hb
              obtain ⟨rs, rfl, rp⟩ := rows_of (os := os) fun o ho => by
                obtain ⟨i, hi, eo⟩ := List.mem_iff_getElem.mp ho
                obtain ⟨o', ho', r⟩ := ok i (by omega)
                rw [List.getElem?_eq_getElem hi, eo] at ho'
                cases ho'
                exact r
              rw [List.length_map] at ll
              have h2 := seqT s2 h
              have p2 := p.same s2
              have at2 : ∀ i, (hi : i < ys.length) → RunAt K H2 ys[i] (rs[i]'(by omega)) := fun i hi => by
                obtain ⟨o, ho, th⟩ := p2.2 i ys[i] (List.getElem?_eq_getElem hi)
                rw [List.getElem?_map, List.getElem?_eq_getElem (show i < rs.length by omega)] at ho
                cases ho
                exact th.run
              refine iteF ⟨_, rfl, a, rfl, ⟨_, h2⟩, fun D2 hD2 => lc_tup (K := K) (a := a) (xs := ys) (fun i H3 => ∃ bs : List Bool, H3 D2 = some (.lst (bls bs)) ∧ bs.length = i ∧ Tells bs (fun j => ∃ r r0, rs[j]? = some r ∧ rs[0]? = some r0 ∧ r.1.length = r0.1.length) ∧ Same H2 H3) ⟨[], upd_same, rfl, Tells.nil, same_new hD2⟩ (fun i H3 _ ⟨_, _, _, _, s3⟩ => seqT s3 h2) ?_ ?_⟩
              · rintro i x H3 hx ⟨bs, hd, e, te, s3⟩
                have hi : i < ys.length := (List.getElem?_eq_some_iff.mp hx).1
                have ex := (List.getElem?_eq_some_iff.mp hx).2
                obtain ⟨b1, c1', g1, e1, t1, q1⟩ := (at2 i hi).ex
                obtain ⟨b0, c0, g0, e0, t0, q0⟩ := (at2 0 (by omega)).ex
                rw [ex] at e1
                subst e1
                have hy0 : ys[0]? = some (.ref b0) := by rw [List.getElem?_eq_getElem (show 0 < ys.length by omega), e0]
                have qa := (q1.same s3).l
                have qb := (q0.same s3).l
                refine ⟨rfl, _, rfl, b1, _, _, _, rfl, rfl, seqT s3 t1, atI_nat (j := 0) rfl, c1', _, rfl, qa, ?_⟩
                refine ⟨_, rfl, a, _, _, _, rfl, rfl, seqT s3 h2, atI_nat (j := 0) hy0, b0, _, _, _, rfl, rfl, seqT s3 t0, atI_nat (j := 0) rfl, c0, _, rfl, qb, rfl, ?_⟩
                refine ⟨_, hd, ?_, bs ++ [decide (V.int (((rs[i]'(by omega)).1.map V.int).length : Nat) = V.int (((rs[0]'(by omega)).1.map V.int).length : Nat))], ?_, ?_, ?_, ?_⟩
                · rw [bls_len, e]
                  exact small1000' (by omega)
                · rw [bls_snoc]
                  exact upd_same
                · rw [List.length_append, e]
                  rfl
                · refine te.snoc ?_
                  rw [e, decide_eq_true_iff]
                  constructor
                  · intro z
                    have := V.int.inj z
                    simp only [List.length_map] at this
                    exact ⟨_, _, List.getElem?_eq_getElem (by omega), List.getElem?_eq_getElem (by omega), by omega⟩
                  · rintro ⟨r, r0, hr, hr0, el⟩
                    have a1 := (List.getElem?_eq_some_iff.mp hr).2
                    have a2 := (List.getElem?_eq_some_iff.mp hr0).2
                    rw [a1, a2]
                    simp only [List.length_map, el]
                · exact fun b o e => by rw [upd_ne (ne_of_none e hD2)]; exact s3 _ _ e
              · rintro H3 ⟨bs, hd, e, te, s3⟩
                refine ⟨D2, bs, rfl, SqL.of hd, k _ _ (Same.trans s2 s3) ?_⟩
                rw [te.all]
                constructor
                · intro q
                  refine ⟨rs, rfl, by omega, by omega, rp, (rs[0]'(by omega)).1.length, fun r hr => ?_⟩
                  obtain ⟨i, hi, er⟩ := List.mem_iff_getElem.mp hr
                  obtain ⟨r', r0, h1, h2', el⟩ := q i (by omega)
                  have a1 := (List.getElem?_eq_some_iff.mp h1).2
                  have a2 := (List.getElem?_eq_some_iff.mp h2').2
                  rw [a2, ← er, a1]
                  exact el
                · rintro ⟨ss, es, _, _, _, n, hn⟩ i hi
                  have := twos_inj (Option.some.inj es)
                  subst this
                  exact ⟨_, _, List.getElem?_eq_getElem (by omega), List.getElem?_eq_getElem (by omega), by rw [hn _ (List.getElem_mem _), hn _ (List.getElem_mem _)]⟩
        · refine ⟨false, bF (by omega), iteT (no (Same.refl _) ?_)⟩
          rintro ⟨rs, e, _, l8, _⟩
          cases e
          have ll := p.1
          rw [List.length_map] at ll
          omega
      · refine ⟨false, bF (by omega), iteF ⟨false, rfl, iteT (no (Same.refl _) ?_)⟩⟩
        rintro ⟨rs, e, l1, _⟩
        cases e
        have ll := p.1
        rw [List.length_map] at ll
        omega
def spNeedBundle (K : PySem.W.Frag) (CB : Addr) : Sp := fun vs H Q E => ∃ (x : V) (o : Option (List Two)), vs = [x] ∧ BunIn K H x o ∧ (BunOk o → ∀ H', Same H H' → Q .non H') ∧ (¬ BunOk o → ∀ H', Same H H' → E (.ref CB) none H')
theorem scNeedBundle : FnScope ["thing"] ["thing"] (defScope sNeedBundle) := ⟨rfl, rfl, rfl, by decide +kernel, rfl, by decide +kernel, by decide +kernel⟩
theorem ok_needBundle {f fR CB : Addr} {fd dR : FuncData} (F : Fun K "need_bundle" "need_bundle" sNeedBundle f fd) (B : PlainT K mg "BadBundle" CB)
    (GR : FnOk P w K mg base CX0 4 fR dR ["thing"] (spIsBundle K)) (kR : PySem.W.keepIn K (.ref fR) = true) (bR : Binds K dR ["thing"] []) (mR : mg "is_bundle" = some (.ref fR)) :
    FnOk P w K mg base (L2.CX P w) 5 f fd ["thing"] (spNeedBundle K CB) := by
  refine F.okX scNeedBundle (fun vs H Q E h => ?_) (fun cdv A outer s H vs Q E hr h => ?_)
  · obtain ⟨x, o, rfl, _⟩ := h
    rfl
  · obtain ⟨x, o, rfl, h, k1, k2⟩ := h
    refine ⟨_, pss_one (ps_if (pt_not (pt_val (pe_call GR hr rfl mR kR bR .nil pass0 (pa_cons (pv 0) pa_nil))))
      (pss_one (ps_raise rfl (takes_of rfl rfl rfl rfl) (pmk_own PySem.F.excBase_ValueError B.ex B.gC B.kC (raises_own B.sb B.ty) rfl))) pss_nil), ?_⟩
    refine ⟨_, rfl, x, o, rfl, h, fun b H1 s1 ib => ⟨b, rfl, ?_⟩⟩
    cases b with
    | true => exact iteF (k1 (ib.mp rfl) H1 s1)
    | false => exact iteT (k2 (fun z => absurd (ib.mpr z) Bool.false_ne_true) H1 s1)
end
end WW
end

section
set_option Elab.async false
set_option linter.all false
set_option maxRecDepth 100000
set_option maxHeartbeats 4000000
namespace WW
open PySem L2 WO WG RZ WQ WT
abbrev sSums : Stmt := top 31
/-! ### sums, beat by beat -/
def colSum (ms : List (List Int)) (b : Nat) : Int := (ms.map fun m => m.getD b 0).sum
def colSums (ms : List (List Int)) (n : Nat) : List Int := (List.range n).map (colSum ms)
def RowsAt (K : PySem.W.Frag) (H : Hp) (ps : List Addr) (ms : List (List Int)) (n : Nat) : Prop :=
  ps.length = ms.length ∧ ∀ (i : Nat) (p : Addr) (m : List Int), ps[i]? = some p → ms[i]? = some m → SeqA K H p (m.map V.int) ∧ m.length = n
theorem RowsAt.same {K : PySem.W.Frag} {H H' : Hp} {ps : List Addr} {ms : List (List Int)} {n : Nat} (h : RowsAt K H ps ms n) (s : Same H H') : RowsAt K H' ps ms n :=
  ⟨h.1, fun i p m e1 e2 => ⟨(h.2 i p m e1 e2).1.same s, (h.2 i p m e1 e2).2⟩⟩
section
variable {P : Program} {w : World} {K : PySem.W.Frag} {mg : Str → Option Value} {base : Heap}
def spAdded (K : PySem.W.Frag) : Sp := fun vs H Q _ => ∃ (a : Addr) (ps : List Addr) (ms : List (List Int)) (n : Nat), vs = [.ref a] ∧ SqL K H a (ps.map V.ref) ∧ RowsAt K H ps ms n ∧ 1 ≤ ms.length ∧ ms.length ≤ 100 ∧ n ≤ 1001 ∧
  ∀ p H', H p = none → Same H H' → H' p = some (.tup ((colSums ms n).map V.int)) → Q (.ref p) H'
abbrev nAdded : List Str := ["rows", "beat", "row"]
theorem scAdded : FnScope nAdded ["rows"] (defScope sAdded) := ⟨rfl, rfl, rfl, by decide +kernel, rfl, by decide +kernel, by decide +kernel⟩
theorem ok_added {f : Addr} {fd : FuncData} (F : Fun K "added_up" "added_up" sAdded f fd) (T : RunG mg) : FnOk P w K mg base CX0 1 f fd ["rows"] (spAdded K) := by
  refine F.ok scAdded (fun vs H Q E h => ?_) (fun cdv A outer s H vs Q E hr h => ?_)
  · obtain ⟨a, ps, ms, n, rfl, _⟩ := h
    rfl
  · obtain ⟨a, ps, ms, n, rfl, h, ra, l1, l2, nz, k⟩ := h
    refine ⟨_, pss_one (ps_ret (pe_callTy call_tuple_of (by rfl) T.tuple (by decide +kernel) (pa_cons
      (pe_lc (own := [("beat", 1)]) (g := gName 1) (tt := tYes) rfl scAdded.nd (pi_range1 (by rfl) T.range (pa_cons (pe_callB call_len_seq (by rfl) T.len PySem.boot_len (pa_cons (pe_ix ix_list (pv 0) pe_int (fun _ _ => rfl)) pa_nil)) pa_nil)) (blkOk_by (N := nAdded) (sc := defScope sAdded) (by decide +kernel)) (fun _ _ _ _ _ => pg_name (i := 1) scAdded.nd rfl (Or.inr rfl)) (fun _ _ _ _ _ => pts_nil)
        (fun _ _ _ _ _ => pe_callB (r := rSum K) (cr_sum rfl) (by rfl) T.sum (by decide +kernel) (pa_cons
          (pe_lc (wi := iList K (tVar 0)) (own := [("row", 2)]) (g := gName 2) (tt := tYes) rfl scAdded.nd (pi_list (pv 0)) ⟨rfl, by decide +kernel, fun q hq => (by
            cases List.mem_singleton.mp hq
            rfl), fun y hy e => (by
            simp only [List.mem_cons, List.not_mem_nil, or_false] at hy
            rcases hy with rfl | rfl | rfl
            · cases e
            · cases e
            · exact .inl rfl), fun y hy e => (by
            simp only [List.mem_cons, List.not_mem_nil, or_false] at hy
            rcases hy with rfl | rfl | rfl
            · exact .inr (show (".0" : Str) ∉ nAdded by decide +kernel)
            · exact .inl (by decide +kernel)
            · rcases e with e | e <;> cases e)⟩ (fun _ _ _ _ _ => pg_name (i := 2) scAdded.nd rfl (Or.inl rfl)) (fun _ _ _ _ _ => pts_nil)
            (fun _ _ _ _ _ => pe_ix (r := rIx K) ix_seq (pv 2) (pv 1) (fun _ _ => rfl))) pa_nil))) pa_nil))), ?_⟩
    obtain ⟨q0, hq0⟩ : ∃ q0, ps[0]? = some q0 := ⟨_, List.getElem?_eq_getElem (by have := ra.1; omega)⟩
    obtain ⟨m0, hm0⟩ : ∃ m0, ms[0]? = some m0 := ⟨_, List.getElem?_eq_getElem (by omega)⟩
    obtain ⟨s0, n0⟩ := ra.2 0 q0 m0 hq0 hm0
    refine ⟨_, rfl, a, _, _, .ref q0, rfl, rfl, h, atI_nat (j := 0) (by rw [List.getElem?_map, hq0]; rfl), q0, _, rfl, s0, _, rfl, ?_⟩
    rw [show ((m0.map V.int).length : Nat) = n by rw [List.length_map, n0]]
    refine ⟨by omega, by omega, fun D hD => lc_range (lo := 0) (n := n) (fun i H2 => H2 D = some (.lst (((colSums ms n).take i).map V.int)) ∧ Same H H2) ⟨upd_same, same_new hD⟩ ?_ ?_⟩
    · rintro i H2 hi ⟨hd, s2⟩
      have es : (colSums ms n)[i]? = some (colSum ms i) := by
        unfold colSums
        rw [List.getElem?_map, List.getElem?_range hi]
        rfl
      refine ⟨rfl, _, rfl, a, rfl, ⟨_, s2.seq h⟩, fun D2 hD2 => lc_list (K := K) (a := a) (xs := ps.map V.ref) (fun j H3 => H3 D2 = some (.lst (((ms.take j).map fun m => m.getD i 0).map V.int)) ∧ Same H2 H3) ⟨upd_same, same_new hD2⟩ (fun j H3 _ ⟨_, s3⟩ => (Same.trans s2 s3).seq h) ?_ ?_⟩
      · rintro j x H3 hx ⟨hd2, s3⟩
        rw [List.getElem?_map] at hx
        obtain ⟨p, hp⟩ : ∃ p, ps[j]? = some p := by
          cases e : ps[j]? with
          | none => rw [e] at hx; cases hx
          | some p => exact ⟨p, rfl⟩
        rw [hp] at hx
        cases hx
        have lj : j < ps.length := (List.getElem?_eq_some_iff.mp hp).1
        obtain ⟨m, hm⟩ : ∃ m, ms[j]? = some m := ⟨_, List.getElem?_eq_getElem (by have := ra.1; omega)⟩
        obtain ⟨sq, ln⟩ := ra.2 j p m hp hm
        have ei : atI (m.map V.int) (0 + (i : Int)) = some (.int (m.getD i 0)) := by
          rw [Int.zero_add]
          refine atI_nat ?_
          rw [List.getElem?_map, List.getD_eq_getElem?_getD, List.getElem?_eq_getElem (by omega)]
          rfl
        refine ⟨rfl, _, rfl, _, rfl, ixA (sq.same (Same.trans s2 s3)) ei ⟨_, hd2, ?_, ?_, fun b o e => by rw [upd_ne (ne_of_none e hD2)]; exact s3 b o e⟩⟩
        · rw [List.length_map, List.length_map, List.length_take]
          exact small1000' (by omega)
        · rw [take_snoc hm, List.map_append, List.map_append]
          exact upd_same
      · rintro H3 ⟨hd2, s3⟩
        have lp : (ps.map V.ref).length = ms.length := by rw [List.length_map]; exact ra.1
        rw [lp, List.take_length] at hd2
        refine ⟨D2, _, rfl, SqL.of hd2, _, s3 _ _ hd, ?_, ?_, fun b o e => by rw [upd_ne (ne_of_none e hD)]; exact s3 _ _ (s2 b o e)⟩
        · rw [List.length_map, List.length_take]
          exact small1000' (by omega)
        · rw [take_snoc es, List.map_append]
          exact upd_same
    · rintro H2 ⟨hd, s2⟩
      have lc : (colSums ms n).length = n := by unfold colSums; rw [List.length_map, List.length_range]
      have e := List.take_length (l := colSums ms n)
      rw [lc] at e
      rw [e] at hd
      refine ⟨D, _, rfl, .inl ⟨SqL.of hd, fun t ht => ?_⟩⟩
      exact k t _ (s2.free ht) (fun b o e => by rw [upd_ne (ne_of_none (s2 _ _ e) ht)]; exact s2 b o e) upd_same
abbrev nSums : List Str := ["rows", "beat", "row_here"]
theorem scSums : FnScope nSums ["rows"] (defScope sSums) := ⟨rfl, rfl, rfl, by decide +kernel, rfl, by decide +kernel, by decide +kernel⟩
theorem ok_sums {f : Addr} {fd : FuncData} (F : Fun K "_law_sums" "_law_sums" sSums f fd) (T : RunG mg) : FnOk P w K mg base CX0 1 f fd ["rows"] (spAdded K) := by
  refine F.ok scSums (fun vs H Q E h => ?_) (fun cdv A outer s H vs Q E hr h => ?_)
  · obtain ⟨a, ps, ms, n, rfl, _⟩ := h
    rfl
  · obtain ⟨a, ps, ms, n, rfl, h, ra, l1, l2, nz, k⟩ := h
    refine ⟨_, pss_one (ps_ret (pe_callTy call_tuple_of (by rfl) T.tuple (by decide +kernel) (pa_cons
      (pe_lc (own := [("beat", 1)]) (g := gName 1) (tt := tYes) rfl scSums.nd (pi_range1 (by rfl) T.range (pa_cons (pe_callB call_len_seq (by rfl) T.len PySem.boot_len (pa_cons (pe_ix ix_list (pv 0) pe_int (fun _ _ => rfl)) pa_nil)) pa_nil)) (blkOk_by (N := nSums) (sc := defScope sSums) (by decide +kernel)) (fun _ _ _ _ _ => pg_name (i := 1) scSums.nd rfl (Or.inr rfl)) (fun _ _ _ _ _ => pts_nil)
        (fun _ _ _ _ _ => pe_callB (r := rSum K) (cr_sum rfl) (by rfl) T.sum (by decide +kernel) (pa_cons
          (pe_lc (wi := iList K (tVar 0)) (own := [("row_here", 2)]) (g := gName 2) (tt := tYes) rfl scSums.nd (pi_list (pv 0)) ⟨rfl, by decide +kernel, fun q hq => (by
            cases List.mem_singleton.mp hq
            rfl), fun y hy e => (by
            simp only [List.mem_cons, List.not_mem_nil, or_false] at hy
            rcases hy with rfl | rfl | rfl
            · cases e
            · cases e
            · exact .inl rfl), fun y hy e => (by
            simp only [List.mem_cons, List.not_mem_nil, or_false] at hy
            rcases hy with rfl | rfl | rfl
            · exact .inr (show (".0" : Str) ∉ nSums by decide +kernel)
            · exact .inl (by decide +kernel)
            · rcases e with e | e <;> cases e)⟩ (fun _ _ _ _ _ => pg_name (i := 2) scSums.nd rfl (Or.inl rfl)) (fun _ _ _ _ _ => pts_nil)
            (fun _ _ _ _ _ => pe_ix (r := rIx K) ix_seq (pv 2) (pv 1) (fun _ _ => rfl))) pa_nil))) pa_nil))), ?_⟩
    obtain ⟨q0, hq0⟩ : ∃ q0, ps[0]? = some q0 := ⟨_, List.getElem?_eq_getElem (by have := ra.1; omega)⟩
    obtain ⟨m0, hm0⟩ : ∃ m0, ms[0]? = some m0 := ⟨_, List.getElem?_eq_getElem (by omega)⟩
    obtain ⟨s0, n0⟩ := ra.2 0 q0 m0 hq0 hm0
    refine ⟨_, rfl, a, _, _, .ref q0, rfl, rfl, h, atI_nat (j := 0) (by rw [List.getElem?_map, hq0]; rfl), q0, _, rfl, s0, _, rfl, ?_⟩
    rw [show ((m0.map V.int).length : Nat) = n by rw [List.length_map, n0]]
    refine ⟨by omega, by omega, fun D hD => lc_range (lo := 0) (n := n) (fun i H2 => H2 D = some (.lst (((colSums ms n).take i).map V.int)) ∧ Same H H2) ⟨upd_same, same_new hD⟩ ?_ ?_⟩
    · rintro i H2 hi ⟨hd, s2⟩
      have es : (colSums ms n)[i]? = some (colSum ms i) := by
        unfold colSums
        rw [List.getElem?_map, List.getElem?_range hi]
        rfl
      refine ⟨rfl, _, rfl, a, rfl, ⟨_, s2.seq h⟩, fun D2 hD2 => lc_list (K := K) (a := a) (xs := ps.map V.ref) (fun j H3 => H3 D2 = some (.lst (((ms.take j).map fun m => m.getD i 0).map V.int)) ∧ Same H2 H3) ⟨upd_same, same_new hD2⟩ (fun j H3 _ ⟨_, s3⟩ => (Same.trans s2 s3).seq h) ?_ ?_⟩
      · rintro j x H3 hx ⟨hd2, s3⟩
        rw [List.getElem?_map] at hx
        obtain ⟨p, hp⟩ : ∃ p, ps[j]? = some p := by
          cases e : ps[j]? with
          | none => rw [e] at hx; cases hx
          | some p => exact ⟨p, rfl⟩
        rw [hp] at hx
        cases hx
        have lj : j < ps.length := (List.getElem?_eq_some_iff.mp hp).1
        obtain ⟨m, hm⟩ : ∃ m, ms[j]? = some m := ⟨_, List.getElem?_eq_getElem (by have := ra.1; omega)⟩
        obtain ⟨sq, ln⟩ := ra.2 j p m hp hm
        have ei : atI (m.map V.int) (0 + (i : Int)) = some (.int (m.getD i 0)) := by
          rw [Int.zero_add]
          refine atI_nat ?_
          rw [List.getElem?_map, List.getD_eq_getElem?_getD, List.getElem?_eq_getElem (by omega)]
          rfl
        refine ⟨rfl, _, rfl, _, rfl, ixA (sq.same (Same.trans s2 s3)) ei ⟨_, hd2, ?_, ?_, fun b o e => by rw [upd_ne (ne_of_none e hD2)]; exact s3 b o e⟩⟩
        · rw [List.length_map, List.length_map, List.length_take]
          exact small1000' (by omega)
        · rw [take_snoc hm, List.map_append, List.map_append]
          exact upd_same
      · rintro H3 ⟨hd2, s3⟩
        have lp : (ps.map V.ref).length = ms.length := by rw [List.length_map]; exact ra.1
        rw [lp, List.take_length] at hd2
        refine ⟨D2, _, rfl, SqL.of hd2, _, s3 _ _ hd, ?_, ?_, fun b o e => by rw [upd_ne (ne_of_none e hD)]; exact s3 _ _ (s2 b o e)⟩
        · rw [List.length_map, List.length_take]
          exact small1000' (by omega)
        · rw [take_snoc es, List.map_append]
          exact upd_same
    · rintro H2 ⟨hd, s2⟩
      have lc : (colSums ms n).length = n := by unfold colSums; rw [List.length_map, List.length_range]
      have e := List.take_length (l := colSums ms n)
      rw [lc] at e
      rw [e] at hd
      refine ⟨D, _, rfl, .inl ⟨SqL.of hd, fun t ht => ?_⟩⟩
      exact k t _ (s2.free ht) (fun b o e => by rw [upd_ne (ne_of_none (s2 _ _ e) ht)]; exact s2 b o e) upd_same
/-- a bundle's rows in the heap -/
theorem bun_rows {K : PySem.W.Frag} {H : Hp} : ∀ {ys : List V} {rs : List (List Int × List Int)}, ThAll K H ys (rs.map twoOf) → ∃ bs cs gs : List Addr, ys = bs.map V.ref ∧ bs.length = rs.length ∧ cs.length = rs.length ∧ gs.length = rs.length ∧
    ∀ (i : Nat) (b : Addr) (r : List Int × List Int), bs[i]? = some b → rs[i]? = some r → ∃ c g, cs[i]? = some c ∧ gs[i]? = some g ∧ SqT K H b [.ref c, .ref g] ∧ SeqP K H c (r.1.map V.int) g (r.2.map V.int)
  | [], [], _ => ⟨[], [], [], rfl, rfl, rfl, rfl, fun i b r h => by simp at h⟩
  | [], _ :: _, h => by have := h.1; simp at this
  | _ :: _, [], h => by have := h.1; simp at this
  | y :: ys, r :: rs, h => by
    obtain ⟨bs, cs, gs, e, l1, l2, l3, q⟩ := bun_rows (K := K) (H := H) (ys := ys) (rs := rs) ⟨by have := h.1; simp at this; simp [this], fun i z hz => h.2 (i + 1) z hz⟩
    obtain ⟨o, ho, th⟩ := h.2 0 y rfl
    cases ho
    obtain ⟨b, c, g, eb, t, sp⟩ := th.run.ex
    refine ⟨b :: bs, c :: cs, g :: gs, by rw [eb, e]; rfl, by simp [l1], by simp [l2], by simp [l3], fun i b' r' hb hr => ?_⟩
    cases i with
    | zero =>
      cases hb
      cases hr
      exact ⟨c, g, rfl, rfl, t, sp⟩
    | succ i => exact q i b' r' hb hr
def spTogether (K : PySem.W.Frag) (CB : Addr) : Sp := fun vs H Q E => ∃ (x : V) (o : Option (List Two)), vs = [x] ∧ BunIn K H x o ∧
  (∀ (rs : List (List Int × List Int)) (n : Nat), o = some (rs.map twoOf) → 1 ≤ rs.length → rs.length ≤ 8 → (∀ r ∈ rs, RunPair r.1 r.2 ∧ r.1.length = n) → ∀ p pa pb H', Same H H' → H' p = some (.tup [.ref pa, .ref pb]) → H' pa = some (.tup ((colSums (rs.map Prod.fst) n).map V.int)) → H' pb = some (.tup ((colSums (rs.map Prod.snd) n).map V.int)) → Q (.ref p) H') ∧
  (¬ BunOk o → ∀ H', Same H H' → E (.ref CB) none H')
abbrev nTogether : List Str := ["bundle", "run"]
theorem scTogether : FnScope nTogether ["bundle"] (defScope sTogether) := ⟨rfl, rfl, rfl, by decide +kernel, rfl, by decide +kernel, by decide +kernel⟩
theorem ok_together {f fR fO CB : Addr} {fd dR dO : FuncData} (F : Fun K "all_together" "all_together" sTogether f fd)
    (GR : FnOk P w K mg base (L2.CX P w) 5 fR dR ["thing"] (spNeedBundle K CB)) (kR : PySem.W.keepIn K (.ref fR) = true) (bR : Binds K dR ["thing"] []) (mR : mg "need_bundle" = some (.ref fR))
    (GO : FnOk P w K mg base CX0 1 fO dO ["rows"] (spAdded K)) (kO : PySem.W.keepIn K (.ref fO) = true) (bO : Binds K dO ["rows"] []) (mO : mg "added_up" = some (.ref fO)) :
    FnOk P w K mg base (L2.CX P w) 6 f fd ["bundle"] (spTogether K CB) := by
  refine F.okX scTogether (fun vs H Q E h => ?_) (fun cdv A outer s H vs Q E hr h => ?_)
  · obtain ⟨x, o, rfl, _⟩ := h
    rfl
  · obtain ⟨x, o, rfl, h, k1, k2⟩ := h
    have hr1 := hr.mono (show 1 ≤ 5 by decide)
    refine ⟨_, pss_cons (ps_expr (pe_call GR hr rfl mR kR bR .nil (passX (E := E) (takes_of rfl rfl rfl rfl) (fun _ _ _ _ h => h)) (pa_cons (pv 0) pa_nil)))
      (pss_one (ps_ret (pe_tup (pa_cons (pe_call GO hr1 rfl mO kO bO .nil pass0 (pa_cons
          (pe_lc (own := [("run", 1)]) (g := gName 1) (tt := tYes) rfl scTogether.nd (pi_tup (pv 0)) (blkOk_by (N := nTogether) (sc := defScope sTogether) (by decide +kernel)) (fun _ _ _ _ _ => pg_name (i := 1) scTogether.nd rfl (Or.inl rfl)) (fun _ _ _ _ _ => pts_nil)
            (fun _ _ _ _ _ => pe_ix (r := rIxT K) ix_tup (pv 1) pe_int (fun _ _ => rfl))) pa_nil))
        (pa_cons (pe_call GO hr1 rfl mO kO bO .nil pass0 (pa_cons
          (pe_lc (own := [("run", 1)]) (g := gName 1) (tt := tYes) rfl scTogether.nd (pi_tup (pv 0)) (blkOk_by (N := nTogether) (sc := defScope sTogether) (by decide +kernel)) (fun _ _ _ _ _ => pg_name (i := 1) scTogether.nd rfl (Or.inl rfl)) (fun _ _ _ _ _ => pts_nil)
            (fun _ _ _ _ _ => pe_ix (r := rIxT K) ix_tup (pv 1) pe_int (fun _ _ => rfl))) pa_nil)) pa_nil))))), ?_⟩
    refine ⟨_, rfl, x, o, rfl, h, fun ro H1 s1 => ?_, k2⟩
    obtain ⟨rs, rfl, l1, l8, rp, n, hn⟩ := ro
    cases h with
    | @tup a ys os h p l =>
      obtain ⟨bs, cs, gs, rfl, lb, lc, lg, q⟩ := bun_rows p
      have h1 := seqT s1 h
      have hr1' : ∀ (i : Nat), i < rs.length → ∃ r, rs[i]? = some r := fun i hi => ⟨_, List.getElem?_eq_getElem hi⟩
      have n1 : n ≤ 1001 ∨ 1001 < n := by omega
      have nz : n ≤ 1001 := by
        obtain ⟨r0, hr0⟩ := hr1' 0 (by omega)
        obtain ⟨o0, ho0, th⟩ := p.2 0 _ (by rw [List.getElem?_map, List.getElem?_eq_getElem (show 0 < bs.length by omega)]; rfl)
        rw [List.getElem?_map, hr0] at ho0
        cases ho0
        have e0 := hn r0 (List.mem_of_getElem? hr0)
        unfold twoOf at th
        cases th with
        | two _ h1 _ _ =>
          obtain ⟨_, _, _, q⟩ := h1.len
          rw [List.length_map] at q
          omega
      have rowC : ∀ H', Same H H' → RowsAt K H' cs (rs.map Prod.fst) n := fun H' s => ⟨by simp [lc], fun i c m hc hm => by
        rw [List.getElem?_map] at hm
        cases e : rs[i]? with
        | none => rw [e] at hm; cases hm
        | some r =>
          rw [e] at hm
          cases hm
          have il := (List.getElem?_eq_some_iff.mp e).1
          obtain ⟨c', g', hc', hg', _, sp⟩ := q i _ r (List.getElem?_eq_getElem (by omega)) e
          rw [hc] at hc'
          cases hc'
          exact ⟨(sp.same s).l, hn r (List.mem_of_getElem? e)⟩⟩
      have rowG : ∀ H', Same H H' → RowsAt K H' gs (rs.map Prod.snd) n := fun H' s => ⟨by simp [lg], fun i c m hc hm => by
        rw [List.getElem?_map] at hm
        cases e : rs[i]? with
        | none => rw [e] at hm; cases hm
        | some r =>
          rw [e] at hm
          cases hm
          have il := (List.getElem?_eq_some_iff.mp e).1
          obtain ⟨c', g', hc', hg', _, sp⟩ := q i _ r (List.getElem?_eq_getElem (by omega)) e
          rw [hc] at hg'
          cases hg'
          exact ⟨(sp.same s).r, by rw [← (rp r (List.mem_of_getElem? e)).2.2.1]; exact hn r (List.mem_of_getElem? e)⟩⟩
      refine ⟨_, rfl, a, rfl, ⟨_, h1⟩, fun D hD => lc_tup (K := K) (a := a) (xs := bs.map V.ref) (fun i H2 => H2 D = some (.lst ((cs.take i).map V.ref)) ∧ Same H1 H2) ⟨upd_same, same_new hD⟩ (fun i H2 _ ⟨_, s2⟩ => seqT s2 h1) ?_ ?_⟩
      · rintro i x H2 hx ⟨hd, s2⟩
        rw [List.getElem?_map] at hx
        cases eb : bs[i]? with
        | none => rw [eb] at hx; cases hx
        | some b =>
          rw [eb] at hx
          cases hx
          have il := (List.getElem?_eq_some_iff.mp eb).1
          obtain ⟨r, hr⟩ := hr1' i (by omega)
          obtain ⟨c, g, hc, hg, t, sp⟩ := q i b r eb hr
          refine ⟨rfl, _, rfl, b, _, _, _, rfl, rfl, seqT (Same.trans s1 s2) t, atI_nat (j := 0) rfl, _, hd, ?_, ?_, fun b o e => by rw [upd_ne (ne_of_none e hD)]; exact s2 b o e⟩
          · rw [List.length_map, List.length_take]
            exact small1000' (by omega)
          · rw [take_snoc hc, List.map_append]
            exact upd_same
      rintro H2 ⟨hd, s2⟩
      have e1 := List.take_length (l := cs)
      rw [show (bs.map V.ref).length = cs.length by rw [List.length_map]; omega, e1] at hd
      have sA := Same.trans s1 s2
      refine ⟨D, cs, rs.map Prod.fst, n, rfl, SqL.of hd, rowC _ sA, by simp; omega, by simp; omega, nz, fun pa H3 _ s3 hpa => ?_⟩
      have sB := Same.trans sA s3
      have h3 := seqT sB h
      refine ⟨_, rfl, a, rfl, ⟨_, h3⟩, fun D2 hD2 => lc_tup (K := K) (a := a) (xs := bs.map V.ref) (fun i H4 => H4 D2 = some (.lst ((gs.take i).map V.ref)) ∧ Same H3 H4) ⟨upd_same, same_new hD2⟩ (fun i H4 _ ⟨_, s4⟩ => seqT s4 h3) ?_ ?_⟩
      · rintro i x H4 hx ⟨hd, s4⟩
        rw [List.getElem?_map] at hx
        cases eb : bs[i]? with
        | none => rw [eb] at hx; cases hx
        | some b =>
          rw [eb] at hx
          cases hx
          have il := (List.getElem?_eq_some_iff.mp eb).1
          obtain ⟨r, hr⟩ := hr1' i (by omega)
          obtain ⟨c, g, hc, hg, t, sp⟩ := q i b r eb hr
          refine ⟨rfl, _, rfl, b, _, _, _, rfl, rfl, seqT (Same.trans sB s4) t, atI_nat (j := 1) rfl, _, hd, ?_, ?_, fun b o e => by rw [upd_ne (ne_of_none e hD2)]; exact s4 b o e⟩
          · rw [List.length_map, List.length_take]
            exact small1000' (by omega)
          · rw [take_snoc hg, List.map_append]
            exact upd_same
      rintro H4 ⟨hd4, s4⟩
      have e2 := List.take_length (l := gs)
      rw [show (bs.map V.ref).length = gs.length by rw [List.length_map]; omega, e2] at hd4
      have sC := Same.trans sB s4
      refine ⟨D2, gs, rs.map Prod.snd, n, rfl, SqL.of hd4, rowG _ sC, by simp; omega, by simp; omega, nz, fun pb H5 _ s5 hpb => ?_⟩
      refine ⟨(by show 2 ≤ sizeLine; decide), fun t ht => ?_⟩
      generalize g6 : upd H5 t _ = H6
      obtain ⟨s6, f6⟩ := alloc g6 ht
      exact k1 rs n rfl l1 l8 (fun r hr => ⟨rp r hr, hn r hr⟩) t pa pb H6 (Same.trans sC (Same.trans s5 s6)) f6 (s6 _ _ (s5 _ _ (s4 _ _ hpa))) (s6 _ _ hpb)
end
end WW
end

section
set_option Elab.async false
set_option linter.all false
set_option maxRecDepth 100000
set_option maxHeartbeats 4000000
/-! tuple * int, once or more often -/
namespace WM
open PySem PySem.Spec PyProof.Rows L2
theorem tuple_mul1 (l : Addr) (items : Array Value) (n : Nat) (dd : Option Addr) (sl : Array (Option Value)) (u : Tok) :
    Meets (Builtin.«tuple.__mul__» ⟨[.ref l, .int 1 u], []⟩) (fun _ R s => s.heap.get? l = some { cls := .type "tuple", dict := dd, data := .seq items n, slots := sl } ∧
      R (.ok (.ret (Value.ref l))) s) :=
  .of_wp fun prog w A R s h => by
    obtain ⟨hp, g, d, tk, os⟩ := s
    obtain ⟨hl, h⟩ := h
    have f1 := AutoSeq1.idx_int
    wp_walk using wpAny_loadPart' hl
    exact ⟨_, rfl, h⟩
def rRepA (K : PySem.W.Frag) : R2 := fun x y H Q => ∃ l k xs, x = .ref l ∧ y = .int k ∧ SqT K H l xs ∧ xs ≠ [] ∧ 1 ≤ k ∧ k ≤ 1000 ∧ xs.length ≤ 1000 ∧ ∀ p H', SqT K H' p (List.replicate k.toNat xs).flatten → (∀ b o, H b = some o → H' b = some o) → Q (.ref p) H'
section
variable {X : Cx}
theorem op_repA : OpR X (binaryOp .Mult) (rRepA X.K) := by
  intro pins s σ H x y v u Q I rx ry h
  obtain ⟨l, k, xs, rfl, rfl, hT, hne, h1, h2, hz, q⟩ := h
  by_cases hk : k = 1
  · subst hk
    cases rx
    obtain ⟨t, rfl⟩ := ry
    have e1 : (List.replicate (1 : Int).toNat xs).flatten = xs := by simp
    have hT' := hT
    obtain ⟨its, r, ⟨⟨cls, dd, data, sl⟩, ho, hc, n, hd⟩, hs⟩ := I.tuple hT
    simp only at hc hd
    subst hc hd
    refine wpAny_binaryOp_repeat_ref (T := "tuple") (U := "int") (by decide) ⟨_, ho, rfl⟩ (fun s' => typeIs_int s' 1 t) noFill_tuple_mul F.fills_int_mul F.slot_int_rmul repeat_tuple F.slot_int_index.lookup
      (call_meets F.slot_int_rmul (typeIs_int s 1 t) F.entry_int_rmul (F.args_int_rmul_2 _ _) (int_rmul_tuple 1 t l its.toArray n dd sl)
        ⟨ho, rfl, ⟨_, ho, rfl⟩, call_meets F.slot_tuple_mul ⟨_, ho, rfl⟩ F.entry_tuple_mul (F.args_tuple_mul_2 _ _) (tuple_mul1 l its.toArray n dd sl t) ⟨ho, ?_⟩⟩)
    exact ⟨.ref l, H, I, rfl, q l H (by rw [e1]; exact hT') fun _ _ z => z⟩
  · exact op_repT pins s σ H _ _ v u Q I rx ry ⟨l, k, xs, rfl, rfl, hT, hne, by omega, h2, hz, fun p hp => q p _ (.inl (.inl upd_same)) fun b o e => by rw [upd_ne (ne_of_none e hp)]; exact e⟩
end
end WM
end

section
set_option Elab.async false
set_option linter.all false
set_option maxRecDepth 100000
set_option maxHeartbeats 4000000
namespace WW
open PySem L2 WO WG RZ WQ WT
abbrev sTruth : Stmt := top 26
abbrev sWaitList : Stmt := top 28
abbrev sRowOf : Stmt := top 29
abbrev sGone : Stmt := top 30
abbrev sNear : Stmt := top 32
abbrev sLRow : Stmt := top 33
abbrev sLRun : Stmt := top 34
abbrev sLaw : Stmt := top 35
section
variable {P : Program} {w : World} {K : PySem.W.Frag} {mg : Str → Option Value} {base : Heap}
def spTruth (K : PySem.W.Frag) : Sp := fun vs H Q _ => ∃ a b : Bool, vs = [.bl a, .bl b] ∧ Q (.bl (decide (a = b))) H
theorem scTruth : FnScope ["found", "due"] ["found", "due"] (defScope sTruth) := ⟨rfl, rfl, rfl, by decide +kernel, rfl, by decide +kernel, by decide +kernel⟩
theorem ok_truth {f : Addr} {fd : FuncData} (F : Fun K "_law_is_truth" "_law_is_truth" sTruth f fd) : FnOk P w K mg base CX0 1 f fd ["found", "due"] (spTruth K) := by
  refine F.ok scTruth (fun vs H Q E h => ?_) (fun cdv A outer s H vs Q E hr h => ?_)
  · obtain ⟨a, b, rfl, _⟩ := h
    rfl
  · obtain ⟨a, b, rfl, k⟩ := h
    refine ⟨_, pss_one (ps_ret (pe_ifExp (pt_val (pv 1)) (pe_cmpR op_isBl (pv 0) pe_bl (nomark _)) (pe_cmpR op_isBl (pv 0) pe_bl (nomark _)))), ?_⟩
    cases b with
    | true => exact ⟨_, rfl, true, rfl, iteT ⟨_, rfl, _, _, rfl, rfl, k⟩⟩
    | false => exact ⟨_, rfl, false, rfl, iteF ⟨_, rfl, _, _, rfl, rfl, k⟩⟩
theorem ne_nil {H : Hp} {a q : Addr} {ns : List Int} {Q : VK} (h : SqL K H a (ns.map V.int)) (hq : H q = some (.lst [])) (k : Q (.bl (!decide (ns = []))) H) : rNeD K (.ref a) (.ref q) H Q :=
  ⟨.list (ns.map .int), .list [], .lst h (dpAll_int ns), .lst (SqL.of hq) .nil, shaped_ints ns, by decide, by
    rw [show PyData.eqv (.list (ns.map .int)) (.list []) = decide (ns = []) from eqv_ints ns []]
    exact k⟩
def spWaitList (K : PySem.W.Frag) : Sp := fun vs H Q _ => ∃ (c g : Addr) (cs gs : List Int), vs = [.ref c, .ref g] ∧ SqT K H c (cs.map V.int) ∧ SqT K H g (gs.map V.int) ∧ cs.length = gs.length ∧ cs.length ≤ 1001 ∧
  ∀ p H', H p = none → Same H H' → H' p = some (.lst (waits cs gs)) → Q (.ref p) H'
abbrev nWL : List Str := ["came_here", "gone_here", "found", "t", "some", "d"]
theorem scWL : FnScope nWL ["came_here", "gone_here"] (defScope sWaitList) := ⟨rfl, rfl, rfl, by decide +kernel, rfl, by decide +kernel, by decide +kernel⟩
theorem ok_waitList {f : Addr} {fd : FuncData} (F : Fun K "_law_wait_list" "_law_wait_list" sWaitList f fd) (T : RunG mg) : FnOk P w K mg base CX0 1 f fd ["came_here", "gone_here"] (spWaitList K) := by
  refine F.ok scWL (fun vs H Q E h => ?_) (fun cdv A outer s H vs Q E hr h => ?_)
  · obtain ⟨c, g, cs, gs, rfl, _⟩ := h
    rfl
  · obtain ⟨c, g, cs, gs, rfl, hc, hg, ln, lz, k⟩ := h
    have hu := hu_of hr
    refine ⟨_, pss_cons (ps_set (i := 2) scWL.nd rfl (Or.inl rfl) (pe_lst pa_nil))
      (pss_cons (ps_for PassesOwn.never rfl (pi_range1 (by rfl) T.range (pa_cons (pe_callB call_len_seq (by rfl) T.len PySem.boot_len (pa_cons (pv 0) pa_nil)) pa_nil)) (pg_name (i := 3) scWL.nd rfl (Or.inr rfl))
        (pss_cons (ps_setLc (i := 4) (own := [("d", 5)]) (g := gName 5) rfl scWL.nd rfl rfl (sw_true rfl rfl rfl (by decide +kernel)) (pi_range1 (by rfl) T.range (pa_cons (pe_op op_sub (pe_callB call_len_seq (by rfl) T.len PySem.boot_len (pa_cons (pv 0) pa_nil)) (pv 3)) pa_nil)) (blkOk_by (N := nWL) (sc := defScope sWaitList) (by decide +kernel))
            (fun _ _ _ _ _ => pg_name (i := 5) scWL.nd rfl (Or.inl rfl))
            (fun _ _ _ _ _ => pts_one (pt_cmpR op_ge (pe_ix (r := rIxT K) ix_tup (pv 1) (pe_op op_add (pv 3) (pv 5)) (fun _ _ => rfl)) (pe_ix (r := rIxT K) ix_tup (pv 0) (pv 3) (fun _ _ => rfl)) (nomark _)))
            (fun _ _ _ _ _ => pv 5))
        (pss_one (ps_expr (pe_bm PySem.F.plainAttrs_list PySem.F.slot_list_append PySem.F.type_list_append mt_append (pv 2) (pa_cons (pe_ifExp (pt_cmpR (op_neD hr.units) (pv 4) (pe_lst pa_nil) (nomark _)) (pe_ix ix_list (pv 4) pe_int (fun _ _ => rfl)) pe_non) pa_nil))))))
      (pss_one (ps_ret (pv 2)))), ?_⟩
    refine ⟨by decide, fun l hl => ?_⟩
    generalize g1 : upd H l _ = H1
    obtain ⟨s1, f1⟩ := alloc g1 hl
    refine ⟨_, rfl, c, _, rfl, .inr (seqT s1 hc), _, rfl, ?_⟩
    rw [show ((cs.map V.int).length : Nat) = cs.length from List.length_map ..]
    refine ⟨by omega, by omega, for_range (lo := 0) (n := cs.length) (fun i σ H2 => ∃ (v3 v4 : Option V), σ = [some (.ref c), some (.ref g), some (.ref l), v3, v4, none] ∧ H2 l = some (.lst ((waits cs gs).take i)) ∧ Same H H2) ⟨_, _, rfl, f1, s1⟩ ?_ ?_⟩
    · rintro i σ H2 hi ⟨v3, v4, rfl, hl2, s2⟩
      rw [Int.zero_add]
      refine ⟨_, rfl, c, _, rfl, .inr (seqT s2 hc), _, rfl, _, _, rfl, rfl, _, rfl, ?_⟩
      rw [show (((cs.map V.int).length : Nat) : Int) - (i : Int) = ((cs.length - i : Nat) : Int) by rw [List.length_map]; omega]
      refine ⟨by omega, by omega, fun D hD => lc_range (lo := 0) (n := cs.length - i) (fun j H3 => H3 D = some (.lst ((((List.range j).filter (hit cs gs i)).map fun d : Nat => (d : Int)).map V.int)) ∧ Same H2 H3) ⟨upd_same, same_new hD⟩ ?_ ?_⟩
      · rintro j H3 hj ⟨hd, s3⟩
        rw [Int.zero_add]
        have eg : gs[i + j]? = some (gs.getD (i + j) 0) := by
          rw [List.getD_eq_getElem?_getD, List.getElem?_eq_getElem (by omega)]; rfl
        have ec : cs[i]? = some (cs.getD i 0) := by
          rw [List.getD_eq_getElem?_getD, List.getElem?_eq_getElem (by omega)]; rfl
        have sB := Same.trans s2 s3
        refine ⟨rfl, _, rfl, _, rfl, _, rfl, _, _, rfl, rfl, g, _, _, _, rfl, rfl, seqT sB hg, atI_nat (j := i + j) (by rw [List.getElem?_map, eg]; rfl), _, rfl, _, rfl, c, _, _, _, rfl, rfl, seqT sB hc, atI_nat (j := i) (by rw [List.getElem?_map, ec]; rfl), ?_⟩
        refine ⟨_, _, rfl, rfl, _, rfl, ?_⟩
        by_cases c1 : cs.getD i 0 ≤ gs.getD (i + j) 0
        · rw [decide_eq_true c1]
          refine iteT ⟨_, rfl, _, hd, ?_, ?_, fun b o e => by rw [upd_ne (ne_of_none e hD)]; exact s3 b o e⟩
          · rw [List.length_map, List.length_map]
            exact small1000' (Nat.le_trans (List.length_filter_le _ _) (by rw [List.length_range]; omega))
          · rw [List.range_succ, List.filter_append, List.filter_cons, show hit cs gs i j = true from decide_eq_true c1, if_pos rfl, List.filter_nil, List.map_append, List.map_append]
            exact upd_same
        · rw [decide_eq_false c1]
          refine iteF ⟨?_, s3⟩
          rw [List.range_succ, List.filter_append, List.filter_cons, show hit cs gs i j = false from decide_eq_false c1, if_neg (by decide), List.filter_nil, List.append_nil]
          exact hd
      · rintro H3 ⟨hd, s3⟩
        have sB := Same.trans s2 s3
        have hl3 := s3 _ _ hl2
        have lD : l ≠ D := ne_of_none hl2 hD
        have fin : ∀ (x : V) (H4 : Hp), x = waitV cs gs i → Same H3 H4 → ∃ (v3 v4 : Option V), [some (V.ref c), some (.ref g), some (.ref l), some (.int (i : Int)), some (.ref D), none] = [some (.ref c), some (.ref g), some (.ref l), v3, v4, none] ∧
            upd H4 l (.lst ((waits cs gs).take i ++ [x])) l = some (.lst ((waits cs gs).take (i + 1))) ∧ Same H (upd H4 l (.lst ((waits cs gs).take i ++ [x]))) := fun x H4 ex s4 => by
          refine ⟨_, _, rfl, ?_, fun b o z => by rw [upd_ne (ne_of_none z hl)]; exact s4 _ _ (sB _ _ z)⟩
          rw [upd_same, take_snoc (waits_get hi), ex]
        have lz' : ((waits cs gs).take i).length < sizeLine := by
          rw [List.length_take]
          exact small1000' (by omega)
        have hf : (List.range (gs.length - i)).find? (hit cs gs i) = ((List.range (cs.length - i)).filter (hit cs gs i)).head? := by rw [ln, List.head?_filter]
        refine ⟨_, rfl, .inl ⟨rfl, _, SqL.of hl3⟩, _, rfl, ⟨by decide, fun q hq => ?_⟩⟩
        have s4 : Same H3 (upd H3 q (.lst [])) := same_new hq
        refine ne_nil (SqL.of (s4 _ _ hd)) upd_same ⟨_, rfl, ?_⟩
        have hd4 := s4 _ _ hd
        cases ef : (List.range (cs.length - i)).filter (hit cs gs i) with
        | nil =>
          rw [ef] at hf
          refine iteF ⟨l, _, _, rfl, rfl, s4 _ _ hl3, lz', fin _ _ ?_ s4⟩
          unfold waitV
          rw [hf]
          rfl
        | cons x r =>
          rw [ef] at hf hd4
          refine iteT ⟨_, rfl, D, _, 0, _, rfl, rfl, SqL.of hd4, atI_nat (j := 0) rfl, l, _, _, rfl, rfl, s4 _ _ hl3, lz', fin _ _ ?_ s4⟩
          unfold waitV
          rw [hf]
          rfl
    · rintro σ H2 ⟨v3, v4, rfl, hl2, s2⟩
      have lw : (waits cs gs).length = cs.length := by unfold waits; rw [List.length_map, List.length_range]
      rw [← lw, List.take_length] at hl2
      exact ⟨_, rfl, k l H2 hl s2 hl2⟩

/-! ### the law's own rows and runs -/
def ones (m : Nat) : List Int := List.replicate m 1
theorem ones_nil {m : Nat} : ones m = [] ↔ m = 0 := List.replicate_eq_nil_iff _
theorem ones_snoc (m : Nat) : (ones m).map V.int ++ [V.int 1] = (ones (m + 1)).map V.int := by
  unfold ones
  rw [List.replicate_succ', List.map_append]
  rfl
theorem ones_len (m : Nat) : ((ones m).map V.int).length = m := by unfold ones; rw [List.length_map, List.length_replicate]
theorem eq_nil {H : Hp} {a q : Addr} {ns : List Int} {Q : VK} (h : SqL K H a (ns.map V.int)) (hq : H q = some (.lst [])) (k : Q (.bl (decide (ns = []))) H) : rEqD K (.ref a) (.ref q) H Q :=
  ⟨.list (ns.map .int), .list [], .lst h (dpAll_int ns), .lst (SqL.of hq) .nil, shaped_ints ns, by decide, by
    rw [show PyData.eqv (.list (ns.map .int)) (.list []) = decide (ns = []) from eqv_ints ns []]
    exact k⟩
theorem ixR {H : Hp} {a : Addr} {x : V} {xs : List V} {Q : VK} (h : SeqA K H a (x :: xs)) (k : Q x H) : rIx K (.ref a) (.int 0) H Q := ixA h (atI_nat (j := 0) rfl) k
abbrev nLRow : List Str := ["thing", "item", "one", "other"]
theorem scLRow : FnScope nLRow ["thing"] (defScope sLRow) := ⟨rfl, rfl, rfl, by decide +kernel, rfl, by decide +kernel, by decide +kernel⟩
theorem ok_lRow {f : Addr} {fd : FuncData} (F : Fun K "_law_is_row" "_law_is_row" sLRow f fd) (T : RunG mg) : FnOk P w K mg base CX0 1 f fd ["thing"] (spIsRow K) := by
  refine F.ok scLRow (fun vs H Q E h => ?_) (fun cdv A outer s H vs Q E hr h => ?_)
  · obtain ⟨x, o, rfl, _⟩ := h
    rfl
  · obtain ⟨x, o, rfl, h, k⟩ := h
    refine ⟨_, pss_cons (ps_if (PW.pt (pw_or (pt_not (pt_val (pe_callB call_isiT (by rfl) T.isi (by decide +kernel) (pa_cons (pv 0) (pa_cons (pe_tup (pa_cons (pe_bltn (v := .ty "list") (by rfl) T.list (by decide +kernel) rfl) (pa_cons (pe_bltn (v := .ty "tuple") (by rfl) T.tuple (by decide +kernel) rfl) pa_nil))) pa_nil)))))
          (pw_or1 (pt_cmpR op_lt (pe_callB call_len_seq (by rfl) T.len PySem.boot_len (pa_cons (pv 0) pa_nil)) pe_int (nomark _)))))
        (pss_one (ps_ret pe_bl)) pss_nil)
      (pss_cons (ps_if (PW.pt (pw_or (pt_cmpR (op_neD hr.units) (pe_lc (own := [("item", 1)]) (g := gName 1) rfl scLRow.nd (pi_seq (pv 0)) (blkOk_by (N := nLRow) (sc := defScope sLRow) (by decide +kernel)) (fun _ _ _ _ _ => pg_name (i := 1) scLRow.nd rfl (Or.inl rfl))
              (fun _ _ _ _ _ => pts_one (PW.pt (pw_or (pt_not (pt_val (pe_callB (r := rIsi K) call_isi (by rfl) T.isi (by decide +kernel) (pa_cons (pv 1) (pa_cons (pe_bltn (v := .ty "int") (by rfl) T.int (by decide +kernel) rfl) pa_nil)))))
                (pw_or1 (pt_val (pe_callB (r := rIsi K) call_isi (by rfl) T.isi (by decide +kernel) (pa_cons (pv 1) (pa_cons (pe_bltn (v := .ty "bool") (by rfl) T.bool (by decide +kernel) rfl) pa_nil))))))))
              (fun _ _ _ _ _ => pe_int)) (pe_lst pa_nil) (nomark _))
          (pw_or1 (pt_cmpR op_ne (pe_ix ix_seq (pv 0) pe_int (fun _ _ => rfl)) pe_int (nomark _)))))
        (pss_one (ps_ret pe_bl)) pss_nil)
      (pss_one (ps_ret (pe_cmpR (op_eqD hr.units)
            (pe_lc (own := [("one", 2), ("other", 3)]) (g := gTup K 2 (gCons (gName 2) (gCons (gName 3) gNil))) rfl scLRow.nd (pi_zipS (by rfl) T.zip (pa_cons (pv 0) (pa_cons (pe_slice sl_seqB (pv 0) (po_some pe_int) po_none) pa_nil))) (blkOk_by (N := nLRow) (sc := defScope sLRow) (by decide +kernel))
              (fun _ _ _ _ _ => pg_tup rfl (pgs_cons (pg_name (i := 2) scLRow.nd rfl (Or.inl rfl)) (pgs_cons (pg_name (i := 3) scLRow.nd rfl (Or.inl rfl)) pgs_nil)))
              (fun _ _ _ _ _ => pts_one (pt_cmpR op_lt (pv 3) (pv 2) (nomark _))) (fun _ _ _ _ _ => pe_int)) (pe_lst pa_nil) (nomark _))))), ?_⟩
    have no : ∀ {H' : Hp}, Same H H' → ¬ RowOk o → Q (.bl false) H' := fun s n => k false _ s ⟨fun z => (by cases z), fun z => absurd z n⟩
    refine ⟨_, rfl, (by show 2 ≤ sizeLine; decide), fun t ht => ?_⟩
    have s1 := same_new (o := .tup [.ty "list", .ty "tuple"]) ht
    cases h with
    | no h =>
      obtain ⟨t', ty, c⟩ := h.same s1
      rcases c with ⟨_, c⟩ | ⟨_, c⟩ | ⟨c1, c2, _⟩
      · cases c
      · cases c
      exact ⟨_, t, _, _, [.type "list", .type "tuple"], false, rfl, upd_same, .cons (.ty _) (.cons (.ty _) .nil), ty,
        kitAny_cons c1 (fun _ => kitAny_cons (r := false) c2 (fun _ => rfl) (fun z => by cases z)) (fun z => by cases z), false, rfl, iteT (no s1 (by rintro ⟨ns, e, _⟩; cases e))⟩
    | @seq a xs h fl l =>
      have h1 := h.same s1
      obtain ⟨t', ty, ka⟩ : ∃ t', TyX K (upd H t (.tup [.ty "list", .ty "tuple"])) (.ref a) t' ∧ PySem.W.kitAny K t' [.type "list", .type "tuple"] = some true := by
        rcases h1 with g | g
        · exact ⟨_, tyX_seqL g, kitAny_cons (kit_ty (r := true) (by decide +kernel)) (fun z => by cases z) (fun _ => rfl)⟩
        · exact ⟨_, tyX_seqT g, kitAny_cons (kit_ty (r := false) (by decide +kernel)) (fun _ => kitAny_cons (r := true) (kit_ty (r := true) (by decide +kernel)) (fun z => by cases z) (fun _ => rfl)) (fun z => by cases z)⟩
      refine ⟨_, t, _, _, [.type "list", .type "tuple"], true, rfl, upd_same, .cons (.ty _) (.cons (.ty _) .nil), ty, ka, true, rfl, iteF ?_⟩
      generalize upd H t (HO.tup [.ty "list", .ty "tuple"]) = H1 at *
      refine ⟨_, rfl, a, xs, rfl, h1, _, _, rfl, rfl, ?_⟩
      by_cases c1 : 1 ≤ xs.length
      · refine ⟨false, bF (by omega), iteF ?_⟩
        refine ⟨_, rfl, a, xs, rfl, h1, fun J G wk st D hD => lc_it wk (fun i H2 => ∃ m : Nat, H2 D = some (.lst ((ones m).map V.int)) ∧ m ≤ i ∧ (m = 0 ↔ (xs.take i).all numV = true) ∧ Same H1 H2) ⟨0, upd_same, Nat.le_refl _, by simp, same_new hD⟩ (fun i H2 _ ⟨_, _, _, _, s2⟩ => st _ (.of s2 _ _)) ?_ ?_⟩
        · rintro i x H2 H2' hi ⟨m, hd, ml, e, s2⟩ ⟨rfl, hx⟩
          have fx : flatV x = true := (List.all_eq_true.mp fl) x (List.mem_of_getElem? hx)
          obtain ⟨tx, b1, b2, ty1, k1, k2, ee⟩ := numT_flat (K := K) (H := H2') fx
          have al : (xs.take (i + 1)).all numV = ((xs.take i).all numV && numV x) := by rw [take_snoc hx, List.all_append, List.all_cons, List.all_nil, Bool.and_true]
          have add : numV x = false → upd H2' D (.lst ((ones m).map V.int ++ [V.int 1])) D = some (.lst ((ones (m + 1)).map V.int)) ∧ m + 1 ≤ i + 1 ∧ (m + 1 = 0 ↔ (xs.take (i + 1)).all numV = true) ∧ Same H1 (upd H2' D (.lst ((ones m).map V.int ++ [V.int 1]))) := fun nx => by
            refine ⟨by rw [ones_snoc]; exact upd_same, by omega, ?_, fun b o e => by rw [upd_ne (ne_of_none e hD)]; exact s2 b o e⟩
            rw [al, nx, Bool.and_false]
            exact ⟨fun z => absurd z (Nat.succ_ne_zero _), fun z => by cases z⟩
          have lzm : ((ones m).map V.int).length < sizeLine := by
            rw [ones_len]
            exact small1000' (by omega)
          refine ⟨rfl, _, rfl, x, .ty "int", tx, .type "int", b1, rfl, .ty _, ty1, k1, b1, rfl, ?_⟩
          cases b1 with
          | false =>
            exact iteT ⟨_, hd, lzm, m + 1, add ee.symm⟩
          | true =>
            refine iteF ⟨_, rfl, x, .ty "bool", tx, .type "bool", b2, rfl, .ty _, ty1, k2, b2, rfl, ?_⟩
            cases b2 with
            | true => exact iteT ⟨_, hd, lzm, m + 1, add ee.symm⟩
            | false =>
              refine iteF ⟨m, hd, by omega, ?_, s2⟩
              rw [al, ← ee, Bool.true_and, Bool.not_false, Bool.and_true]
              exact e
        · rintro H2 ⟨m, hd, ml, e, s2⟩
          rw [List.take_length] at e
          refine ⟨by decide, fun q hq => ?_⟩
          generalize g3 : upd H2 q _ = H3
          obtain ⟨s3, f3⟩ := alloc g3 hq
          have sA := Same.trans (Same.trans s1 s2) s3
          refine ne_nil (SqL.of (s3 _ _ hd)) f3 ⟨_, rfl, ?_⟩
          cases cN : xs.all numV with
          | false =>
            have m0 : m ≠ 0 := fun z => by
              have := e.mp z
              rw [cN] at this
              cases this
            rw [decide_eq_false (show ¬ ones m = [] from fun z => m0 (ones_nil.mp z))]
            refine iteT (no sA ?_)
            rintro ⟨ns, e, _⟩
            cases e
            rw [ints_all] at cN
            cases cN
          | true =>
            rw [decide_eq_true (show ones m = [] from ones_nil.mpr (e.mpr cN))]
            refine iteF ?_
            obtain ⟨ns, rfl⟩ := all_ints cN
            have h2 := h1.same (Same.trans s2 s3)
            cases ns with
            | nil => exact absurd c1 (by simp)
            | cons n0 r =>
              refine ⟨_, rfl, ixR h2 ⟨rfl, !decide (V.int n0 = V.int 0), rfl, ?_⟩⟩
              by_cases c0 : n0 = 0
              · subst c0
                rw [decide_eq_true rfl]
                refine iteF ⟨_, rfl, _, rfl, 1, rfl, a, _, rfl, h2, fun H4 p s4 hp hpT hpL => ?_⟩
                rw [cut1 (by rw [List.length_map]; exact Nat.succ_le_succ (Nat.zero_le _))] at hp hpT hpL
                have h4 := h2.same s4
                have pr : SeqP K H4 a ((0 :: r).map V.int) p (((0 :: r).map V.int).drop 1) := by
                  rcases h2 with g | g
                  · exact .inl ⟨Same.seq s4 g, hpL _ g⟩
                  · exact .inr ⟨seqT s4 g, hpT _ g⟩
                have ln : min ((0 :: r).map V.int).length (((0 :: r).map V.int).drop 1).length = r.length := by simp
                refine ⟨a, p, _, _, rfl, pr, fun J G wk st D2 hD2 => lc_it wk (fun i H5 => ∃ m : Nat, H5 D2 = some (.lst ((ones m).map V.int)) ∧ m ≤ i ∧ (m = 0 ↔ ((steps (0 :: r)).take i).all id = true) ∧ Same H4 H5) ⟨0, upd_same, Nat.le_refl _, by simp, same_new hD2⟩ (fun i H5 _ ⟨_, _, _, _, s5⟩ => st _ (.of s5 _ _) (.of s5 _ _)) ?_ ?_⟩
                · rintro i v H5 H6 hi ⟨m, hd5, ml5, e5, s5⟩ ⟨t, x, y, rfl, ht, rfl, hx, hy⟩
                  rw [ln] at hi
                  dsimp only at hx hy
                  rw [List.getElem?_map] at hx
                  rw [List.getElem?_drop, List.getElem?_map, Nat.add_comm] at hy
                  obtain ⟨u, hu⟩ : ∃ u, (0 :: r : List Int)[i]? = some u := ⟨_, List.getElem?_eq_getElem (by simp; omega)⟩
                  obtain ⟨z, hz⟩ : ∃ z, (0 :: r : List Int)[i + 1]? = some z := ⟨_, List.getElem?_eq_getElem (by simp; omega)⟩
                  rw [hu] at hx
                  rw [hz] at hy
                  cases hx
                  cases hy
                  have es : (steps (0 :: r))[i]? = some (decide (u ≤ z)) := by
                    unfold steps
                    rw [List.getElem?_map, (List.getElem?_zip_eq_some (z := (u, z))).mpr ⟨hu, by rw [List.getElem?_drop, Nat.add_comm]; exact hz⟩]
                    rfl
                  have al : ((steps (0 :: r)).take (i + 1)).all id = (((steps (0 :: r)).take i).all id && decide (u ≤ z)) := by rw [take_snoc es, List.all_append, List.all_cons, List.all_nil, Bool.and_true]; rfl
                  generalize g7 : upd H5 t _ = H7
                  obtain ⟨s7, f7⟩ := alloc g7 ht
                  refine ⟨t, [_, _], rfl, SqT.of f7, rfl, _, _, rfl, _, _, rfl, rfl, rfl, _, rfl, _, rfl, _, _, rfl, rfl, _, rfl, ?_⟩
                  by_cases c2 : z < u
                  · rw [decide_eq_true c2]
                    refine iteT ⟨_, s7 _ _ hd5, ?_, m + 1, by rw [ones_snoc]; exact upd_same, by omega, ?_, fun b o e => by rw [upd_ne (ne_of_none e hD2)]; exact s7 _ _ (s5 _ _ e)⟩
                    · rw [ones_len]
                      rw [List.length_map, List.length_cons] at l
                      exact small1000' (by omega)
                    · rw [al, decide_eq_false (show ¬ u ≤ z by omega), Bool.and_false]
                      exact ⟨fun z => absurd z (Nat.succ_ne_zero _), fun z => by cases z⟩
                  · rw [decide_eq_false c2]
                    refine iteF ⟨m, s7 _ _ hd5, by omega, ?_, Same.trans s5 s7⟩
                    rw [al, decide_eq_true (show u ≤ z by omega), Bool.and_true]
                    exact e5
                · rintro H5 ⟨m, hd5, ml5, e5, s5⟩
                  have ls : (steps (0 :: r)).length = r.length := by simp [steps]
                  rw [ln, ← ls, List.take_length] at e5
                  refine ⟨by decide, fun q2 hq2 => ?_⟩
                  generalize g6 : upd H5 q2 _ = H6
                  obtain ⟨s6, f6⟩ := alloc g6 hq2
                  refine eq_nil (SqL.of (s6 _ _ hd5)) f6 (k _ _ (Same.trans sA (Same.trans s4 (Same.trans s5 s6))) ?_)
                  rw [decide_eq_true_iff, ones_nil, e5, steps_pw]
                  constructor
                  · intro pw
                    exact ⟨_, rfl, r, rfl, pw⟩
                  · rintro ⟨ns, e, r', e', pw⟩
                    have := ints_inj (Option.some.inj e)
                    rw [this]
                    exact pw
              · have e0 : decide (V.int n0 = V.int 0) = false := decide_eq_false fun z => c0 (V.int.inj z)
                rw [e0]
                refine iteT (no sA ?_)
                rintro ⟨ns, e, r', e', _⟩
                have := ints_inj (Option.some.inj e)
                rw [e'] at this
                exact c0 (List.cons.inj this).1
      · refine ⟨true, bT (by omega), iteT (no s1 ?_)⟩
        rintro ⟨ns, e, r, rfl, _⟩
        have := congrArg List.length (Option.some.inj e)
        simp at this
        omega
end
end WW
end

section
set_option Elab.async false
set_option linter.all false
set_option maxRecDepth 100000
set_option maxHeartbeats 4000000
namespace WW
open PySem L2 WO WG RZ WQ WT
theorem DrawAt.some_d {H : Hp} {d l c : Addr} (D : DrawAt H d l c) : ∃ o, H d = some o := by obtain ⟨⟨r, t, h⟩, _⟩ := D; exact ⟨_, h⟩
theorem DrawAt.some_l {H : Hp} {d l c : Addr} (D : DrawAt H d l c) : ∃ o, H l = some o := by obtain ⟨_, ⟨la, h, _⟩, _⟩ := D; exact ⟨_, h⟩
theorem DrawAt.nd {H : Hp} {d l c p : Addr} (D : DrawAt H d l c) (h : H p = none) : p ≠ d := fun e => by
  obtain ⟨o, q⟩ := D.some_d
  rw [← e, h] at q
  cases q
theorem DrawAt.nl {H : Hp} {d l c p : Addr} (D : DrawAt H d l c) (h : H p = none) : p ≠ l := fun e => by
  obtain ⟨o, q⟩ := D.some_l
  rw [← e, h] at q
  cases q
theorem DrawAt.nc {H : Hp} {d l c p : Addr} (D : DrawAt H d l c) (h : H p = none) : p ≠ c := fun e => by
  obtain ⟨_, _, ⟨ce, q, _⟩, _⟩ := D
  rw [← e, h] at q
  cases q
theorem DrawAt.put {H : Hp} {d l c p : Addr} {o : HO} (D : DrawAt H d l c) (pd : p ≠ d) (pl : p ≠ l) (pc : p ≠ c) : DrawAt (upd H p o) d l c := by
  obtain ⟨⟨r, t, h⟩, ⟨la, h2, h3⟩, ⟨ce, h4, h5⟩, h6⟩ := D
  exact ⟨⟨r, t, by rw [upd_ne pd.symm]; exact h⟩, ⟨la, by rw [upd_ne pl.symm]; exact h2, h3⟩, ⟨ce, by rw [upd_ne pc.symm]; exact h4, h5⟩, h6⟩
theorem KeepD.trans' {H H1 : Hp} {d l p : Addr} {o : HO} (k : KeepD H H1 d l) (h : H p = none) : KeepD H (upd H1 p o) d l := fun b u e h1 h2 => by
  rw [upd_ne (ne_of_none e h)]
  exact k b u e h1 h2
def Within (s : List Int) (B : Int) : Prop := ∀ (i : Nat) (x : Int), s[i]? = some x → 0 ≤ x ∧ x ≤ B
theorem within_snoc {s : List Int} {z B B' : Int} (h : Within s B) (hB : B ≤ B') (h0 : 0 ≤ z) (h1 : z ≤ B') : Within (s ++ [z]) B' := by
  intro i x hx
  by_cases e : i < s.length
  · rw [List.getElem?_append_left e] at hx
    have := h i x hx
    omega
  · rw [List.getElem?_append_right (by omega)] at hx
    have e2 : i - s.length = 0 := by
      rcases Nat.eq_zero_or_pos (i - s.length) with q | q
      · exact q
      · rw [List.getElem?_eq_none (by simp only [List.length_cons, List.length_nil]; omega)] at hx
        cases hx
    rw [e2] at hx
    cases hx
    exact ⟨h0, h1⟩
theorem last_get {xs : List V} {v : V} (h : xs[xs.length - 1]? = some v) : atI xs (-1) = some v := by
  have l : xs.length - 1 < xs.length := by
    rcases Nat.lt_or_ge (xs.length - 1) xs.length with q | q
    · exact q
    · rw [List.getElem?_eq_none q] at h; cases h
  unfold atI ixN
  rw [if_neg (by omega), if_pos (by omega)]
  have e : ((-1 : Int) + (xs.length : Int)).toNat = xs.length - 1 := by omega
  show xs[((-1 : Int) + (xs.length : Int)).toNat]? = _
  rw [e, h]
theorem lastInt {s : List Int} (h : 0 < s.length) : ∃ y, s[s.length - 1]? = some y ∧ atI (s.map V.int) (-1) = some (.int y) := by
  refine ⟨s[s.length - 1]'(by omega), List.getElem?_eq_getElem _, last_get ?_⟩
  rw [List.length_map, List.getElem?_map, List.getElem?_eq_getElem (by omega)]
  rfl
theorem asc0_snoc {s : List Int} {y z : Int} (h : Asc0 s) (hl : s[s.length - 1]? = some y) (hz : y ≤ z) : Asc0 (s ++ [z]) := by
  obtain ⟨r, e, pw⟩ := h
  refine ⟨r ++ [z], by rw [e]; rfl, List.pairwise_append.mpr ⟨pw, List.pairwise_singleton .., fun a ha b hb => ?_⟩⟩
  cases List.mem_singleton.mp hb
  obtain ⟨i, hi, ei⟩ := List.mem_iff_getElem.mp ha
  have el := (List.getElem?_eq_some_iff.mp hl).2
  by_cases c : i = s.length - 1
  · subst c
    rw [el] at ei
    omega
  · have := List.pairwise_iff_getElem.mp pw i (s.length - 1) hi (by omega) (by omega)
    rw [ei, el] at this
    omega
theorem keepT {K : PySem.W.Frag} {H H' : Hp} {d l c a : Addr} {xs : List V} (D : DrawAt H d l c) (k : KeepD H H' d l) (h : SqT K H a xs) : SqT K H' a xs := by
  obtain ⟨⟨r, t, hd⟩, ⟨la, hl, _⟩, _, _⟩ := D
  rcases h with (h | ⟨o, h⟩) | h
  · exact .inl (.inl (k _ _ h (ne_of h hd (by intro z; cases z)) (ne_of h hl (by intro z; cases z))))
  · exact .inl (.inr ⟨o, k _ _ h (ne_of h hd (by intro z; cases z)) (ne_of h hl (by intro z; cases z))⟩)
  · exact .inr h
section
variable {P : Program} {w : World} {K : PySem.W.Frag} {mg : Str → Option Value} {base : Heap}
/-! ### is_run of the law -/
abbrev nLRun : List Str := ["thing", "one", "other"]
theorem scLRun : FnScope nLRun ["thing"] (defScope sLRun) := ⟨rfl, rfl, rfl, by decide +kernel, rfl, by decide +kernel, by decide +kernel⟩
theorem ok_lRun {f fR : Addr} {fd dR : FuncData} (F : Fun K "_law_is_run" "_law_is_run" sLRun f fd) (T : RunG mg)
    (GR : FnOk P w K mg base CX0 1 fR dR ["thing"] (spIsRow K)) (kR : PySem.W.keepIn K (.ref fR) = true) (bR : Binds K dR ["thing"] []) (mR : mg "_law_is_row" = some (.ref fR)) :
    FnOk P w K mg base CX0 2 f fd ["thing"] (spIsRun K) := by
  refine F.ok scLRun (fun vs H Q E h => ?_) (fun cdv A outer s H vs Q E hr h => ?_)
  · obtain ⟨x, o, rfl, _⟩ := h
    rfl
  · obtain ⟨x, o, rfl, h, k⟩ := h
    refine ⟨_, pss_cons (ps_if (PW.pt (pw_or (pt_not (pt_val (pe_callB call_isi (by rfl) T.isi (by decide +kernel) (pa_cons (pv 0) (pa_cons (pe_bltn (v := .ty "tuple") (by rfl) T.tuple (by decide +kernel) rfl) pa_nil)))))
          (pw_or (pt_cmpR op_ne (pe_callB call_len_seq (by rfl) T.len PySem.boot_len (pa_cons (pv 0) pa_nil)) pe_int (nomark _))
          (pw_or (pt_not (pt_val (pe_call GR hr rfl mR kR bR .nil pass0 (pa_cons (pe_ix (r := rIxT K) ix_tup (pv 0) pe_int (fun _ _ => rfl)) pa_nil))))
          (pw_or1 (pt_not (pt_val (pe_call GR hr rfl mR kR bR .nil pass0 (pa_cons (pe_ix (r := rIxT K) ix_tup (pv 0) pe_int (fun _ _ => rfl)) pa_nil)))))))))
        (pss_one (ps_ret pe_bl)) pss_nil)
      (pss_one (ps_ret (pe_and (pe_cmpR op_eq (pe_callB call_len_seq (by rfl) T.len PySem.boot_len (pa_cons (pe_ix (r := rIxT K) ix_tup (pv 0) pe_int (fun _ _ => rfl)) pa_nil)) (pe_callB call_len_seq (by rfl) T.len PySem.boot_len (pa_cons (pe_ix (r := rIxT K) ix_tup (pv 0) pe_int (fun _ _ => rfl)) pa_nil)) (nomark _))
        (pe_one (pe_cmpR (op_eqD hr.units)
            (pe_lc (own := [("one", 1), ("other", 2)]) (g := gTup K 2 (gCons (gName 1) (gCons (gName 2) gNil))) rfl scLRun.nd (pi_zipS (by rfl) T.zip (pa_cons (pe_ix (r := rIxT K) ix_tup (pv 0) pe_int (fun _ _ => rfl)) (pa_cons (pe_ix (r := rIxT K) ix_tup (pv 0) pe_int (fun _ _ => rfl)) pa_nil))) (blkOk_by (N := nLRun) (sc := defScope sLRun) (by decide +kernel))
              (fun _ _ _ _ _ => pg_tup rfl (pgs_cons (pg_name (i := 1) scLRun.nd rfl (Or.inl rfl)) (pgs_cons (pg_name (i := 2) scLRun.nd rfl (Or.inl rfl)) pgs_nil)))
              (fun _ _ _ _ _ => pts_one (pt_cmpR op_gt (pv 2) (pv 1) (nomark _))) (fun _ _ _ _ _ => pe_int)) (pe_lst pa_nil) (nomark _)))))), ?_⟩
    have no : ∀ {H' : Hp}, Same H H' → ¬ RunOk o → Q (.bl false) H' := fun s n => k false _ s ⟨fun z => (by cases z), fun z => absurd z n⟩
    cases h with
    | no h =>
      obtain ⟨t, ty, kt⟩ := h
      exact ⟨_, rfl, x, .ty "tuple", t, .type "tuple", false, rfl, .ty _, ty, kt, false, rfl, iteT (no (Same.refl _) (by rintro ⟨_, _, e, _⟩; cases e))⟩
    | @len a ys h l =>
      refine ⟨_, rfl, .ref a, .ty "tuple", .type "tuple", .type "tuple", true, rfl, .ty _, tyX_seqT h, kit_ty (by decide +kernel), true, rfl, iteF ?_⟩
      refine ⟨_, rfl, a, ys, rfl, .inr h, rfl, true, ?_, iteT (no (Same.refl _) (by rintro ⟨_, _, e, _⟩; cases e))⟩
      have e : decide (V.int (ys.length : Nat) = V.int 2) = false := decide_eq_false fun z => l (by have := V.int.inj z; omega)
      show V.bl (!decide (V.int (ys.length : Nat) = V.int 2)) = _
      rw [e]
      rfl
    | @two a y z o1 o2 h h1 h2 hp =>
      refine ⟨_, rfl, .ref a, .ty "tuple", .type "tuple", .type "tuple", true, rfl, .ty _, tyX_seqT h, kit_ty (by decide +kernel), true, rfl, iteF ?_⟩
      refine ⟨_, rfl, a, [y, z], rfl, .inr h, rfl, false, rfl, iteF ?_⟩
      refine ⟨_, rfl, a, _, _, y, rfl, rfl, h, atI_nat (j := 0) rfl, y, o1, rfl, h1, fun b1 H1 s1 i1 => ⟨b1, rfl, ?_⟩⟩
      cases b1 with
      | false =>
        refine iteT (no s1 ?_)
        rintro ⟨cs, gs, e, p, _⟩
        cases e
        exact absurd (i1.mpr ⟨cs, rfl, p⟩) Bool.false_ne_true
      | true =>
        obtain ⟨cs, rfl, pc⟩ := i1.mp rfl
        refine iteF ⟨_, rfl, a, _, _, z, rfl, rfl, seqT s1 h, atI_nat (j := 1) rfl, z, o2, rfl, h2.same s1, fun b2 H2 s2 i2 => ⟨b2, rfl, ?_⟩⟩
        have sA := Same.trans s1 s2
        cases b2 with
        | false =>
          refine iteT (no sA ?_)
          rintro ⟨cs', gs, e, _, p, _⟩
          injection e with e
          injection e with e1 e2
          exact absurd (i2.mpr ⟨gs, e2, p⟩) Bool.false_ne_true
        | true =>
          obtain ⟨gs, rfl, pg⟩ := i2.mp rfl
          obtain ⟨c, g, rfl, rfl, sp⟩ := hp _ _ rfl rfl
          obtain ⟨_, _, _, lc⟩ := h1.len
          obtain ⟨_, _, _, lg⟩ := h2.len
          rw [List.length_map] at lc lg
          have sp2 := sp.same sA
          have hA := seqT sA h
          refine iteF ⟨_, rfl, a, _, _, _, rfl, rfl, hA, atI_nat (j := 0) rfl, c, _, rfl, sp2.l, _, rfl, a, _, _, _, rfl, rfl, hA, atI_nat (j := 1) rfl, g, _, rfl, sp2.r, rfl, decide (cs.length = gs.length), ?_, ?_⟩
          · show V.bl (decide (V.int _ = V.int _)) = _
            congr 1
            exact decide_eq_decide.mpr ⟨fun q => by have := V.int.inj q; simp only [List.length_map] at this; omega, fun q => by simp only [List.length_map, q]⟩
          · by_cases el : cs.length = gs.length
            · rw [decide_eq_true el]
              refine iteT ?_
              refine ⟨_, rfl, a, _, _, _, rfl, rfl, hA, atI_nat (j := 0) rfl, _, rfl, a, _, _, _, rfl, rfl, hA, atI_nat (j := 1) rfl, c, g, _, _, rfl, sp2, fun J G wk st D hD => lc_it wk (fun i H4 => ∃ m : Nat, H4 D = some (.lst ((ones m).map V.int)) ∧ m ≤ i ∧ (m = 0 ↔ ((below gs cs).take i).all id = true) ∧ Same H2 H4) ⟨0, upd_same, Nat.le_refl _, by simp, same_new hD⟩ (fun i H4 _ ⟨_, _, _, _, s4⟩ => st _ (.of s4 _ _) (.of s4 _ _)) ?_ ?_⟩
              · rintro i v H4 H5 hi ⟨m, hd4, ml, e4, s4⟩ ⟨t, x, y, rfl, ht, rfl, hx, hy⟩
                dsimp only at hx hy
                rw [List.length_map, List.length_map] at hi
                rw [List.getElem?_map] at hx hy
                obtain ⟨u, hu⟩ : ∃ u, cs[i]? = some u := ⟨_, List.getElem?_eq_getElem (by omega)⟩
                obtain ⟨z, hz⟩ : ∃ z, gs[i]? = some z := ⟨_, List.getElem?_eq_getElem (by omega)⟩
                rw [hu] at hx
                rw [hz] at hy
                cases hx
                cases hy
                have es : (below gs cs)[i]? = some (decide (z ≤ u)) := by
                  unfold below
                  rw [List.getElem?_map, (List.getElem?_zip_eq_some (z := (z, u))).mpr ⟨hz, hu⟩]
                  rfl
                have al : ((below gs cs).take (i + 1)).all id = (((below gs cs).take i).all id && decide (z ≤ u)) := by rw [take_snoc es, List.all_append, List.all_cons, List.all_nil, Bool.and_true]; rfl
                generalize g7 : upd H4 t _ = H7
                obtain ⟨s7, f7⟩ := alloc g7 ht
                refine ⟨t, [_, _], rfl, SqT.of f7, rfl, _, _, rfl, _, _, rfl, rfl, rfl, _, rfl, _, rfl, _, _, rfl, rfl, _, rfl, ?_⟩
                by_cases c2 : u < z
                · rw [decide_eq_true c2]
                  refine iteT ⟨_, s7 _ _ hd4, ?_, m + 1, by rw [ones_snoc]; exact upd_same, by omega, ?_, fun b o e => by rw [upd_ne (ne_of_none e hD)]; exact s7 _ _ (s4 _ _ e)⟩
                  · rw [ones_len]
                    exact small1000' (by omega)
                  · rw [al, decide_eq_false (show ¬ z ≤ u by omega), Bool.and_false]
                    exact ⟨fun z => absurd z (Nat.succ_ne_zero _), fun z => by cases z⟩
                · rw [decide_eq_false c2]
                  refine iteF ⟨m, s7 _ _ hd4, by omega, ?_, Same.trans s4 s7⟩
                  rw [al, decide_eq_true (show z ≤ u by omega), Bool.and_true]
                  exact e4
              · rintro H4 ⟨m, hd4, ml, e4, s4⟩
                have ls : (below gs cs).length = min cs.length gs.length := by unfold below; rw [List.length_map, List.length_zip, Nat.min_comm]
                rw [List.length_map, List.length_map, ← ls, List.take_length] at e4
                refine ⟨by decide, fun q2 hq2 => ?_⟩
                generalize g6 : upd H4 q2 _ = H6
                obtain ⟨s6, f6⟩ := alloc g6 hq2
                refine eq_nil (SqL.of (s6 _ _ hd4)) f6 (k _ _ (Same.trans sA (Same.trans s4 s6)) ?_)
                rw [decide_eq_true_iff, ones_nil, e4, below_iff]
                constructor
                · intro q
                  exact ⟨cs, gs, rfl, pc, pg, el, q⟩
                · rintro ⟨cs', gs', e, _, _, _, q⟩
                  injection e with e
                  injection e with e1 e2
                  have a1 := ints_inj (Option.some.inj e1)
                  have a2 := ints_inj (Option.some.inj e2)
                  rw [a1, a2]
                  exact q
            · rw [decide_eq_false el]
              refine iteF (no sA ?_)
              rintro ⟨cs', gs', e, _, _, q, _⟩
              injection e with e
              injection e with e1 e2
              have a1 := ints_inj (Option.some.inj e1)
              have a2 := ints_inj (Option.some.inj e2)
              rw [← a1, ← a2] at q
              exact el q
end
end WW
end

section
set_option Elab.async false
set_option linter.all false
set_option maxRecDepth 100000
set_option maxHeartbeats 4000000
namespace WW
open PySem L2 WO WG RZ WQ WT
section
variable {P : Program} {w : World} {K : PySem.W.Frag} {mg : Str → Option Value} {base : Heap}
theorem pickZ {xs : List Int} {i : Nat} {x : V} (h : (xs.map V.int)[i]? = some x) (B : Int) (hb : ∀ z ∈ xs, 0 ≤ z ∧ z ≤ B) : ∃ z : Int, x = .int z ∧ 0 ≤ z ∧ z ≤ B := by
  rw [List.getElem?_map] at h
  cases e : xs[i]? with
  | none => rw [e] at h; cases h
  | some z =>
    rw [e] at h
    exact ⟨z, (Option.some.inj h).symm, hb z (List.mem_of_getElem? e)⟩
def spRowOf (K : PySem.W.Frag) : Sp := fun vs H Q _ => ∃ (d l c : Addr) (n : Nat) (m : Int), vs = [.ref d, .int n, .int m] ∧ DrawAt H d l c ∧ 1 ≤ n ∧ n ≤ 24 ∧ 0 ≤ m ∧ m ≤ 5 ∧
  ∀ (p : Addr) (ns : List Int) (H' : Hp), Asc0 ns → ns.length = n → Within ns 120 → DrawAt H' d l c → KeepD H H' d l → H' p = some (.tup (ns.map V.int)) → Q (.ref p) H'
abbrev nRowOf : List Str := ["draw", "size", "most_here", "found", "way", "lap", "step_here"]
theorem scRowOf : FnScope nRowOf ["draw", "size", "most_here"] (defScope sRowOf) := ⟨rfl, rfl, rfl, by decide +kernel, rfl, by decide +kernel, by decide +kernel⟩
theorem ok_rowOf {f fP fT : Addr} {fd dP dT : FuncData} (F : Fun K "_law_row_of" "_law_row_of" sRowOf f fd) (G : RunG mg)
    (GP : FnOk P w K mg base CX0 3 fP dP ["draw", "some"] (spPick K)) (kP : PySem.W.keepIn K (.ref fP) = true) (bP : Binds K dP ["draw", "some"] []) (mP : mg "_law_pick" = some (.ref fP))
    (GT : FnOk P w K mg base CX0 2 fT dT ["draw", "amount"] (spTake K)) (kT : PySem.W.keepIn K (.ref fT) = true) (bT : Binds K dT ["draw", "amount"] []) (mT : mg "_law_take" = some (.ref fT)) :
    FnOk P w K mg base CX0 4 f fd ["draw", "size", "most_here"] (spRowOf K) := by
  refine F.ok scRowOf (fun vs H Q E h => ?_) (fun cdv A outer s H vs Q E hr h => ?_)
  · obtain ⟨d, l, c, n, m, rfl, _⟩ := h
    rfl
  · obtain ⟨d, l, c, n, m, rfl, D, n0, n1, m0, m1, k⟩ := h
    have hr2 := hr.mono (show 2 ≤ 3 by decide)
    refine ⟨_, pss_cons (ps_par (i := 3) (j := 4) (by rfl) scRowOf.nd rfl rfl (by decide) rfl rfl (pa_cons (pe_lst (pa_cons pe_int pa_nil)) (pa_cons (pe_call GT hr2 rfl mT kT bT .nil pass0 (pa_cons (pv 0) (pa_cons pe_int pa_nil))) pa_nil)) (by rfl))
      (pss_cons (ps_for PassesOwn.never rfl (pi_range1 (by rfl) G.range (pa_cons (pe_op op_sub (pv 1) pe_int) pa_nil)) (pg_name (i := 5) scRowOf.nd rfl (Or.inl rfl))
        (pss_cons (ps_set (i := 6) scRowOf.nd rfl (Or.inl rfl) (pe_ix ix_list (pe_lst (pa_cons (pe_call GP hr rfl mP kP bP .nil pass0 (pa_cons (pv 0) (pa_cons (pe_lst (pa_cons pe_int (pa_cons pe_int (pa_cons pe_int (pa_cons
              (pe_call GT hr2 rfl mT kT bT .nil pass0 (pa_cons (pv 0) (pa_cons (pe_op op_add (pv 2) pe_int) pa_nil))) pa_nil))))) pa_nil)))
            (pa_cons (pe_call GT hr2 rfl mT kT bT .nil pass0 (pa_cons (pv 0) (pa_cons pe_int pa_nil)))
            (pa_cons (pe_call GP hr rfl mP kP bP .nil pass0 (pa_cons (pv 0) (pa_cons (pe_lst (pa_cons pe_int (pa_cons pe_int (pa_cons pe_int (pa_cons pe_int (pa_cons (pv 2) pa_nil)))))) pa_nil))) pa_nil)))) (pv 4) (fun _ _ => rfl)))
        (pss_one (ps_expr (pe_bm PySem.F.plainAttrs_list PySem.F.slot_list_append PySem.F.type_list_append mt_append (pv 3) (pa_cons (pe_op op_add (pe_ix ix_list (pv 3) (pe_un un_neg pe_int) (fun _ _ => rfl)) (pv 6)) pa_nil))))))
      (pss_one (ps_ret (pe_callTy call_tuple_of (by rfl) G.tuple (by decide +kernel) (pa_cons (pv 3) pa_nil))))), ?_⟩
    refine ⟨by decide, fun a ha => ?_⟩
    generalize g1 : upd H a _ = H1
    obtain ⟨s1, f1⟩ := alloc g1 ha
    refine ⟨_, rfl, d, l, c, _, rfl, D.same s1, by decide, by decide, fun way H2 w0 w1 D2 k2 => ?_⟩
    have had : a ≠ d := D.nd ha
    have hal : a ≠ l := D.nl ha
    have kk2 : KeepD H H2 d l := (Same.keepD d l s1).trans k2
    refine ⟨_, _, rfl, _, rfl, _, _, rfl, rfl, (n : Int) - 1, rfl, by omega, by omega, for_range (lo := 0) (n := ((n : Int) - 1).toNat) (fun i σ H5 => ∃ (v5 v6 : Option V) (s : List Int), σ = [some (.ref d), some (.int n), some (.int m), some (.ref a), some (.int way), v5, v6] ∧ H5 a = some (.lst (s.map V.int)) ∧ s.length = i + 1 ∧ Asc0 s ∧ Within s (5 * i) ∧ DrawAt H5 d l c ∧ KeepD H H5 d l)
      ⟨_, _, [0], rfl, k2 _ _ f1 had hal, rfl, ⟨[], rfl, List.pairwise_singleton ..⟩, fun i x h1 => ?_, D2, kk2⟩ ?_ ?_⟩
    · match i, h1 with
      | 0, h1 => cases h1; exact ⟨by decide, by decide⟩
    · rintro i σ H5 hi ⟨v5, v6, s, rfl, h5, l5, a5, w5, D5, k5⟩
      obtain ⟨y, hy, hy2⟩ := lastInt (s := s) (by omega)
      have y0 := w5 _ _ hy
      refine ⟨_, rfl, _, rfl, _, rfl, _, _, rfl, rfl, d, l, c, _, rfl, D5, by omega, by omega, fun r H6 r0 r1 D6 k6 => ⟨(by show 4 ≤ sizeLine; decide), fun p1 hp1 => ?_⟩⟩
      generalize g7 : upd H6 p1 _ = H7
      obtain ⟨s7, f7⟩ := alloc g7 hp1
      refine ⟨d, l, c, p1, [V.int 0, .int 0, .int 1, .int r], rfl, D6.same s7, f7, D6.nl hp1, (by show 0 < 4; decide), (by show 4 ≤ 2 ^ 100; decide), fun j x H8 hx D8 k8 => ?_⟩
      obtain ⟨z1, rfl, z10, z11⟩ := pickZ (xs := [0, 0, 1, r]) hx 5 (by simp; omega)
      refine ⟨_, rfl, d, l, c, 2, rfl, D8, by decide, by decide, fun z2 H9 z20 z21 D9 k9 => ?_⟩
      refine ⟨_, rfl, _, rfl, ⟨(by show 5 ≤ sizeLine; decide), fun p2 hp2 => ?_⟩⟩
      generalize g10 : upd H9 p2 _ = H10
      obtain ⟨s10, f10⟩ := alloc g10 hp2
      refine ⟨d, l, c, p2, [V.int 0, .int 0, .int 0, .int 0, .int m], rfl, D9.same s10, f10, D9.nl hp2, (by show 0 < 5; decide), (by show 5 ≤ 2 ^ 100; decide), fun j2 x2 H11 hx2 D11 k11 => ?_⟩
      obtain ⟨z3, rfl, z30, z31⟩ := pickZ (xs := [0, 0, 0, 0, m]) hx2 5 (by simp; omega)
      refine ⟨(by show 3 ≤ sizeLine; decide), fun p3 hp3 => ?_⟩
      generalize g12 : upd H11 p3 _ = H12
      obtain ⟨s12, f12⟩ := alloc g12 hp3
      obtain ⟨j3, rfl⟩ : ∃ j3 : Nat, way = (j3 : Int) := ⟨way.toNat, by omega⟩
      obtain ⟨x3, hx3⟩ : ∃ x3, ([z1, z2, z3].map V.int)[j3]? = some x3 := ⟨_, List.getElem?_eq_getElem (by simp; omega)⟩
      obtain ⟨z, rfl, zz0, zz1⟩ := pickZ (xs := [z1, z2, z3]) hx3 5 (by simp; omega)
      refine ⟨_, rfl, p3, _, _, _, rfl, rfl, SqL.of f12, atI_nat (j := j3) hx3, ?_⟩
      have kk8 : KeepD H5 H12 d l := (k6.trans ((Same.keepD d l s7).trans k8)).trans (k9.trans ((Same.keepD d l s10).trans (k11.trans (Same.keepD d l s12))))
      have D12 := D11.same s12
      have h12 : H12 a = some (.lst (s.map V.int)) := kk8 _ _ h5 had hal
      refine ⟨_, rfl, .inl ⟨rfl, _, SqL.of h12⟩, _, rfl, 1, rfl, a, _, _, _, rfl, rfl, SqL.of h12, hy2, _, rfl, _, _, rfl, rfl, a, _, _, rfl, rfl, h12, by rw [List.length_map]; exact small1000 (by omega), ?_⟩
      refine ⟨_, _, s ++ [y + z], rfl, ?_, by rw [List.length_append, l5]; rfl, asc0_snoc a5 hy (by omega), ?_, ?_, ?_⟩
      · rw [List.map_append]; exact upd_same
      · exact within_snoc w5 (by omega) (by omega) (by omega)
      · exact D12.put had hal (D.nc ha)
      · exact (k5.trans kk8).trans' ha
    · rintro σ H5 ⟨v5, v6, s, rfl, h5, l5, a5, w5, D5, k5⟩
      refine ⟨_, rfl, a, _, rfl, .inl ⟨SqL.of h5, fun p hp => ?_⟩⟩
      generalize g6 : upd H5 p _ = H6
      obtain ⟨s6, f6⟩ := alloc g6 hp
      exact k p s H6 a5 (by omega) (fun i x h => by have := w5 i x h; omega) (D5.same s6) (k5.trans (Same.keepD d l s6)) f6
end
end WW
end

section
set_option Elab.async false
set_option linter.all false
set_option maxRecDepth 100000
set_option maxHeartbeats 4000000
namespace WW
open PySem L2 WO WG RZ WQ WT
section
variable {P : Program} {w : World} {K : PySem.W.Frag} {mg : Str → Option Value} {base : Heap}
theorem asc_next {cs : List Int} (h : Asc0 cs) {i : Nat} {x y : Int} (hx : cs[i]? = some x) (hy : cs[i + 1]? = some y) : x ≤ y := by
  obtain ⟨r, e, pw⟩ := h
  obtain ⟨h1, e1⟩ := List.getElem?_eq_some_iff.mp hx
  obtain ⟨h2, e2⟩ := List.getElem?_eq_some_iff.mp hy
  have := List.pairwise_iff_getElem.mp pw i (i + 1) h1 h2 (by omega)
  rw [e1, e2] at this
  exact this
def spGone (K : PySem.W.Frag) : Sp := fun vs H Q _ => ∃ (d l c a z : Addr) (n : Nat) (cs : List Int), vs = [.ref d, .ref a, .ref z] ∧ DrawAt H d l c ∧ SqT K H a (cs.map V.int) ∧ Asc0 cs ∧ Within cs 120 ∧ cs.length = n ∧ n ≤ 24 ∧ SqT K H z ((List.replicate n (0 : Int)).map V.int) ∧
  ∀ (p : Addr) (gs : List Int) (H' : Hp), RunPair cs gs → Within gs 120 → DrawAt H' d l c → KeepD H H' d l → H' p = some (.tup (gs.map V.int)) → Q (.ref p) H'
abbrev nGone : List Str := ["draw", "came_here", "least_here", "found", "way", "t", "low"]
theorem scGone : FnScope nGone ["draw", "came_here", "least_here"] (defScope sGone) := ⟨rfl, rfl, rfl, by decide +kernel, rfl, by decide +kernel, by decide +kernel⟩
theorem ok_gone {f fP fT : Addr} {fd dP dT : FuncData} (F : Fun K "_law_gone_above" "_law_gone_above" sGone f fd) (G : RunG mg)
    (GP : FnOk P w K mg base CX0 3 fP dP ["draw", "some"] (spPick K)) (kP : PySem.W.keepIn K (.ref fP) = true) (bP : Binds K dP ["draw", "some"] []) (mP : mg "_law_pick" = some (.ref fP))
    (GT : FnOk P w K mg base CX0 2 fT dT ["draw", "amount"] (spTake K)) (kT : PySem.W.keepIn K (.ref fT) = true) (bT : Binds K dT ["draw", "amount"] []) (mT : mg "_law_take" = some (.ref fT)) :
    FnOk P w K mg base CX0 4 f fd ["draw", "came_here", "least_here"] (spGone K) := by
  refine F.ok scGone (fun vs H Q E h => ?_) (fun cdv A outer s H vs Q E hr h => ?_)
  · obtain ⟨d, l, c, a, z, n, cs, rfl, _⟩ := h
    rfl
  · obtain ⟨d, l, c, a, z, n, cs, rfl, D, hA, ac, wc, ln, n1, hZ, k⟩ := h
    have hr2 := hr.mono (show 2 ≤ 3 by decide)
    refine ⟨_, pss_cons (ps_par (i := 3) (j := 4) (by rfl) scGone.nd rfl rfl (by decide) rfl rfl (pa_cons (pe_lst (pa_cons pe_int pa_nil)) (pa_cons (pe_call GT hr2 rfl mT kT bT .nil pass0 (pa_cons (pv 0) (pa_cons pe_int pa_nil))) pa_nil)) (by rfl))
      (pss_cons (ps_for PassesOwn.never rfl (pi_range2 (by rfl) G.range (pa_cons pe_int (pa_cons (pe_callB call_len_seq (by rfl) G.len PySem.boot_len (pa_cons (pv 1) pa_nil)) pa_nil))) (pg_name (i := 5) scGone.nd rfl (Or.inl rfl))
        (pss_cons (ps_set (i := 6) scGone.nd rfl (Or.inl rfl) (pe_callB (call_max2 rfl) (by rfl) G.max (by decide +kernel) (pa_cons (pe_ix ix_list (pv 3) (pe_un un_neg pe_int) (fun _ _ => rfl)) (pa_cons (pe_ix ix_tup (pv 2) (pv 5) (fun _ _ => rfl)) pa_nil))))
        (pss_one (ps_expr (pe_bm PySem.F.plainAttrs_list PySem.F.slot_list_append PySem.F.type_list_append mt_append (pv 3) (pa_cons
          (pe_ifExp (pt_cmpR op_eq (pv 4) pe_int (nomark _)) (pv 6)
            (pe_ifExp (pt_cmpR op_eq (pv 4) pe_int (nomark _))
              (pe_op op_add (pv 6) (pe_call GT hr2 rfl mT kT bT .nil pass0 (pa_cons (pv 0) (pa_cons (pe_op op_add (pe_op op_sub (pe_ix ix_tup (pv 1) (pv 5) (fun _ _ => rfl)) (pv 6)) pe_int) pa_nil))))
              (pe_call GP hr rfl mP kP bP .nil pass0 (pa_cons (pv 0) (pa_cons (pe_lst (pa_cons (pv 6) (pa_cons (pv 6) (pa_cons (pe_ix ix_tup (pv 1) (pv 5) (fun _ _ => rfl)) pa_nil)))) pa_nil))))) pa_nil))))))
      (pss_one (ps_ret (pe_callTy call_tuple_of (by rfl) G.tuple (by decide +kernel) (pa_cons (pv 3) pa_nil))))), ?_⟩
    refine ⟨by decide, fun b hb => ?_⟩
    generalize g1 : upd H b _ = H1
    obtain ⟨s1, f1⟩ := alloc g1 hb
    refine ⟨_, rfl, d, l, c, _, rfl, D.same s1, by decide, by decide, fun way H2 w0 w1 D2 k2 => ?_⟩
    have hbd : b ≠ d := D.nd hb
    have hbl : b ≠ l := D.nl hb
    have kk2 : KeepD H H2 d l := (Same.keepD d l s1).trans k2
    have n0 : 1 ≤ n := by
      obtain ⟨r, e, _⟩ := ac
      rw [← ln, e]
      simp
    refine ⟨_, _, rfl, _, rfl, a, _, rfl, .inr (keepT D kk2 hA), 1, _, rfl, ⟨by decide, by decide, by rw [List.length_map]; omega, by rw [List.length_map]; omega⟩, ?_⟩
    rw [show ((cs.map V.int).length : Nat) = n by rw [List.length_map, ln]]
    refine for_range (lo := 1) (n := ((n : Int) - 1).toNat) (fun i σ H5 => ∃ (v5 v6 : Option V) (s : List Int), σ = [some (.ref d), some (.ref a), some (.ref z), some (.ref b), some (.int way), v5, v6] ∧ H5 b = some (.lst (s.map V.int)) ∧ s.length = i + 1 ∧ Asc0 s ∧ Within s 120 ∧ (∀ (j : Nat) (x y : Int), cs[j]? = some x → s[j]? = some y → y ≤ x) ∧ DrawAt H5 d l c ∧ KeepD H H5 d l)
      ⟨_, _, [0], rfl, k2 _ _ f1 hbd hbl, rfl, ⟨[], rfl, List.pairwise_singleton ..⟩, fun i x h1 => ?_, fun j x y hx hy => ?_, D2, kk2⟩ ?_ ?_
    · match i, h1 with
      | 0, h1 => cases h1; exact ⟨by decide, by decide⟩
    · match j, hy with
      | 0, hy => cases hy; exact (wc _ _ hx).1
    · rintro i σ H5 hi ⟨v5, v6, s, rfl, h5, l5, a5, w5, u5, D5, k5⟩
      obtain ⟨y, hy, hy2⟩ := lastInt (s := s) (by omega)
      have y0 := w5 _ _ hy
      obtain ⟨x, hx⟩ : ∃ x, cs[i + 1]? = some x := ⟨_, List.getElem?_eq_getElem (by omega)⟩
      obtain ⟨x', hx'⟩ : ∃ x, cs[i]? = some x := ⟨_, List.getElem?_eq_getElem (by omega)⟩
      have x0 := wc _ _ hx
      have yx : y ≤ x := by
        rw [show s.length - 1 = i by omega] at hy
        exact Int.le_trans (u5 i _ _ hx' hy) (asc_next ac hx' hx)
      have fin : ∀ (v : Int) (H6 : Hp), y ≤ v → v ≤ x → DrawAt H6 d l c → KeepD H5 H6 d l → ∃ (v5 v6 : Option V) (s' : List Int), [some (V.ref d), some (.ref a), some (.ref z), some (.ref b), some (.int way), some (.int (1 + (i : Int))), some (.int y)] = [some (.ref d), some (.ref a), some (.ref z), some (.ref b), some (.int way), v5, v6] ∧
          upd H6 b (.lst (s.map V.int ++ [V.int v])) b = some (.lst (s'.map V.int)) ∧ s'.length = i + 1 + 1 ∧ Asc0 s' ∧ Within s' 120 ∧ (∀ (j : Nat) (x y : Int), cs[j]? = some x → s'[j]? = some y → y ≤ x) ∧ DrawAt (upd H6 b (.lst (s.map V.int ++ [V.int v]))) d l c ∧ KeepD H (upd H6 b (.lst (s.map V.int ++ [V.int v]))) d l := fun v H6 v0 v1 D6 k6 => by
        refine ⟨_, _, s ++ [v], rfl, by rw [List.map_append]; exact upd_same, by rw [List.length_append, l5]; rfl, asc0_snoc a5 hy v0, within_snoc w5 (by omega) (by omega) (by omega), fun j q1 q2 h1 h2 => ?_, D6.put hbd hbl (D.nc hb), (k5.trans k6).trans' hb⟩
        by_cases e : j < s.length
        · rw [List.getElem?_append_left e] at h2
          exact u5 j _ _ h1 h2
        · rw [List.getElem?_append_right (by omega)] at h2
          have e2 : j = i + 1 := by
            have := (List.getElem?_eq_some_iff.mp h2).1
            simp at this
            omega
          subst e2
          rw [hx] at h1
          cases h1
          rw [show i + 1 - s.length = 0 by omega] at h2
          cases h2
          exact v1
      have b5 : ∀ H6, KeepD H5 H6 d l → H6 b = some (.lst (s.map V.int)) := fun H6 k6 => k6 _ _ h5 hbd hbl
      have bz : (s.map V.int).length < sizeLine := by rw [List.length_map]; exact small1000 (by omega)
      have z5 : SqT K H5 z ((List.replicate n (0 : Int)).map V.int) := keepT D k5 hZ
      have hA5 : ∀ H6, KeepD H5 H6 d l → SqT K H6 a (cs.map V.int) := fun H6 k6 => keepT D (k5.trans k6) hA
      have ez : atI ((List.replicate n (0 : Int)).map V.int) (1 + (i : Int)) = some (.int 0) := by
        rw [show (1 + (i : Int)) = ((i + 1 : Nat) : Int) by omega]
        refine atI_nat ?_
        rw [List.getElem?_map, List.getElem?_replicate, if_pos (by omega)]
        rfl
      have ea : atI (cs.map V.int) (1 + (i : Int)) = some (.int x) := by
        rw [show (1 + (i : Int)) = ((i + 1 : Nat) : Int) by omega]
        refine atI_nat ?_
        rw [List.getElem?_map, hx]
        rfl
      refine ⟨_, rfl, 1, rfl, b, _, _, _, rfl, rfl, SqL.of h5, hy2, _, rfl, _, rfl, z, _, _, _, rfl, rfl, z5, ez, _, _, rfl, ?_⟩
      rw [show (if (0 : Int) > y then (0 : Int) else y) = y from if_neg (by omega)]
      refine ⟨_, rfl, .inl ⟨rfl, _, SqL.of h5⟩, _, rfl, rfl, _, rfl, ?_⟩
      by_cases e0 : way = 0
      · subst e0
        rw [decide_eq_true rfl]
        exact iteT ⟨_, rfl, b, _, _, rfl, rfl, h5, bz, fin y H5 (Int.le_refl _) yx D5 (KeepD.refl _ _ _)⟩
      · rw [decide_eq_false (show ¬ V.int way = V.int 0 from fun q => e0 (V.int.inj q))]
        refine iteF ⟨_, rfl, rfl, _, rfl, ?_⟩
        by_cases e1 : way = 1
        · subst e1
          rw [decide_eq_true rfl]
          refine iteT ⟨_, rfl, _, rfl, _, rfl, _, rfl, a, _, _, _, rfl, rfl, hA5 H5 (KeepD.refl _ _ _), ea, _, rfl, _, _, rfl, rfl, _, _, rfl, rfl, d, l, c, _, rfl, D5, by omega, by omega, fun r H6 r0 r1 D6 k6 => ?_⟩
          exact ⟨_, _, rfl, rfl, b, _, _, rfl, rfl, b5 H6 k6, bz, fin (y + r) H6 (by omega) (by omega) D6 k6⟩
        · rw [decide_eq_false (show ¬ V.int way = V.int 1 from fun q => e1 (V.int.inj q))]
          refine iteF ⟨_, rfl, _, rfl, _, rfl, _, rfl, _, rfl, a, _, _, _, rfl, rfl, hA5 H5 (KeepD.refl _ _ _), ea, ⟨(by show 3 ≤ sizeLine; decide), fun p1 hp1 => ?_⟩⟩
          generalize g6 : upd H5 p1 _ = H6
          obtain ⟨s6, f6⟩ := alloc g6 hp1
          refine ⟨d, l, c, p1, [V.int y, .int y, .int x], rfl, D5.same s6, f6, D5.nl hp1, (by show 0 < 3; decide), (by show 3 ≤ 2 ^ 100; decide), fun j v H7 hv D7 k7 => ?_⟩
          have k57 : KeepD H5 H7 d l := (Same.keepD d l s6).trans k7
          obtain ⟨v', rfl, v0, v1⟩ : ∃ v' : Int, v = .int v' ∧ y ≤ v' ∧ v' ≤ x := by
            match j, hv with
            | 0, hv => exact ⟨y, (Option.some.inj hv).symm, Int.le_refl _, yx⟩
            | 1, hv => exact ⟨y, (Option.some.inj hv).symm, Int.le_refl _, yx⟩
            | 2, hv => exact ⟨x, (Option.some.inj hv).symm, yx, Int.le_refl _⟩
          exact ⟨b, _, _, rfl, rfl, b5 H7 k57, bz, fin v' H7 v0 v1 D7 k57⟩
    · rintro σ H5 ⟨v5, v6, s, rfl, h5, l5, a5, w5, u5, D5, k5⟩
      refine ⟨_, rfl, b, _, rfl, .inl ⟨SqL.of h5, fun p hp => ?_⟩⟩
      generalize g6 : upd H5 p _ = H6
      obtain ⟨s6, f6⟩ := alloc g6 hp
      exact k p s H6 ⟨ac, a5, by omega, fun j x y h1 h2 => u5 j x y h1 h2⟩ w5 (D5.same s6) (k5.trans (Same.keepD d l s6)) f6
end
end WW
end

section
set_option Elab.async false
set_option linter.all false
set_option maxRecDepth 100000
set_option maxHeartbeats 4000000
namespace WW
open PySem L2 WO WG RZ WQ WT
/-! ### the heap without one object -/
def rem (H : Hp) (p : Addr) : Hp := fun b => if b = p then none else H b
theorem rem_ne {H : Hp} {p b : Addr} (h : b ≠ p) : rem H p b = H b := if_neg h
theorem rem_sub (H : Hp) (p : Addr) : Same (rem H p) H := fun b o e => by
  by_cases h : b = p
  · rw [h] at e
    unfold rem at e
    rw [if_pos rfl] at e
    cases e
  · rw [rem_ne h] at e
    exact e
theorem rem_mono {H H' : Hp} (p : Addr) (s : Same H H') : Same (rem H p) (rem H' p) := fun b o e => by
  by_cases h : b = p
  · rw [h] at e
    unfold rem at e
    rw [if_pos rfl] at e
    cases e
  · rw [rem_ne h] at e ⊢
    exact s _ _ e
theorem rem_upd (H : Hp) (p : Addr) (o : HO) : rem (upd H p o) p = rem H p := by
  funext b
  by_cases h : b = p
  · unfold rem
    rw [if_pos h, if_pos h]
  · rw [rem_ne h, rem_ne h, upd_ne h]
theorem rem_new {H H' : Hp} {p : Addr} (h : H p = none) (s : Same H H') : Same H (rem H' p) := fun b o e => by
  rw [rem_ne (ne_of_none e h)]
  exact s _ _ e
section
variable {P : Program} {w : World} {K : PySem.W.Frag} {mg : Str → Option Value} {base : Heap}
theorem remT {H : Hp} {t p : Addr} {xs ys : List V} (h : SqT K H t xs) (hp : H p = some (.lst ys)) : SqT K (rem H p) t xs := by
  rcases h with (h | ⟨o, h⟩) | h
  · exact .inl (.inl (by rw [rem_ne (ne_of h hp (by intro z; cases z))]; exact h))
  · exact .inl (.inr ⟨o, by rw [rem_ne (ne_of h hp (by intro z; cases z))]; exact h⟩)
  · exact .inr h
/-! ### t + u, told alike -/
def rCatU (K : PySem.W.Frag) : R2 := fun x y H Q => ∃ a b xs ys, x = .ref a ∧ y = .ref b ∧ SqT K H a xs ∧ SqT K H b ys ∧ xs.length + ys.length ≤ sizeLine ∧ ∀ p H', Same H H' → SqT K H' p (xs ++ ys) → Q (.ref p) H'
theorem op_catU {X : Cx} : OpR X (binaryOp .Add) (rCatU X.K) := by
  intro pins s σ H x y v u Q I rx ry h
  obtain ⟨a, b, xs, ys, rfl, rfl, ha, hb, hz, q⟩ := h
  exact op_catA pins s σ H _ _ v u Q I rx ry ⟨a, b, xs, ys, rfl, rfl, ha, hb, hz, fun e => q b H (Same.refl _) (by rw [e]; exact hb), fun _ e => q a H (Same.refl _) (by rw [e, List.append_nil]; exact ha), fun _ _ p hp => q p _ (same_new hp) (SqT.of upd_same)⟩
theorem cut_mem {xs : List V} {lo hi : Option Int} {x : V} (h : x ∈ cutV xs lo hi) : x ∈ xs := by
  unfold cutV at h
  exact List.mem_of_mem_drop (List.mem_of_mem_take h)
theorem cut_len (xs : List V) (lo hi : Option Int) : (cutV xs lo hi).length ≤ xs.length := by
  unfold cutV
  rw [List.length_take, List.length_drop]
  omega
theorem cut_flat {xs : List V} {lo hi : Option Int} (h : xs.all flatV = true) : (cutV xs lo hi).all flatV = true := List.all_eq_true.mpr fun x hx => List.all_eq_true.mp h x (cut_mem hx)
theorem app_flat {xs ys : List V} (h1 : xs.all flatV = true) (h2 : ys.all flatV = true) : (xs ++ ys).all flatV = true := by rw [List.all_append, h1, h2]; rfl
theorem ints_flat : ∀ (ns : List Int), (ns.map V.int).all flatV = true
  | [] => rfl
  | i :: r => by rw [List.map_cons, List.all_cons, ints_flat r]; rfl
theorem one_flat {x : V} (h : flatV x = true) : [x].all flatV = true := by rw [List.all_cons, h]; rfl
/-! ### things -/
def ThX (K : PySem.W.Frag) (H : Hp) (x : V) : Prop := ∃ o, ThIn K H x o
theorem ThX.same {H H' : Hp} {x : V} (h : ThX K H x) (s : Same H H') : ThX K H' x := by
  obtain ⟨o, h⟩ := h
  exact ⟨o, h.same s⟩
def ThL (K : PySem.W.Frag) (H : Hp) (xs : List V) : Prop := ∀ x ∈ xs, ThX K H x
theorem ThL.same {H H' : Hp} {xs : List V} (h : ThL K H xs) (s : Same H H') : ThL K H' xs := fun x hx => (h x hx).same s
theorem ThL.nil {H : Hp} : ThL K H [] := fun x hx => by cases hx
theorem ThL.cons {H : Hp} {x : V} {xs : List V} (h : ThX K H x) (t : ThL K H xs) : ThL K H (x :: xs) := fun y hy => by
  rcases List.mem_cons.mp hy with rfl | hy
  · exact h
  · exact t y hy
theorem ThL.app {H : Hp} {xs ys : List V} (a : ThL K H xs) (b : ThL K H ys) : ThL K H (xs ++ ys) := fun y hy => by
  rcases List.mem_append.mp hy with h | h
  · exact a y h
  · exact b y h
theorem noTup_flat {H : Hp} {x : V} (h : flatV x = true) : NoTup K H x := by
  cases x with
  | non => exact ⟨.type "NoneType", .base .non, kit_ty (by decide +kernel)⟩
  | bl b => exact ⟨.type "bool", .base (.bl b), kit_ty (by decide +kernel)⟩
  | int i => exact ⟨.type "int", .base (.int i), kit_ty (by decide +kernel)⟩
  | str z => exact ⟨.type "str", .base (.str z), kit_ty (by decide +kernel)⟩
  | byt _ => cases h
  | flt _ => cases h
  | ref _ => cases h
  | ty _ => cases h
theorem th_flat {H : Hp} {x : V} (h : flatV x = true) : ThX K H x := ⟨_, .no (noTup_flat h)⟩
theorem th_list {H : Hp} {a : Addr} {xs : List V} (h : H a = some (.lst xs)) : ThX K H (.ref a) := ⟨_, .no ⟨.type "list", .base (.lst h), kit_ty (by decide +kernel)⟩⟩
theorem th_len {H : Hp} {a : Addr} {xs : List V} (h : SqT K H a xs) (l : xs.length ≠ 2) : ThX K H (.ref a) := ⟨_, .len h l⟩
theorem th_two {H : Hp} {a c g : Addr} {xs ys : List V} (h : SqT K H a [.ref c, .ref g]) (h1 : SqT K H c xs) (h2 : SqT K H g ys) (f1 : xs.all flatV = true) (f2 : ys.all flatV = true) (l1 : xs.length ≤ 1001) (l2 : ys.length ≤ 1001) : ThX K H (.ref a) :=
  ⟨_, .two h (.seq (.inr h1) f1 l1) (.seq (.inr h2) f2 l2) fun xs ys e1 e2 => ⟨c, g, rfl, rfl, by cases e1; cases e2; exact .inr ⟨h1, h2⟩⟩⟩
theorem th_twoL {H : Hp} {a c g : Addr} {xs ys : List V} (h : SqT K H a [.ref c, .ref g]) (h1 : SqL K H c xs) (h2 : SqL K H g ys) (f1 : xs.all flatV = true) (f2 : ys.all flatV = true) (l1 : xs.length ≤ 1001) (l2 : ys.length ≤ 1001) : ThX K H (.ref a) :=
  ⟨_, .two h (.seq (.inl h1) f1 l1) (.seq (.inl h2) f2 l2) fun xs ys e1 e2 => ⟨c, g, rfl, rfl, by cases e1; cases e2; exact .inl ⟨h1, h2⟩⟩⟩
theorem th_r {H : Hp} {a c : Addr} {x : V} {xs : List V} (h : SqT K H a [.ref c, x]) (h1 : SqT K H c xs) (f1 : xs.all flatV = true) (l1 : xs.length ≤ 1001) (hx : flatV x = true) : ThX K H (.ref a) :=
  ⟨_, .two h (.seq (.inr h1) f1 l1) (.no (listT_flat hx)) fun xs ys e1 e2 => by cases e2⟩
theorem th_l {H : Hp} {a c : Addr} {x : V} {xs : List V} (h : SqT K H a [x, .ref c]) (h1 : SqT K H c xs) (f1 : xs.all flatV = true) (l1 : xs.length ≤ 1001) (hx : flatV x = true) : ThX K H (.ref a) :=
  ⟨_, .two h (.no (listT_flat hx)) (.seq (.inr h1) f1 l1) fun xs ys e1 e2 => by cases e1⟩
/-- the list that grows, all else kept -/
def Grow (K : PySem.W.Frag) (p : Addr) (Hb : Hp) (M : Nat) (H : Hp) : Prop := ∃ xs, H p = some (.lst xs) ∧ xs.length ≤ M ∧ ThL K (rem H p) xs ∧ Same Hb (rem H p)
theorem Grow.add {p : Addr} {Hb H H' : Hp} {M : Nat} {xs : List V} {x : V} (h : H p = some (.lst xs)) (l : xs.length ≤ M) (t : ThL K (rem H p) xs) (b : Same Hb (rem H p)) (s : Same H H') (hx : ThX K (rem H' p) x) : Grow K p Hb (M + 1) (upd H' p (.lst (xs ++ [x]))) := by
  refine ⟨_, upd_same, by rw [List.length_append]; exact Nat.succ_le_succ l, ?_, ?_⟩
  · rw [rem_upd]
    exact (t.same (rem_mono p s)).app (.cons hx .nil)
  · rw [rem_upd]
    exact Same.trans b (rem_mono p s)
def spNear (K : PySem.W.Frag) : Sp := fun vs H Q _ => ∃ (d l c a g' c' : Addr) (cs gs : List Int), vs = [.ref d, .ref a] ∧ DrawAt H d l c ∧ SqT K H a [.ref c', .ref g'] ∧ SqT K H c' (cs.map V.int) ∧ SqT K H g' (gs.map V.int) ∧ RunPair cs gs ∧ cs.length ≤ 24 ∧
  ∀ (p : Addr) (xs : List V) (H' : Hp), DrawAt H' d l c → KeepD H H' d l → H' p = some (.lst xs) → xs.length ≤ 100 → ThL K H' xs → Q (.ref p) H'
abbrev nNear : List Str := ["draw", "run_here", "came_here", "gone_here", "spot", "found", "bad"]
theorem scNear : FnScope nNear ["draw", "run_here"] (defScope sNear) := ⟨rfl, rfl, rfl, by decide +kernel, rfl, by decide +kernel, by decide +kernel⟩
theorem ok_near {f fT : Addr} {fd dT : FuncData} (F : Fun K "_law_near" "_law_near" sNear f fd) (G : RunG mg)
    (GT : FnOk P w K mg base CX0 2 fT dT ["draw", "amount"] (spTake K)) (kT : PySem.W.keepIn K (.ref fT) = true) (bT : Binds K dT ["draw", "amount"] []) (mT : mg "_law_take" = some (.ref fT)) :
    FnOk P w K mg base CX0 3 f fd ["draw", "run_here"] (spNear K) := by
  refine F.ok scNear (fun vs H Q E h => ?_) (fun cdv A outer s H vs Q E hr h => ?_)
  · obtain ⟨d, l, c, a, g', c', cs, gs, rfl, _⟩ := h
    rfl
  · obtain ⟨d, l, c, a, g', c', cs, gs, rfl, D, hA, hC, hG, rp, lc, k⟩ := h
    refine ⟨_, pss_cons (ps_asg (pv 1) (pg_tup rfl (pgs_cons (pg_name (i := 2) scNear.nd rfl (.inl rfl)) (pgs_cons (pg_name (i := 3) scNear.nd rfl (.inl rfl)) pgs_nil))))
      (pss_cons (ps_set (i := 4) scNear.nd rfl (Or.inl rfl) (pe_call GT hr rfl mT kT bT .nil pass0 (pa_cons (pv 0) (pa_cons (pe_callB call_len_seq (by rfl) G.len PySem.boot_len (pa_cons (pv 2) pa_nil)) pa_nil))))
      (pss_cons (ps_set (i := 5) scNear.nd rfl (Or.inl rfl) (pe_lst (pa_cons pe_non (pa_cons pe_int (pa_cons (pe_tup pa_nil) (pa_cons pe_str (pa_cons (pe_callTy call_list_of (by rfl) G.list (by decide +kernel) (pa_cons (pv 1) pa_nil))
          (pa_cons (pe_tup (pa_cons (pv 2) pa_nil)) (pa_cons (pe_op op_catU (pv 1) (pe_tup (pa_cons (pv 3) pa_nil))) (pa_cons (pe_tup (pa_cons (pv 2) (pa_cons (pe_op op_catU (pv 3) (pe_slice sl_seqB (pv 3) (po_some (pe_un un_neg pe_int)) po_none)) pa_nil)))
          (pa_cons (pe_tup (pa_cons (pv 2) (pa_cons pe_non pa_nil))) (pa_cons (pe_tup (pa_cons pe_non (pa_cons (pv 3) pa_nil))) pa_nil))))))))))))
      (pss_cons (ps_for PassesOwn.never rfl (pi_list (pe_lst (pa_cons (pe_op op_add (pe_ix ix_tup (pv 2) (pv 4) (fun _ _ => rfl)) pe_int) (pa_cons (pe_un un_neg pe_int) (pa_cons pe_bl (pa_cons pe_non (pa_cons pe_str (pa_cons (pe_ix ix_tup (pv 3) (pv 4) (fun _ _ => rfl)) pa_nil)))))))) (pg_name (i := 6) scNear.nd rfl (Or.inl rfl))
        (pss_one (ps_expr (pe_bm PySem.F.plainAttrs_list PySem.F.slot_list_append PySem.F.type_list_append mt_append (pv 5) (pa_cons
          (pe_tup (pa_cons (pv 2) (pa_cons (pe_op op_catU (pe_op op_catU (pe_slice sl_seqB (pv 3) po_none (po_some (pv 4))) (pe_tup (pa_cons (pv 6) pa_nil))) (pe_slice sl_seqB (pv 3) (po_some (pe_op op_add (pv 4) pe_int)) po_none)) pa_nil))) pa_nil)))))
      (pss_cons (ps_for PassesOwn.never rfl (pi_list (pe_lst (pa_cons (pe_callB (call_max2 rfl) (by rfl) G.max (by decide +kernel) (pa_cons pe_int (pa_cons (pe_op op_sub (pe_ix ix_tup (pv 2) (pv 4) (fun _ _ => rfl)) pe_int) pa_nil))) (pa_cons (pe_op op_add (pe_ix ix_tup (pv 2) (pv 4) (fun _ _ => rfl)) pe_int) (pa_cons pe_bl (pa_cons pe_non pa_nil)))))) (pg_name (i := 6) scNear.nd rfl (Or.inl rfl))
        (pss_one (ps_expr (pe_bm PySem.F.plainAttrs_list PySem.F.slot_list_append PySem.F.type_list_append mt_append (pv 5) (pa_cons
          (pe_tup (pa_cons (pe_op op_catU (pe_op op_catU (pe_slice sl_seqB (pv 2) po_none (po_some (pv 4))) (pe_tup (pa_cons (pv 6) pa_nil))) (pe_slice sl_seqB (pv 2) (po_some (pe_op op_add (pv 4) pe_int)) po_none)) (pa_cons (pv 3) pa_nil))) pa_nil)))))
      (pss_one (ps_ret (pe_op op_cat (pv 5) (pe_lst (pa_cons (pe_tup (pa_cons (pe_callTy call_list_of (by rfl) G.list (by decide +kernel) (pa_cons (pv 2) pa_nil)) (pa_cons (pe_callTy call_list_of (by rfl) G.list (by decide +kernel) (pa_cons (pv 3) pa_nil)) pa_nil)))
        (pa_cons (pe_tup (pa_cons (pe_tup pa_nil) (pa_cons (pe_tup pa_nil) pa_nil)))
        (pa_cons (pe_tup (pa_cons (pe_tup (pa_cons pe_int pa_nil)) (pa_cons (pe_tup (pa_cons pe_int pa_nil)) pa_nil)))
        (pa_cons (pe_tup (pa_cons (pe_tup (pa_cons pe_int pa_nil)) (pa_cons (pe_tup (pa_cons pe_int pa_nil)) pa_nil)))
        (pa_cons (pe_tup (pa_cons (pe_tup (pa_cons pe_int pa_nil)) (pa_cons (pe_tup (pa_cons pe_int pa_nil)) pa_nil))) pa_nil))))))))))))), ?_⟩
    refine ⟨_, rfl, a, [_, _], rfl, hA, rfl, _, _, rfl, _, _, rfl, rfl, ?_⟩
    have fc := ints_flat cs
    have fg := ints_flat gs
    have ln := rp.2.2.1
    have c0 : 1 ≤ cs.length := by
      obtain ⟨⟨r, e, _⟩, _⟩ := rp
      rw [e]
      simp
    have zc : (cs.map V.int).length ≤ 24 := by rw [List.length_map]; exact lc
    have zg : (gs.map V.int).length ≤ 24 := by rw [List.length_map]; omega
    refine ⟨_, rfl, _, rfl, c', _, rfl, .inr hC, d, l, c, _, rfl, D, by rw [List.length_map]; omega, by rw [List.length_map]; omega, fun spot H1 r0 r1 D1 k1 => ?_⟩
    rw [List.length_map] at r1
    have hA1 := keepT D k1 hA
    have hC1 := keepT D k1 hC
    have hG1 := keepT D k1 hG
    obtain ⟨sp, rfl⟩ : ∃ j : Nat, spot = (j : Int) := ⟨spot.toNat, by omega⟩
    have eC : ∀ H', SqT K H' c' (cs.map V.int) → ∃ x : Int, atI (cs.map V.int) (sp : Int) = some (.int x) := fun _ _ => ⟨cs[sp]'(by omega), atI_nat (by rw [List.getElem?_map, List.getElem?_eq_getElem (by omega)]; rfl)⟩
    obtain ⟨xc, exc⟩ := eC _ hC
    obtain ⟨xg, exg⟩ : ∃ x : Int, atI (gs.map V.int) (sp : Int) = some (.int x) := ⟨gs[sp]'(by omega), atI_nat (by rw [List.getElem?_map, List.getElem?_eq_getElem (by omega)]; rfl)⟩
    refine ⟨by decide, fun t3 h3 => ?_⟩
    generalize g3 : upd H1 t3 _ = H3
    obtain ⟨s3, f3⟩ := alloc g3 h3
    refine ⟨_, rfl, a, _, rfl, .inr (seqT s3 hA1), fun t5 h5 => ?_⟩
    generalize g5 : upd H3 t5 _ = H5
    obtain ⟨s5, f5⟩ := alloc g5 h5
    refine ⟨_, rfl, (by show 1 ≤ sizeLine; decide), fun t6 h6 => ?_⟩
    generalize g6 : upd H5 t6 _ = H6
    obtain ⟨s6, f6⟩ := alloc g6 h6
    refine ⟨_, rfl, _, rfl, (by show 1 ≤ sizeLine; decide), fun t7 h7 => ?_⟩
    generalize g7 : upd H6 t7 _ = H7
    obtain ⟨s7, f7⟩ := alloc g7 h7
    have s17 : Same H1 H7 := Same.trans s3 (Same.trans s5 (Same.trans s6 s7))
    refine ⟨a, t7, _, _, rfl, rfl, seqT s17 hA1, SqT.of f7, (by show 3 ≤ sizeLine; decide), fun p7 H8 s8 f8 => ?_⟩
    have s18 : Same H1 H8 := Same.trans s17 s8
    refine ⟨_, rfl, _, rfl, _, rfl, 1, rfl, _, rfl, g', _, rfl, .inr (seqT s18 hG1), fun H9 p9 s9 _ hp9 _ => ?_⟩
    have s19 : Same H1 H9 := Same.trans s18 s9
    have f9 := hp9 _ (seqT s18 hG1)
    refine ⟨g', p9, _, _, rfl, rfl, seqT s19 hG1, f9, Nat.le_trans (Nat.add_le_add zg (Nat.le_trans (cut_len _ _ _) zg)) (by decide), fun p10 H10 s10 f10 => ⟨(by show 2 ≤ sizeLine; decide), fun t11 h11 => ?_⟩⟩
    generalize g11 : upd H10 t11 _ = H11
    obtain ⟨s11, f11⟩ := alloc g11 h11
    refine ⟨_, rfl, (by show 2 ≤ sizeLine; decide), fun t12 h12 => ?_⟩
    generalize g12 : upd H11 t12 _ = H12
    obtain ⟨s12, f12⟩ := alloc g12 h12
    refine ⟨_, rfl, (by show 2 ≤ sizeLine; decide), fun t13 h13 => ?_⟩
    generalize g13 : upd H12 t13 _ = H13
    obtain ⟨s13, f13⟩ := alloc g13 h13
    have s1d : Same H1 H13 := Same.trans s19 (Same.trans s10 (Same.trans s11 (Same.trans s12 s13)))
    have hA13 := seqT s1d hA1
    have hC13 := seqT s1d hC1
    have hG13 := seqT s1d hG1
    have a12 := Same.trans s12 s13
    have a11 := Same.trans s11 a12
    have a10 := Same.trans s10 a11
    have a9 := Same.trans s9 a10
    have a8 := Same.trans s8 a9
    have a7 := Same.trans s7 a8
    have a6 := Same.trans s6 a7
    have a5 := Same.trans s5 a6
    have lz : ∀ {n : Nat}, n ≤ 24 → n ≤ 1001 := fun h => by omega
    have T13 : ThL K H13 [.non, .int 5, .ref t3, .str "run", .ref t5, .ref t6, .ref p7, .ref t11, .ref t12, .ref t13] := by
      refine .cons (th_flat rfl) (.cons (th_flat rfl) (.cons (th_len (SqT.of (a5 _ _ f3)) (by decide)) (.cons (th_flat rfl) (.cons (th_list (a6 _ _ f5)) (.cons (th_len (SqT.of (a7 _ _ f6)) (by show 1 ≠ 2; decide)) (.cons (th_len (seqT a9 f8) (by show 3 ≠ 2; decide)) (.cons ?_ (.cons ?_ (.cons ?_ .nil)))))))))
      · exact th_two (SqT.of (a12 _ _ f11)) hC13 (seqT a11 f10) fc (app_flat fg (cut_flat fg)) (lz zc) (by rw [List.length_append]; have := cut_len (gs.map V.int) (some (-1)) none; omega)
      · exact th_r (SqT.of (s13 _ _ f12)) hC13 fc (lz zc) rfl
      · exact th_l (SqT.of f13) hG13 fg (lz zg) rfl
    refine ⟨(by show 10 ≤ sizeLine; decide), fun p hp => ?_⟩
    generalize g14 : upd H13 p _ = H14
    obtain ⟨s14, f14⟩ := alloc g14 hp
    have hC14 := seqT s14 hC13
    have hG14 := seqT s14 hG13
    refine ⟨_, rfl, _, rfl, c', _, _, _, rfl, rfl, hC14, exc, _, _, rfl, rfl, _, rfl, _, rfl, _, rfl, g', _, _, _, rfl, rfl, hG14, exg, (by show 6 ≤ sizeLine; decide), fun q1 hq1 => ?_⟩
    generalize g15 : upd H14 q1 _ = H15
    obtain ⟨s15, f15⟩ := alloc g15 hq1
    have pq : q1 ≠ p := (ne_of_none f14 hq1).symm
    have b15 : Same H13 (rem H15 p) := rem_new hp (Same.trans s14 s15)
    have C15 : ∀ H', Same (rem H15 p) (rem H' p) → SqT K (rem H' p) c' (cs.map V.int) := fun H' z => seqT (Same.trans b15 z) hC13
    have G15 : ∀ H', Same (rem H15 p) (rem H' p) → SqT K (rem H' p) g' (gs.map V.int) := fun H' z => seqT (Same.trans b15 z) hG13
    refine ⟨q1, rfl, ⟨_, SqL.of f15⟩, for_list (K := K) (a := q1) (xs := [V.int (xc + 1), .int (-1), .bl true, .non, .str "0", .int xg]) (fun i σ H2 => ∃ v6 : Option V, σ = [some (.ref d), some (.ref a), some (.ref c'), some (.ref g'), some (.int (sp : Int)), some (.ref p), v6] ∧ Grow K p (rem H15 p) (10 + i) H2)
      ⟨_, rfl, _, s15 _ _ f14, Nat.le_refl _, T13.same b15, Same.refl _⟩ ?_ ?_ ?_⟩
    · rintro i σ H2 _ ⟨_, _, _, _, _, _, b2⟩
      exact SqL.of (rem_sub _ _ _ _ (b2 _ _ (by rw [rem_ne pq]; exact f15)))
    · rintro i x σ H2 hx ⟨v6, rfl, xs, hxs, lxs, tx, b2⟩
      have fx : flatV x = true := List.all_eq_true.mp (show ([V.int (xc + 1), .int (-1), .bl true, .non, .str "0", .int xg] : List V).all flatV = true from rfl) x (List.mem_of_getElem? hx)
      have hi : i < 6 := (List.getElem?_eq_some_iff.mp hx).1
      have gg : ∀ H', Same H2 H' → SqT K H' g' (gs.map V.int) := fun H' z => seqT z (seqT (rem_sub H2 p) (G15 H2 b2))
      refine ⟨_, rfl, .inl ⟨rfl, _, SqL.of hxs⟩, _, rfl, _, rfl, _, rfl, _, rfl, g', _, rfl, .inr (gg _ (Same.refl _)), fun H3 p3 s3 _ hp3 _ => ?_⟩
      have e3 := hp3 _ (gg _ (Same.refl _))
      refine ⟨_, rfl, (by show 1 ≤ sizeLine; decide), fun t4 h4 => ?_⟩
      generalize g4 : upd H3 t4 _ = H4
      obtain ⟨s4, f4⟩ := alloc g4 h4
      refine ⟨p3, t4, _, _, rfl, rfl, seqT s4 e3, SqT.of f4, ?_, fun p5 H5 s5 f5 => ?_⟩
      · have := cut_len (gs.map V.int) none (some (sp : Int))
        show _ + 1 ≤ sizeLine
        exact Nat.le_trans (Nat.add_le_add (Nat.le_trans this zg) (Nat.le_refl 1)) (by decide)
      have s25 : Same H2 H5 := Same.trans s3 (Same.trans s4 s5)
      refine ⟨_, rfl, _, rfl, _, _, rfl, rfl, _, rfl, g', _, rfl, .inr (gg _ s25), fun H6 p6 s6 _ hp6 _ => ?_⟩
      have e6 := hp6 _ (gg _ s25)
      have z1 := cut_len (gs.map V.int) none (some (sp : Int))
      have z2 := cut_len (gs.map V.int) (some ((sp : Int) + 1)) none
      have z3 : ((cutV (gs.map V.int) none (some (sp : Int)) ++ [x]) ++ cutV (gs.map V.int) (some ((sp : Int) + 1)) none).length ≤ 49 := by
        rw [List.length_append, List.length_append]
        show _ + 1 + _ ≤ 49
        omega
      refine ⟨p5, p6, _, _, rfl, rfl, seqT s6 f5, e6, by rw [← List.length_append]; exact Nat.le_trans z3 (by decide), fun p7 H7 s7 f7 => ⟨(by show 2 ≤ sizeLine; decide), fun t8 h8 => ?_⟩⟩
      generalize g8 : upd H7 t8 _ = H8
      obtain ⟨s8, f8⟩ := alloc g8 h8
      have s28 : Same H2 H8 := Same.trans s25 (Same.trans s6 (Same.trans s7 s8))
      have hxs8 := s28 _ _ hxs
      refine ⟨p, _, _, rfl, rfl, hxs8, Nat.lt_of_le_of_lt lxs (small1000' (by omega)), _, rfl, ?_⟩
      rw [show 10 + (i + 1) = 10 + i + 1 from rfl]
      exact Grow.add hxs lxs tx b2 s28 (th_two (remT (SqT.of f8) hxs8) (seqT (rem_mono p s28) (C15 H2 b2)) (remT (seqT s8 f7) hxs8) fc (app_flat (app_flat (cut_flat fg) (one_flat fx)) (cut_flat fg)) (lz zc) (by omega))
    · rintro σ H2 ⟨v6, rfl, xs0, hx0, lx0, tx0, b0⟩
      have hC2 := seqT (rem_sub H2 p) (C15 H2 b0)
      refine ⟨_, rfl, _, rfl, c', _, _, _, rfl, rfl, hC2, exc, _, _, rfl, rfl, _, _, rfl, _, rfl, _, rfl, c', _, _, _, rfl, rfl, hC2, exc, _, _, rfl, rfl, (by show 4 ≤ sizeLine; decide), fun q2 hq2 => ?_⟩
      generalize g17 : upd H2 q2 _ = H17
      obtain ⟨s17, f17⟩ := alloc g17 hq2
      have pq2 : q2 ≠ p := (ne_of_none hx0 hq2).symm
      have b17 : Same (rem H15 p) (rem H17 p) := Same.trans b0 (rem_mono p s17)
      refine ⟨q2, rfl, ⟨_, SqL.of f17⟩, for_list (K := K) (a := q2) (xs := [V.int (if xc - 1 > 0 then xc - 1 else 0), .int (xc + 1), .bl false, .non]) (fun i σ H2 => ∃ v6 : Option V, σ = [some (.ref d), some (.ref a), some (.ref c'), some (.ref g'), some (.int (sp : Int)), some (.ref p), v6] ∧ Grow K p (rem H17 p) (16 + i) H2)
        ⟨_, rfl, _, s17 _ _ hx0, lx0, tx0.same (rem_mono p s17), Same.refl _⟩ ?_ ?_ ?_⟩
      · rintro i σ H2 _ ⟨_, _, _, _, _, _, b2⟩
        exact SqL.of (rem_sub _ _ _ _ (b2 _ _ (by rw [rem_ne pq2]; exact f17)))
      · rintro i x σ H2 hx ⟨v6, rfl, xs, hxs, lxs, tx, b2⟩
        have fx : flatV x = true := List.all_eq_true.mp (show ([V.int (if xc - 1 > 0 then xc - 1 else 0), .int (xc + 1), .bl false, .non] : List V).all flatV = true from rfl) x (List.mem_of_getElem? hx)
        have hi : i < 4 := (List.getElem?_eq_some_iff.mp hx).1
        have gg : ∀ H', Same H2 H' → SqT K H' c' (cs.map V.int) := fun H' z => seqT z (seqT (rem_sub H2 p) (C15 H2 (Same.trans b17 b2)))
        refine ⟨_, rfl, .inl ⟨rfl, _, SqL.of hxs⟩, _, rfl, _, rfl, _, rfl, c', _, rfl, .inr (gg _ (Same.refl _)), fun H3 p3 s3 _ hp3 _ => ?_⟩
        have e3 := hp3 _ (gg _ (Same.refl _))
        refine ⟨_, rfl, (by show 1 ≤ sizeLine; decide), fun t4 h4 => ?_⟩
        generalize g4 : upd H3 t4 _ = H4
        obtain ⟨s4, f4⟩ := alloc g4 h4
        refine ⟨p3, t4, _, _, rfl, rfl, seqT s4 e3, SqT.of f4, ?_, fun p5 H5 s5 f5 => ?_⟩
        · have := cut_len (cs.map V.int) none (some (sp : Int))
          show _ + 1 ≤ sizeLine
          exact Nat.le_trans (Nat.add_le_add (Nat.le_trans this zc) (Nat.le_refl 1)) (by decide)
        have s25 : Same H2 H5 := Same.trans s3 (Same.trans s4 s5)
        refine ⟨_, rfl, _, rfl, _, _, rfl, rfl, _, rfl, c', _, rfl, .inr (gg _ s25), fun H6 p6 s6 _ hp6 _ => ?_⟩
        have e6 := hp6 _ (gg _ s25)
        have z1 := cut_len (cs.map V.int) none (some (sp : Int))
        have z2 := cut_len (cs.map V.int) (some ((sp : Int) + 1)) none
        have z3 : ((cutV (cs.map V.int) none (some (sp : Int)) ++ [x]) ++ cutV (cs.map V.int) (some ((sp : Int) + 1)) none).length ≤ 49 := by
          rw [List.length_append, List.length_append]
          show _ + 1 + _ ≤ 49
          omega
        refine ⟨p5, p6, _, _, rfl, rfl, seqT s6 f5, e6, by rw [← List.length_append]; exact Nat.le_trans z3 (by decide), fun p7 H7 s7 f7 => ⟨_, rfl, (by show 2 ≤ sizeLine; decide), fun t8 h8 => ?_⟩⟩
        generalize g8 : upd H7 t8 _ = H8
        obtain ⟨s8, f8⟩ := alloc g8 h8
        have s28 : Same H2 H8 := Same.trans s25 (Same.trans s6 (Same.trans s7 s8))
        have hxs8 := s28 _ _ hxs
        refine ⟨p, _, _, rfl, rfl, hxs8, Nat.lt_of_le_of_lt lxs (small1000' (by omega)), _, rfl, ?_⟩
        rw [show 16 + (i + 1) = 16 + i + 1 from rfl]
        exact Grow.add hxs lxs tx b2 s28 (th_two (remT (SqT.of f8) hxs8) (remT (seqT s8 f7) hxs8) (seqT (rem_mono p s28) (G15 H2 (Same.trans b17 b2))) (app_flat (app_flat (cut_flat fc) (one_flat fx)) (cut_flat fc)) fg (by omega) (lz zg))
      · rintro σ H18 ⟨v6, rfl, xs, hxs, lxs, tx, b2⟩
        have b18 := Same.trans b17 b2
        have hC18 := seqT (rem_sub H18 p) (C15 H18 b18)
        have hG18 := seqT (rem_sub H18 p) (G15 H18 b18)
        refine ⟨_, rfl, _, rfl, c', _, rfl, .inr hC18, fun l1 hl1 => ?_⟩
        generalize g19 : upd H18 l1 _ = H19
        obtain ⟨s19', f19⟩ := alloc g19 hl1
        refine ⟨_, rfl, g', _, rfl, .inr (seqT s19' hG18), fun l2 hl2 => ?_⟩
        generalize g20 : upd H19 l2 _ = H20
        obtain ⟨s20, f20⟩ := alloc g20 hl2
        refine ⟨(by show 2 ≤ sizeLine; decide), fun t21 h21 => ?_⟩
        generalize g21 : upd H20 t21 _ = H21
        obtain ⟨s21, f21⟩ := alloc g21 h21
        refine ⟨(by show 0 ≤ sizeLine; decide), fun ta0 hta0 => ?_⟩
        generalize ga0 : upd H21 ta0 _ = Ha0
        obtain ⟨sa0, fa0⟩ := alloc ga0 hta0
        refine ⟨(by show 0 ≤ sizeLine; decide), fun ta1 hta1 => ?_⟩
        generalize ga1 : upd Ha0 ta1 _ = Ha1
        obtain ⟨sa1, fa1⟩ := alloc ga1 hta1
        refine ⟨(by show 2 ≤ sizeLine; decide), fun ta2 hta2 => ?_⟩
        generalize ga2 : upd Ha1 ta2 _ = Ha2
        obtain ⟨sa2, fa2⟩ := alloc ga2 hta2
        refine ⟨(by show 1 ≤ sizeLine; decide), fun tb0 htb0 => ?_⟩
        generalize gb0 : upd Ha2 tb0 _ = Hb0
        obtain ⟨sb0, fb0⟩ := alloc gb0 htb0
        refine ⟨(by show 1 ≤ sizeLine; decide), fun tb1 htb1 => ?_⟩
        generalize gb1 : upd Hb0 tb1 _ = Hb1
        obtain ⟨sb1, fb1⟩ := alloc gb1 htb1
        refine ⟨(by show 2 ≤ sizeLine; decide), fun tb2 htb2 => ?_⟩
        generalize gb2 : upd Hb1 tb2 _ = Hb2
        obtain ⟨sb2, fb2⟩ := alloc gb2 htb2
        refine ⟨(by show 1 ≤ sizeLine; decide), fun tc0 htc0 => ?_⟩
        generalize gc0 : upd Hb2 tc0 _ = Hc0
        obtain ⟨sc0, fc0⟩ := alloc gc0 htc0
        refine ⟨(by show 1 ≤ sizeLine; decide), fun tc1 htc1 => ?_⟩
        generalize gc1 : upd Hc0 tc1 _ = Hc1
        obtain ⟨sc1, fc1⟩ := alloc gc1 htc1
        refine ⟨(by show 2 ≤ sizeLine; decide), fun tc2 htc2 => ?_⟩
        generalize gc2 : upd Hc1 tc2 _ = Hc2
        obtain ⟨sc2, fc2⟩ := alloc gc2 htc2
        refine ⟨(by show 1 ≤ sizeLine; decide), fun td0 htd0 => ?_⟩
        generalize gd0 : upd Hc2 td0 _ = Hd0
        obtain ⟨sd0, fd0⟩ := alloc gd0 htd0
        refine ⟨(by show 1 ≤ sizeLine; decide), fun td1 htd1 => ?_⟩
        generalize gd1 : upd Hd0 td1 _ = Hd1
        obtain ⟨sd1, fd1⟩ := alloc gd1 htd1
        refine ⟨(by show 2 ≤ sizeLine; decide), fun td2 htd2 => ?_⟩
        generalize gd2 : upd Hd1 td2 _ = Hd2
        obtain ⟨sd2, fd2⟩ := alloc gd2 htd2
        refine ⟨(by show 5 ≤ sizeLine; decide), fun q3 hq3 => ?_⟩
        generalize g22 : upd Hd2 q3 _ = H22
        obtain ⟨s22, f22⟩ := alloc g22 hq3
        have ed2 := s22
        have ed1 := Same.trans sd2 ed2
        have ed0 := Same.trans sd1 ed1
        have ec2 := Same.trans sd0 ed0
        have ec1 := Same.trans sc2 ec2
        have ec0 := Same.trans sc1 ec1
        have eb2 := Same.trans sc0 ec0
        have eb1 := Same.trans sb2 eb2
        have eb0 := Same.trans sb1 eb1
        have ea2 := Same.trans sb0 eb0
        have ea1 := Same.trans sa2 ea2
        have ea0 := Same.trans sa1 ea1
        have e21 := Same.trans sa0 ea0
        have e20 := Same.trans s21 e21
        have e19 := Same.trans s20 e20
        have e18 := Same.trans s19' e19
        have T22 : ThL K H22 [.ref t21, .ref ta2, .ref tb2, .ref tc2, .ref td2] := .cons (th_twoL (SqT.of (e21 _ _ f21)) (SqL.of (e19 _ _ f19)) (SqL.of (e20 _ _ f20)) fc fg (lz zc) (lz zg)) (
          .cons (th_two (SqT.of (ea2 _ _ fa2)) (SqT.of (ea0 _ _ fa0)) (SqT.of (ea1 _ _ fa1)) rfl rfl (by decide) (by decide)) (
          .cons (th_two (SqT.of (eb2 _ _ fb2)) (SqT.of (eb0 _ _ fb0)) (SqT.of (eb1 _ _ fb1)) rfl rfl (by decide) (by decide)) (
          .cons (th_two (SqT.of (ec2 _ _ fc2)) (SqT.of (ec0 _ _ fc0)) (SqT.of (ec1 _ _ fc1)) rfl rfl (by decide) (by decide)) (
          .cons (th_two (SqT.of (ed2 _ _ fd2)) (SqT.of (ed0 _ _ fd0)) (SqT.of (ed1 _ _ fd1)) rfl rfl (by decide) (by decide)) (
          .nil)))))
        refine ⟨p, q3, _, _, rfl, rfl, e18 _ _ hxs, f22, Nat.le_trans (Nat.add_le_add_right lxs 5) (by show 25 ≤ sizeLine; decide), fun r hr => ?_⟩
        generalize g23 : upd H22 r _ = H23
        obtain ⟨s23, f23⟩ := alloc g23 hr
        have sF : Same H1 H23 := Same.trans s1d (Same.trans (Same.trans b15 b18) (Same.trans (rem_sub H18 p) (Same.trans e18 s23)))
        refine k r _ H23 (D1.same sF) (k1.trans (Same.keepD d l sF)) f23 ?_ (ThL.app (tx.same (Same.trans (rem_sub H18 p) (Same.trans e18 s23))) (T22.same s23))
        rw [List.length_append]
        show xs.length + 5 ≤ 100
        have : xs.length ≤ 16 + 4 := lxs
        omega
end
end WW
end

section
set_option Elab.async false
set_option linter.all false
set_option maxRecDepth 100000
set_option maxHeartbeats 4000000
/-! The law's own call, under no guard. -/
namespace WG
open PySem PySem.Spec PyProof.Rows L2
section
variable {P : Program} {w : World} {K : PySem.W.Frag} {mg mb : Str → Option Value} {k : Nat} {fa a : Addr} {fd : FuncData}
variable {x : Str} {sp : Sp} {s₁ : Shared} {vs : List Value} {ns : List Int}
/-- what the call is wanted to leave -/
abbrev LawEnd (s₁ : Shared) (r : Result) (s' : Shared) : Prop :=
  r = .ok (.ret (.bool true)) ∧ OldK s₁.heap s'.heap ∧ s'.os = s₁.os ∧ AllBare s'.gens
theorem law_core (KX : K.In s₁.heap) (hns : s₁.heap.Ns mainGlobals mg) (hb : s₁.heap.Ns builtinsNs mb)
    (hbb : ∀ x : Str, x ≠ "__name__" → mb x = bootBuiltins x) (hlim : s₁.heap.NoLimit) (hg : s₁.gens = #[])
    (ha : s₁.heap.get? a = some { cls := .type "list", data := .seq vs.toArray }) (hr : Room k callerA)
    (F : ∀ base : Heap, K.In base → base.Ns mainGlobals mg → FnG P w K mg base CX0 k fa fd [x] sp)
    (hbind : ∀ (s : Shared) (u : Value), BindsTo s fd ⟨[u], []⟩ [(x, u)]) (H : Hp) (hO : Only H)
    (hsp : sp [.ref a] H (fun v _ => v = .bl true) fun _ _ _ => False) (hok : HOk P w H s₁.heap)
    (hA : ∀ b, H b ≠ none → b = a) (hK : H a ≠ none → K.lookup a = none) :
    codeAny (model P w) callerA (.call (.ref fa) ⟨[.ref a], []⟩) (LawEnd s₁) s₁ := by
  have nd : ∀ {b : Addr} {o : Obj} {es : Array DictEntry} {ep : Nat},
      s₁.heap.get? b = some o → o.data = .dict es ep → H b = none := by
    intro b o es ep e d
    cases q : H b with
    | none => rfl
    | some u =>
      have e' : b = a := hA b (by rw [q]; simp)
      subst e'
      rw [ha] at e
      cases e
      have d' : Data.seq vs.toArray _ = Data.dict es ep := d
      cases d'
  have nsK : ∀ {b : Addr} {m : Str → Option Value}, s₁.heap.Ns b m → (hidT s₁.heap H).Ns b m := by
    rintro b m ⟨o, es, ep, e, d, r⟩
    exact ⟨o, es, ep, hidT_get e (nd e d), d, r⟩
  have hKb : K.In (hidT s₁.heap H) := by
    intro b o e
    refine hidT_get (KX b o e) ?_
    cases q : H b with
    | none => rfl
    | some u =>
      have e' : b = a := hA b (by rw [q]; simp)
      subst e'
      rw [hK (by rw [q]; simp)] at e
      cases e
  have hM : Mod K mg (hidT s₁.heap H) := by
    obtain ⟨mc, h1, h2⟩ := hlim
    exact ⟨hKb, nsK hns, ⟨mb, nsK hb, hbb⟩, ⟨mc, nsK h1, h2⟩⟩
  have e0 : Env0 P w K mg (hidT s₁.heap H) callerA [] s₁ H :=
    { frames := rfl, mod := hM, bs := fun b o e => of_hidT e, bsz := Nat.le_of_eq (hidT_size _ _), funs := trivial,
      frf := fun b hb => absurd (show b ∈ ([] : List Addr) from hb) (by simp), hok := hok, bare := .of_eq hg }
  have run := (F _ hKb (nsK hns)).run callerA [] s₁ H ⟨[.ref a], []⟩ [.ref a] [.ref a] _ _ hr rfl e0
    (hbind s₁ (.ref a)) (.cons rfl .nil) hsp
  refine codeAny_mono run fun r s' h => ?_
  cases r with
  | error e => exact False.elim h
  | ok fl =>
    cases fl with
    | next => exact False.elim h
    | brk => exact False.elim h
    | cont => exact False.elim h
    | ret u =>
      obtain ⟨v, H', os, bare, un, hok', r', q⟩ := h
      have q' : v = .bl true := q
      subst q'
      obtain rfl : u = Value.bool true := r'
      refine ⟨rfl, OldK.of_keep ?_, os, bare⟩
      intro b o e
      cases q : H b with
      | none =>
        exact un.keep b o e q (fun z => absurd (show b ∈ ([] : List Addr) from z) (by simp)) (by simp)
      | some u =>
        rcases hO b with z | ⟨ob, xs, z⟩
        · rw [q] at z
          cases z
        · obtain ⟨e1, _⟩ := hok b _ z
          obtain ⟨e2, _⟩ := hok' b _ (un.frzs b ob _ z)
          rw [e] at e1
          cases e1
          exact e2
theorem law_end (KX : K.In s₁.heap) (hns : s₁.heap.Ns mainGlobals mg) (hb : s₁.heap.Ns builtinsNs mb)
    (hbb : ∀ x : Str, x ≠ "__name__" → mb x = bootBuiltins x) (hlim : s₁.heap.NoLimit) (hg : s₁.gens = #[])
    (ha : s₁.heap.get? a = some { cls := .type "list", data := .seq vs.toArray }) (hi : IntsAre vs ns)
    (hl : ns.length ≤ sizeLine) (hr : Room k callerA)
    (F : ∀ base : Heap, K.In base → base.Ns mainGlobals mg → FnG P w K mg base CX0 k fa fd [x] sp)
    (hbind : ∀ (s : Shared) (u : Value), BindsTo s fd ⟨[u], []⟩ [(x, u)])
    (hsp : ∀ H : Hp, Only H → SqL K H a (ns.map V.int) → sp [.ref a] H (fun v _ => v = .bl true) fun _ _ _ => False) :
    codeAny (model P w) callerA (.call (.ref fa) ⟨[.ref a], []⟩) (LawEnd s₁) s₁ := by
  have rv := vals_ints hi
  have lv := hi.length
  cases hk : K.lookup a with
  | some o =>
    have e := KX a o hk
    rw [ha] at e
    cases e
    have hS : SqL K (fun _ => none) a (ns.map V.int) :=
      .inr ⟨_, vs.toArray, _, hk, rfl, rfl, rfl, by rw [List.size_toArray, lv]; exact hl, by simpa using rv⟩
    refine law_core KX hns hb hbb hlim hg ha hr F hbind (fun _ => none) (fun _ => .inl rfl) (hsp _ (fun _ => .inl rfl) hS) ?_ ?_ ?_
    · intro b u z
      have z' : (none : Option HO) = some u := z
      cases z'
    · exact fun b z => absurd rfl z
    · exact fun z => absurd rfl z
  | none =>
    let ob : Obj := { cls := .type "list", data := .seq vs.toArray }
    let H : Hp := fun b => if b = a then some (.frz ob (.lst (ns.map V.int))) else none
    have h1 : H a = some (.frz ob (.lst (ns.map V.int))) := if_pos rfl
    have h2 : ∀ b, b ≠ a → H b = none := fun b hb => if_neg hb
    have hO : Only H := by
      intro b
      by_cases hb : b = a
      · exact .inr ⟨_, _, by rw [hb]; exact h1⟩
      · exact .inl (h2 b hb)
    refine law_core KX hns hb hbb hlim hg ha hr F hbind H hO (hsp H hO (.inl (.inr ⟨ob, h1⟩))) ?_ ?_ fun _ => hk
    · intro b u z
      by_cases hb : b = a
      · subst hb
        rw [h1] at z
        cases z
        exact ⟨ha, by rw [List.length_map]; exact hl, vs, _, rv, ha⟩
      · rw [h2 b hb] at z
        cases z
    · intro b z
      by_cases hb : b = a
      · exact hb
      · exact absurd (h2 b hb) z
end
/-- the goal that k_head leaves, from the law's promise -/
theorem walkG {l : PySem.W.OpenLaw} {n k : Nat} {q : Program} {loose : List Str} {XP : (Str → Option Value) → Heap → Prop} {YP : World → Heap → Prop}
    {d : DefRec} {K : Params → PySem.W.Frag} {sp : PySem.W.Frag → Sp} {x : Str}
    (hn : l.most = some n) (hn2 : n ≤ sizeLine) (hdf : d.params.defaults = []) (hr : Room k callerA)
    (hY : ∀ (w : World) (h : Heap), YP w h → (K w.params).In h)
    (F : ∀ (w : World) (mg : Str → Option Value) (fa : Addr) (h : Heap), (K w.params).In h → h.Ns mainGlobals mg → mg d.name = some (.ref fa) →
      ∃ fd : FuncData, (∀ (s : Shared) (u : Value), BindsTo s fd ⟨[u], []⟩ [(x, u)]) ∧
        ∀ base : Heap, (K w.params).In base → base.Ns mainGlobals mg → FnG l.prog w (K w.params) mg base CX0 k fa fd [x] (sp (K w.params)))
    (hsp : ∀ (K : PySem.W.Frag) (H : Hp) (a : Addr) (ns : List Int), ns.length ≤ n → SqL K H a (ns.map V.int) →
      sp K [.ref a] H (fun v _ => v = .bl true) fun _ _ _ => False) :
    PySem.W.WalkO q loose XP YP l.row.toRowW d [] (fun f vs => PySem.call f vs) := by
  refine Att.attach_call hn hdf fun w s₀ s₁ mg mb fa o pm cd doc a vs ns G Y ho hd hcd hmg hobj hints hlen hg => ?_
  have KX := hY w _ Y
  obtain ⟨fd, hb, hF⟩ := F w mg fa _ KX G.T.g hmg
  exact law_end KX G.T.g G.T.b G.T.builtins G.T.nolimit hg hobj hints
    (Nat.le_trans hlen hn2) hr hF hb fun H _ hS => hsp _ H a ns hlen hS
end WG
end

section
set_option Elab.async false
set_option linter.all false
set_option maxRecDepth 100000
set_option maxHeartbeats 8000000
/-! the head's facts, read over the few objects that a law comes to; the end of a law whose defs make lambdas -/
namespace WH
open PySem PySem.Spec PyProof.Rows L2 WG
section
variable {P : Program} {w : World} {K : PySem.W.Frag} {mg mb : Str → Option Value} {k : Nat} {fa a : Addr} {fd : FuncData}
variable {x : Str} {sp : Sp} {s₁ : Shared} {vs : List Value} {ns : List Int} {cs : List (Addr × Addr)}
abbrev tab0 : Obj := { cls := .none, data := .fields #[] }
/-- the script and the empty tables, and nothing else, may be tracked -/
structure Start (K : PySem.W.Frag) (h : Heap) (a : Addr) (cs : List (Addr × Addr)) (H : Hp) : Prop where
  tb : ∀ p ∈ cs, H p.2 = some (.tbl #[])
  all : ∀ b, H b = none ∨ b ∈ cs.map (·.2) ∨ ∃ o xs, H b = some (.frz o (.lst xs))
  only : ∀ b, H b ≠ none → b = a ∨ b ∈ cs.map (·.2)
  aK : H a ≠ none → K.lookup a = none
theorem coreT (KX : K.In s₁.heap) (hns : s₁.heap.Ns mainGlobals mg) (hb : s₁.heap.Ns builtinsNs mb)
    (hbb : ∀ x : Str, x ≠ "__name__" → mb x = bootBuiltins x) (hlim : s₁.heap.NoLimit) (hg : s₁.gens = #[])
    (hT : ∀ p ∈ cs, s₁.heap.get? p.2 = some tab0) (nT : ∀ p ∈ cs, K.lookup p.2 = none) (hC : ∀ p ∈ cs, PySem.W.CodeHd s₁.heap p.1 p.2)
    (hbm : ∃ (bm : Addr) (ob : Obj), mg "__builtins__" = some (.ref bm) ∧ bm ≠ builtinsNs ∧ s₁.heap.get? bm = some ob ∧ ob.cls = .type "module" ∧ ob.dict = some builtinsNs ∧ ob.data = .plain)
    (ha : s₁.heap.get? a = some { cls := .type "list", data := .seq vs.toArray }) (hr : Room k callerA)
    (F : ∀ base : Heap, K.In base → base.Ns mainGlobals mg → (∀ p ∈ cs, LamX.TabB base mg p.1 p.2) → FnG P w K mg base CX0 k fa fd [x] sp)
    (hbind : ∀ (s : Shared) (u : Value), BindsTo s fd ⟨[u], []⟩ [(x, u)]) (H : Hp) (S : Start K s₁.heap a cs H)
    (hsp : sp [.ref a] H (fun v _ => v = .bl true) fun _ _ _ => False) (hok : HOk P w H s₁.heap) :
    codeAny (model P w) callerA (.call (.ref fa) ⟨[.ref a], []⟩) (LawEnd s₁) s₁ := by
  have tabAt : ∀ b : Addr, b ∈ cs.map (·.2) → s₁.heap.get? b = some tab0 := by
    intro b hb
    obtain ⟨p, hp, rfl⟩ := List.mem_map.mp hb
    exact hT p hp
  have off : ∀ {b : Addr} {o : Obj}, s₁.heap.get? b = some o → (∀ us n, o.data ≠ .seq us n) → o.data ≠ .fields #[] → H b = none := by
    intro b o e n1 n2
    cases q : H b with
    | none => rfl
    | some u =>
      rcases S.only b (by rw [q]; simp) with z | z
      · rw [z, ha] at e
        cases e
        exact absurd rfl (n1 _ _)
      · rw [tabAt b z] at e
        cases e
        exact absurd rfl n2
  have offD : ∀ {b : Addr} {o : Obj} {es : Array DictEntry} {ep : Nat}, s₁.heap.get? b = some o → o.data = .dict es ep → H b = none := by
    intro b o es ep e d
    refine off e (fun us n z => ?_) fun z => ?_ <;> (rw [d] at z; cases z)
  have nsK : ∀ {b : Addr} {m : Str → Option Value}, s₁.heap.Ns b m → (hidT s₁.heap H).Ns b m := by
    rintro b m ⟨o, es, ep, e, d, r⟩
    exact ⟨o, es, ep, hidT_get e (offD e d), d, r⟩
  have hKb : K.In (hidT s₁.heap H) := by
    intro b o e
    refine hidT_get (KX b o e) ?_
    cases q : H b with
    | none => rfl
    | some u =>
      rcases S.only b (by rw [q]; simp) with z | z
      · rw [z] at e q
        rw [S.aK (by rw [q]; simp)] at e
        cases e
      · obtain ⟨p, hp, rfl⟩ := List.mem_map.mp z
        rw [nT p hp] at e
        cases e
  have hM : Mod K mg (hidT s₁.heap H) := by
    obtain ⟨mc, h1, h2⟩ := hlim
    exact ⟨hKb, nsK hns, ⟨mb, nsK hb, hbb⟩, ⟨mc, nsK h1, h2⟩⟩
  have gM : ∀ b : Addr, (∃ o : Obj, s₁.heap.get? b = some o ∧ ∀ es ep, o.data ≠ .dict es ep) → mainGlobals ≠ b := by
    rintro b ⟨o, e, nd⟩ z
    obtain ⟨o', es, ep, e', hd, _⟩ := hns
    rw [z, e] at e'
    cases e'
    exact nd _ _ hd
  have TB : ∀ p ∈ cs, LamX.TabB (hidT s₁.heap H) mg p.1 p.2 := by
    intro p hp
    have hTp := hT p hp
    have part : (hidT s₁.heap H).BuiltinsAt mg p.2 := by
      obtain ⟨bm, ob, b1, b2, b3, b4, b5, b6⟩ := hbm
      refine ⟨bm, ob, b1, b2, fun z => gM bm ⟨ob, b3, fun es ep q => by rw [b6] at q; cases q⟩ z.symm, fun z => ?_, hidT_get b3 (off b3 (fun us n z => ?_) fun z => ?_), b4, b5, b6⟩
      · rw [z, hTp] at b3
        cases b3
        cases b6
      · rw [b6] at z
        cases z
      · rw [b6] at z
        cases z
    refine ⟨?_, part, gM p.2 ⟨tab0, hTp, fun es ep q => by cases q⟩⟩
    obtain ⟨o, us, fl, tf, gl, tg, inF, tx, tt, e1, r1, r2, r3, rr⟩ := hC p hp
    refine ⟨o, us, fl, tf, gl, tg, inF, tx, tt, hidT_get e1 (off e1 (fun vs n z => ?_) fun z => ?_), r1, r2, r3, rr⟩
    · rw [r2] at z
      cases z
    · rw [r2] at z
      cases z
      simp at r3
  have e0 : Env0 P w K mg (hidT s₁.heap H) callerA [] s₁ H :=
    { frames := rfl, mod := hM, bs := fun b o e => of_hidT e, bsz := Nat.le_of_eq (hidT_size _ _), funs := trivial,
      frf := fun b hb => absurd (show b ∈ ([] : List Addr) from hb) (by simp), hok := hok, bare := .of_eq hg }
  refine codeAny_mono ((F _ hKb (nsK hns) TB).run callerA [] s₁ H ⟨[.ref a], []⟩ [.ref a] [.ref a] _ _ hr rfl e0
    (hbind s₁ (.ref a)) (.cons rfl .nil) hsp) fun r s' h => ?_
  cases r with
  | error e => exact False.elim h
  | ok fl =>
    cases fl with
    | next => exact False.elim h
    | brk => exact False.elim h
    | cont => exact False.elim h
    | ret u =>
      obtain ⟨v, H', os, bare, un, hok', r', q⟩ := h
      have q' : v = .bl true := q
      subst q'
      obtain rfl : u = Value.bool true := r'
      have stays : ∀ b o, b ∉ cs.map (·.2) → s₁.heap.get? b = some o → s'.heap.get? b = some o := by
        intro b o nb e
        cases q : H b with
        | none => exact un.keep b o e q (fun z => absurd (show b ∈ ([] : List Addr) from z) (by simp)) (by simp)
        | some u =>
          rcases S.all b with z | z | ⟨ob, xs, z⟩
          · rw [q] at z
            cases z
          · exact absurd z nb
          · obtain ⟨e1, _⟩ := hok b _ z
            obtain ⟨e2, _⟩ := hok' b _ (un.frzs b ob _ z)
            rw [e] at e1
            cases e1
            exact e2
      have grows : ∀ p ∈ cs, ∃ more : Array Value, s'.heap.get? p.2 = some { cls := .none, data := .fields more } := by
        intro p hp
        obtain ⟨more, z⟩ := un.tbls p.2 #[] (S.tb p hp)
        exact ⟨_, hok' p.2 _ z⟩
      refine ⟨rfl, ⟨fun b o e => ?_, fun b o e => ?_⟩, os, bare⟩
      · by_cases hb : b ∈ cs.map (·.2)
        · obtain ⟨p, hp, rfl⟩ := List.mem_map.mp hb
          obtain ⟨more, hm⟩ := grows p hp
          rw [hT p hp] at e
          cases e
          exact .inr (.inl ⟨((hC p hp).tab (hT p hp)).isCodeTable, rfl, #[], more, rfl, by rw [Array.empty_append]; exact hm⟩)
        · exact .inl (stays b o hb e)
      · by_cases hb : b ∈ cs.map (·.2)
        · obtain ⟨p, hp, rfl⟩ := List.mem_map.mp hb
          obtain ⟨more, hm⟩ := grows p hp
          exact ⟨_, hm⟩
        · exact ⟨o, stays b o hb e⟩
theorem endT (KX : K.In s₁.heap) (hns : s₁.heap.Ns mainGlobals mg) (hb : s₁.heap.Ns builtinsNs mb)
    (hbb : ∀ x : Str, x ≠ "__name__" → mb x = bootBuiltins x) (hlim : s₁.heap.NoLimit) (hg : s₁.gens = #[])
    (hT : ∀ p ∈ cs, s₁.heap.get? p.2 = some tab0) (nT : ∀ p ∈ cs, K.lookup p.2 = none) (hC : ∀ p ∈ cs, PySem.W.CodeHd s₁.heap p.1 p.2)
    (hbm : ∃ (bm : Addr) (ob : Obj), mg "__builtins__" = some (.ref bm) ∧ bm ≠ builtinsNs ∧ s₁.heap.get? bm = some ob ∧ ob.cls = .type "module" ∧ ob.dict = some builtinsNs ∧ ob.data = .plain)
    (ha : s₁.heap.get? a = some { cls := .type "list", data := .seq vs.toArray }) (hi : IntsAre vs ns)
    (hl : ns.length ≤ sizeLine) (hr : Room k callerA)
    (F : ∀ base : Heap, K.In base → base.Ns mainGlobals mg → (∀ p ∈ cs, LamX.TabB base mg p.1 p.2) → FnG P w K mg base CX0 k fa fd [x] sp)
    (hbind : ∀ (s : Shared) (u : Value), BindsTo s fd ⟨[u], []⟩ [(x, u)])
    (hsp : ∀ H : Hp, (∀ p ∈ cs, H p.2 = some (.tbl #[])) → SqL K H a (ns.map V.int) → sp [.ref a] H (fun v _ => v = .bl true) fun _ _ _ => False) :
    codeAny (model P w) callerA (.call (.ref fa) ⟨[.ref a], []⟩) (LawEnd s₁) s₁ := by
  have rv := vals_ints hi
  have lv := hi.length
  have tabAt : ∀ b : Addr, b ∈ cs.map (·.2) → s₁.heap.get? b = some tab0 := by
    intro b hb
    obtain ⟨p, hp, rfl⟩ := List.mem_map.mp hb
    exact hT p hp
  have aT : a ∉ cs.map (·.2) := by
    intro z
    have q := tabAt a z
    rw [ha] at q
    have z' : Data.seq vs.toArray _ = Data.fields #[] := congrArg Obj.data (Option.some.inj q)
    cases z'
  have mem2 : ∀ p ∈ cs, p.2 ∈ cs.map (·.2) := fun p hp => List.mem_map.mpr ⟨p, hp, rfl⟩
  cases hk : K.lookup a with
  | some o =>
    have e := KX a o hk
    rw [ha] at e
    cases e
    let H : Hp := fun b => if b ∈ cs.map (·.2) then some (.tbl #[]) else none
    have h1 : ∀ {b}, b ∈ cs.map (·.2) → H b = some (.tbl #[]) := fun hb => if_pos hb
    have h2 : ∀ {b}, b ∉ cs.map (·.2) → H b = none := fun hb => if_neg hb
    have hS : SqL K H a (ns.map V.int) :=
      .inr ⟨_, vs.toArray, _, hk, rfl, rfl, rfl, by rw [List.size_toArray, lv]; exact hl, by simpa using rv⟩
    have S : Start K s₁.heap a cs H := by
      refine ⟨fun p hp => h1 (mem2 p hp), fun b => ?_, fun b z => ?_, fun z => absurd (h2 aT) z⟩
      · by_cases q : b ∈ cs.map (·.2)
        · exact .inr (.inl q)
        · exact .inl (h2 q)
      · by_cases q : b ∈ cs.map (·.2)
        · exact .inr q
        · exact absurd (h2 q) z
    refine coreT KX hns hb hbb hlim hg hT nT hC hbm ha hr F hbind H S (hsp H S.tb hS) fun b u z => ?_
    by_cases q : b ∈ cs.map (·.2)
    · rw [h1 q] at z
      cases z
      exact tabAt b q
    · rw [h2 q] at z
      cases z
  | none =>
    let ob : Obj := { cls := .type "list", data := .seq vs.toArray }
    let H : Hp := fun b => if b = a then some (.frz ob (.lst (ns.map V.int))) else if b ∈ cs.map (·.2) then some (.tbl #[]) else none
    have h0 : H a = some (.frz ob (.lst (ns.map V.int))) := if_pos rfl
    have h1 : ∀ {b}, b ≠ a → b ∈ cs.map (·.2) → H b = some (.tbl #[]) := fun ne hb => (if_neg ne).trans (if_pos hb)
    have h2 : ∀ {b}, b ≠ a → b ∉ cs.map (·.2) → H b = none := fun ne hb => (if_neg ne).trans (if_neg hb)
    have na : ∀ {b}, b ∈ cs.map (·.2) → b ≠ a := fun hb z => aT (z ▸ hb)
    have S : Start K s₁.heap a cs H := by
      refine ⟨fun p hp => h1 (na (mem2 p hp)) (mem2 p hp), fun b => ?_, fun b z => ?_, fun _ => hk⟩
      · by_cases q0 : b = a
        · exact .inr (.inr ⟨_, _, by rw [q0]; exact h0⟩)
        · by_cases q : b ∈ cs.map (·.2)
          · exact .inr (.inl q)
          · exact .inl (h2 q0 q)
      · by_cases q0 : b = a
        · exact .inl q0
        · by_cases q : b ∈ cs.map (·.2)
          · exact .inr q
          · exact absurd (h2 q0 q) z
    refine coreT KX hns hb hbb hlim hg hT nT hC hbm ha hr F hbind H S (hsp H S.tb (.inl (.inr ⟨ob, h0⟩))) fun b u z => ?_
    by_cases q0 : b = a
    · subst q0
      rw [h0] at z
      cases z
      exact ⟨ha, by rw [List.length_map]; exact hl, vs, _, rv, ha⟩
    · by_cases q : b ∈ cs.map (·.2)
      · rw [h1 q0 q] at z
        cases z
        exact tabAt b q
      · rw [h2 q0 q] at z
        cases z
end
/-- what is known at the head's heap h of the law at fa -/
def LawAt (l : PySem.W.OpenLaw) (w : World) (k n : Nat) (x : Str) (mg : Str → Option Value) (fa : Addr) (h : Heap) : Prop :=
  ∃ (K : PySem.W.Frag) (fd : FuncData) (cs : List (Addr × Addr)) (sp : Sp), K.In h ∧ (∀ p ∈ cs, h.get? p.2 = some tab0) ∧ (∀ p ∈ cs, K.lookup p.2 = none) ∧ (∀ p ∈ cs, PySem.W.CodeHd h p.1 p.2) ∧
    (∀ (s : Shared) (u : Value), BindsTo s fd ⟨[u], []⟩ [(x, u)]) ∧
    (∀ (H : Hp) (a : Addr) (ns : List Int), ns.length ≤ n → (∀ p ∈ cs, H p.2 = some (.tbl #[])) → SqL K H a (ns.map V.int) → sp [.ref a] H (fun v _ => v = .bl true) fun _ _ _ => False) ∧
    ∀ base : Heap, K.In base → base.Ns mainGlobals mg → (∀ p ∈ cs, LamX.TabB base mg p.1 p.2) → FnG l.prog w K mg base CX0 k fa fd [x] sp
theorem walkT {l : PySem.W.OpenLaw} {n k : Nat} {q : Program} {loose : List Str} {XP : (Str → Option Value) → Heap → Prop} {YP : World → Heap → Prop}
    {d : DefRec} {x : Str}
    (hn : l.most = some n) (hn2 : n ≤ sizeLine) (hdf : d.params.defaults = []) (hr : Room k callerA)
    (F : ∀ (w : World) (mg : Str → Option Value) (fa : Addr) (h : Heap), YP w h → h.Ns mainGlobals mg → mg d.name = some (.ref fa) → LawAt l w k n x mg fa h) :
    PySem.W.WalkO q loose XP YP l.row.toRowW d [] (fun f vs => PySem.call f vs) := by
  refine Att.attach_call hn hdf fun w s₀ s₁ mg mb fa o pm cd doc a vs ns G Y ho hd hcd hmg hobj hints hlen hg => ?_
  obtain ⟨K, fd, cs, sp, KX, t1, t2, t3, hb, hsp, hF⟩ := F w mg fa _ Y G.T.g hmg
  exact endT KX G.T.g G.T.b G.T.builtins G.T.nolimit hg t1 t2 t3 G.T.bmain hobj hints
    (Nat.le_trans hlen hn2) hr hF hb fun H hH hS => hsp H a ns hlen hH hS
/-! ### the hook -/
/-- the addresses of globals, classes, their namespaces, the functions, their code -/
def asX (g : Addr → Option Obj) (cs : List Str) (ms : List (Str × Str)) (fs : List Str) : List Addr :=
  let G : List Addr := [mainGlobals]
  let K0 := He.frG g G
  let C := cs.map (He.ga K0)
  let K1 := He.frG g C
  let N := C.filterMap fun c => (PySem.W.clsIn K1 c).map fun cd => cd.ns
  let K2 := He.frG g (G ++ C ++ N)
  let F := ms.map (fun m => He.ma K2 (He.ga K0 m.1) m.2) ++ fs.map (He.ga K0)
  let K3 := He.frG g F
  let D := F.filterMap fun f => match K3.lookup f with
    | some ⟨_, _, .func fd, _⟩ => (match fd.code with
      | .ref c => some c
      | _ => none)
    | _ => none
  G ++ C ++ N ++ F ++ D
abbrev frX (cs : List Str) (ms : List (Str × Str)) (fs : List Str) (g : Addr → Option Obj) : PySem.W.Frag := He.frG g (asX g cs ms fs)
/-- the code of a def that makes lambdas, and its table -/
def coOf (K : PySem.W.Frag) (x : Str) : Addr := match K.lookup (He.ga K x) with
  | some ⟨_, _, .func fd, _⟩ => (match fd.code with
    | .ref c => c
    | _ => 0)
  | _ => 0
def taOf (K : PySem.W.Frag) (c : Addr) : Addr := match K.lookup c with
  | some ⟨_, _, .fields vs, _⟩ => (match (vs[11]? : Option Value) with
    | some (.ref t) => t
    | _ => 0)
  | _ => 0
def ctOf (K : PySem.W.Frag) (x : Str) : Addr × Addr := (coOf K x, taOf K (coOf K x))
def tabX (g : Addr → Option Obj) (tf : List Str) (K : PySem.W.Frag) : Bool := tf.all fun x => PySem.W.codeHdIn K (ctOf K x).1 (ctOf K x).2 && (K.lookup (ctOf K x).2).isNone && (match g (ctOf K x).2 with
  | some o => He.emptyTab o
  | none => false)
structure TabsIn (h : Heap) (tf : List Str) (K : PySem.W.Frag) : Prop where
  hd : ∀ x ∈ tf, PySem.W.codeHdIn K (ctOf K x).1 (ctOf K x).2 = true
  out : ∀ x ∈ tf, K.lookup (ctOf K x).2 = none
  emp : ∀ x ∈ tf, h.get? (ctOf K x).2 = some tab0
theorem tabX_ok {h : Heap} {tf : List Str} {K : PySem.W.Frag} (e : tabX h.get? tf K = true) : TabsIn h tf K := by
  have key : ∀ x ∈ tf, (PySem.W.codeHdIn K (ctOf K x).1 (ctOf K x).2 = true ∧ (K.lookup (ctOf K x).2).isNone = true) ∧ ∃ o, h.get? (ctOf K x).2 = some o ∧ He.emptyTab o = true := by
    intro x hx
    have z := List.all_eq_true.mp e x hx
    rw [Bool.and_eq_true, Bool.and_eq_true] at z
    refine ⟨z.1, ?_⟩
    have z2 := z.2
    cases q : h.get? (ctOf K x).2 with
    | none => rw [q] at z2; cases z2
    | some o => rw [q] at z2; exact ⟨o, rfl, z2⟩
  refine ⟨fun x hx => (key x hx).1.1, fun x hx => Option.isNone_iff_eq_none.mp (key x hx).1.2, fun x hx => ?_⟩
  obtain ⟨_, o, q, z⟩ := key x hx
  rw [q, He.emptyTab_eq z]
def obsX (cs : List Str) (ms : List (Str × Str)) (fs tf : List Str) (fa : List He.Fa) (fn : List He.DefD) (B : PySem.W.Frag → Bool) (g : Addr → Option Obj) : He.AlD × Bool :=
  (He.obsD fa fn (frX cs ms fs g), B (frX cs ms fs g) && tabX g tf (frX cs ms fs g))
def hookX (cs : List Str) (ms : List (Str × Str)) (fs tf : List Str) (fa : List He.Fa) (fn : List He.DefD) (B : PySem.W.Frag → Bool) : PySem.W.Hook where
  α := He.AlD × Bool
  obs s := obsX cs ms fs tf fa fn B s.heap.get?
  val _ := (He.valD fn, true)
  says _ h := ∃ K, PySem.W.Frag.In K h ∧ He.SaysD fa fn K ∧ B K = true ∧ TabsIn h tf K
  of _ s e := by
    have e1 := congrArg (fun z : He.AlD × Bool => z.1) e
    have e2 := congrArg (fun z : He.AlD × Bool => z.2) e
    have e3 := Bool.and_eq_true_iff.mp e2
    exact ⟨_, He.frG_in, e1, e3.1, tabX_ok e3.2⟩
  keeps _ _ _ := fun ⟨K, X, c, b, t⟩ k => ⟨K, fun a o e => k a o (X a o e), c, b, ⟨t.hd, t.out, fun x hx => k _ _ (t.emp x hx)⟩⟩
theorem obsX_eq {cs : List Str} {ms : List (Str × Str)} {fs tf : List Str} {fa : List He.Fa} {fn : List He.DefD} {B : PySem.W.Frag → Bool} {g : Addr → Option Obj} {s : Shared} (h : ∀ a, g a = s.heap.get? a) :
    obsX cs ms fs tf fa fn B g = (hookX cs ms fs tf fa fn B).obs s := by
  have e : g = s.heap.get? := funext h
  rw [e]
  rfl
theorem fun_of {K : PySem.W.Frag} {x q : Str} {st : Stmt} {f : Addr} {fd : FuncData} (F : FunD K x q (defArgs st) (defBody st) (defScope st) [] [] f fd) : Fun K x q st f fd := by
  obtain ⟨⟨oc, od, dV, kV, doc, pm, an, cdv, ct, sl, rfl, hl, hc, hd, -⟩, kp⟩ := F
  rcases hd with ⟨-, rfl⟩ | ⟨h, -⟩
  · exact ⟨⟨oc, od, kV, doc, pm, an, cdv, ct, sl, rfl, hl, hc⟩, kp⟩
  · exact absurd rfl h
/-! ### own errors -/
def askX (K : PySem.W.Frag) (C : Addr) : Bool := (PySem.W.clsIn K C).isSome && (decide (PySem.W.findIn K (.ref C) "__getattribute__" = some (some (.builtin "BaseException.__getattribute__"))) &&
  (decide (PySem.W.findIn K (.ref C) "__getattr__" = some none) && (decide (PySem.W.subIn K (.ref C) (.type "BaseException") = some true) &&
  (decide (PySem.W.findIn K (.ref C) "__class__" = some (some (.builtin "object.__class__"))) && (decide (PySem.W.specialIn K (.builtin "object.__class__") "__get__" = some (some (.builtin "getset_descriptor.__get__"))) &&
  (decide (PySem.W.takesIn K (.builtin "object.__class__") = some true) && decide (PySem.W.mroIn K C (.type "object") = some true)))))))
theorem askX_ok {K : PySem.W.Frag} {C : Addr} (h : askX K C = true) : WT.AskE K C := by
  unfold askX at h
  simp only [Bool.and_eq_true, decide_eq_true_eq] at h
  obtain ⟨h1, h2, h3, h4, h5, h6, h7, h8⟩ := h
  exact ⟨h1, h2, h3, h4, h5, h6, h7, h8⟩
/-- a class with an attribute -/
def clsX (K : PySem.W.Frag) (C : Addr) : Bool := match K.lookup C with
  | some ⟨.type "type", _, .cls cd, sl⟩ => (match cd.mro, sl.toList with
    | .ref C' :: bm, [_, _, _, _, some (.builtin n), _] => C' == C && n == "ValueError.__new__" && !cd.hasDel && cd.hasDict && PySem.HandSPX.refsVE bm
    | _, _ => false)
  | _ => false
theorem clsX_ok {K : PySem.W.Frag} {C : Addr} (h : clsX K C = true) :
    ∃ nm q N bs bm sn sub ab col dd k0 k1 k2 k3 k5, K.lookup C = some (excClassObj nm q C N bs bm true sn sub ab col dd k0 k1 k2 k3 k5 "ValueError.__new__") ∧ PySem.HandSPX.refsVE bm = true := by
  unfold clsX at h
  split at h
  · rename_i dd cd sl hl
    split at h
    · rename_i C' bm k0 k1 k2 k3 n k5 hm hs
      simp only [Bool.and_eq_true, beq_iff_eq, Bool.not_eq_true'] at h
      obtain ⟨⟨⟨⟨rfl, rfl⟩, hd⟩, hx⟩, hr⟩ := h
      obtain ⟨nm, bs, mro, N, q, hdct, sn, sub, ab, col, hasDel⟩ := cd
      obtain ⟨sl⟩ := sl
      dsimp only at hm hs hd hx
      subst hm hd hx hs
      exact ⟨nm, q, N, bs, bm, sn, sub, ab, col, dd, k0, k1, k2, k3, k5, hl, hr⟩
    · cases h
  · cases h
def errX (K : PySem.W.Frag) (C fI : Addr) (f : Str) : Bool := clsX K C && (decide (PySem.W.findIn K (.ref C) "__setattr__" = some (some (.builtin "object.__setattr__"))) &&
  (decide (PySem.W.subIn K (.ref C) (.type "BaseException") = some true) && (decide (PySem.W.typeIn K (.ref C) = some (.type "type")) && (PySem.W.keepIn K (.ref C) &&
  (decide (PySem.W.findIn K (.ref C) "__init__" = some (some (.ref fI))) && (decide (PySem.W.typeIn K (.ref fI) = some (.type "function")) &&
  (decide (PySem.W.findIn K (.ref C) f = some none) && (PySem.W.hasDictIn K C && askX K C))))))))
theorem errX_ok {P : Program} {w : World} {K : PySem.W.Frag} {mg : Str → Option Value} {base : Heap} {x f : Str} {C fI : Addr} {fd : FuncData} (h : errX K C fI f = true) (gC : mg x = some (.ref C))
    (fn : FnOk P w K mg base CX0 1 fI fd [("self" : Str), f] (WT.spErrI K f)) (bd : Binds K fd [("self" : Str), f] []) : WT.ErrT P w K mg base x f C fI fd := by
  unfold errX at h
  simp only [Bool.and_eq_true, decide_eq_true_eq] at h
  obtain ⟨h1, h2, h3, h4, h5, h6, h7, h8, h9, h10⟩ := h
  exact ⟨⟨clsX_ok h1, h2, h3, h4, h5⟩, h6, h7, h8, h9, askX_ok h10, gC, fn, bd⟩
theorem ok_err {P : Program} {w : World} {K : PySem.W.Frag} {mg : Str → Option Value} {base : Heap} {st : Stmt} {q f : Str} {g : Addr} {fd : FuncData} {ti : TS} (F : Fun K "__init__" q st g fd) (S : FnScope ["self", f] ["self", f] (defScope st))
    (hb : ∀ (X : Cx), X.N = [("self" : Str), f] → X.env.scope = defScope st → PSs X (defBody st) (tOst X.K f (tVar 0) (tVar 1))) : FnOk P w K mg base CX0 1 g fd [("self" : Str), f] (WT.spErrI K f) := by
  refine F.ok S (fun vs H Q E h => ?_) (fun cdv A outer s H vs Q E hr h => ?_)
  · obtain ⟨a, C, y, rfl, _⟩ := h
    rfl
  · obtain ⟨a, C, y, rfl, e, T, hf, k⟩ := h
    exact ⟨_, (hb _ rfl rfl), _, rfl, _, rfl, a, C, rfl, T, hf, .inl ⟨e, k⟩⟩
end WH
end

section
set_option Elab.async false
set_option linter.all false
set_option maxRecDepth 100000
set_option maxHeartbeats 4000000
/-! calls with keywords alone; a law's body told its code; what stays when tables grow -/
namespace WL
open PySem PySem.Spec PyProof.Rows L2 WG
section
variable {X : Cx} {CX : CXT} {k : Nat} {f : Addr} {fd : FuncData} {ps ks : List Str} {sp : Sp} {E : XK} {x : Str} {p pos : Pos} {kws : List Keyword} {tk : TA} {g : List Value → List Value → List Value} {gV : List V → List V → List V}
/-- f(k = v, ..) -/
theorem pe_callK0 (F : FnOk X.prog X.w X.K X.mg X.base CX k f fd ps sp) (hr : Room k X.A) (hg : Gl X x) (hm : X.mg x = some (.ref f)) (hk : PySem.W.keepIn X.K (.ref f) = true) (hb : KBinds X.K fd ps ks g gV) (hx : Passes CX X E)
    (hkw : PK X kws tk) (hall : (backToKw pos (keywordEach kws X.env)).all (·.1.isSome) = true := by rfl) (hks : (backToKw pos (keywordEach kws X.env)).filterMap (·.1) = ks := by rfl)
    (hdb : (x == ("__debug__" : Str)) = false := by decide)
    (hpl : ((backTo pos (starEach [] X.env)).any (·.1) || (backToKw pos (keywordEach kws X.env)).any (·.1.isNone)) = false := by rfl) :
    PE X (.Call (.Name x p) [] kws pos) (tCallK sp gV E tNil tk) := by
  refine ⟨fun pins s σ H Q I h => ?_⟩
  refine wpAny_Call_Name_kw (ld_glob I hg hm ?_ hdb)
  refine PySem.W.callWith_KW0 (h₀ := X.base) I.ok.mod.kin hk hall ?_ hpl
  refine thn (hkw.run pos pins s σ H _ I h) fun ws s2 ⟨zs, H2, I2, rz, q2⟩ => ⟨I2.kIn, ?_⟩
  rw [hks]
  exact run_fnk (us := []) (vs := []) F hr hb hx I2 .nil rz q2
theorem kb1 {K : PySem.W.Frag} {x qual y : Str} {st : Stmt} {f : Addr} {fd : FuncData} (F : Fun K x qual st f fd)
    (h0 : ∀ (kV doc pm : Value) (an : Option Addr) (cdv ct v : Value), bindArgs (PySem.W.fnOf x qual (defArgs st) (defBody st) (defScope st) .none kV doc pm an cdv ct) ⟨[v], []⟩ = pure [(y, v)])
    (h1 : ∀ (kV doc pm : Value) (an : Option Addr) (cdv ct v : Value), bindArgs (PySem.W.fnOf x qual (defArgs st) (defBody st) (defScope st) .none kV doc pm an cdv ct) ⟨[], [(y, v)]⟩ = pure [(y, v)]) :
    KBinds K fd [y] [y] (fun us ws => us ++ ws) (fun vs zs => vs ++ zs) := by
  obtain ⟨oc, od, kV, doc, pm, an, cdv, ct, osl, rfl, lk, hcd⟩ := F.ex
  refine ⟨fun s us ws _ hl => ?_, fun r rz => r.append rz⟩
  match us, ws, hl with
  | [v], [], _ => exact .of_eq (h0 _ _ _ _ _ _ v)
  | [], [v], _ => exact .of_eq (h1 _ _ _ _ _ _ v)
end
section
variable {P : Program} {w : World} {K : PySem.W.Frag} {mg : Str → Option Value} {base : Heap} {CX : CXT}
variable {k : Nat} {f : Addr} {fd : FuncData} {ps : List Str} {sp : Sp}
/-- as okG, the body told which code object is its own -/
theorem okC {x qual : Str} {st : Stmt} {N : List Str} {c : Addr} (F : Fun K x qual st f fd) (hc : fd.code = .ref c) (S : FnScope N ps (defScope st))
    (len : ∀ vs H Q E, sp vs H Q E → vs.length = ps.length)
    (body : ∀ (A : Around) (outer : List Env) (s : Shared) (H : Hp) (vs : List V) (Q : VK) (E : XK),
      Room k (A.deeper (envOfC qual (defScope st) s.heap.objs.size f (.ref c))) →
      (A.deeper (envOfC qual (defScope st) s.heap.objs.size f (.ref c))).guards = some [] → sp vs H Q E →
      ∃ t, PSs (cxOf CX P w K mg base N qual (defScope st) f (.ref c) A outer s H E).nox (defBody st) t ∧
        t { nx := fun _ H' => Q .non H', rt := Q } (start N vs) H) :
    FnG P w K mg base CX (k + 1) f fd ps sp := by
  obtain ⟨oc, od, kV, doc, pm, an, cdv, ct, osl, rfl, lk, hcd⟩ := F.ex
  cases (show cdv = Value.ref c from hc)
  refine ⟨len, fun A outer s H args us vs Q E hr hga e0 hb r hsp => ?_⟩
  have hl := len _ _ _ _ hsp
  have KX : K.In s.heap := e0.mod.kin.keeps
    fun b o e => (e0.bs b o e).1
  have lim : s.heap.NoLimit := e0.mod.nolimit.keeps
    fun b o e => (e0.bs b o e).1
  have hkind : ∀ y ∈ ps.zip us, (defScope st).names.lookup y.1 = some .local ∨
      ((defScope st).names.lookup y.1 = some .cell ∧
        ((cellsFrom (s.heap.objs.size + 1) (defScope st).names []).lookup y.1).isSome = true) := by
    rintro ⟨n, v⟩ hy
    rcases S.par n (List.of_mem_zip hy).1 with q | q
    · exact .inl q
    · exact .inr ⟨q, PySem.W.cellsFrom_some _ _ _ (.inl q)⟩
  refine codeAny_call_function hr.depth (KX _ _ lk) rfl S.co S.gen rfl
    (PySem.W.codeRec_of KX hcd) (hb _ _ _ _ ?_)
  refine wpAny_newFunctionEnv_cells S.kind hkind
    fun env he s1 x => ?_
  subst he
  refine ⟨lim.keeps x.toInCall.keep,
    codeAny_func ?_⟩
  obtain ⟨t, ht, hq⟩ := body A outer s H vs Q E (hr.deeper _) hga hsp
  have I := inv_start (CX := CX) (E := E) S hr.hd e0 hl r x
  refine wpAny_mono (ht.nox.run [] s1 (start N vs) H _ I hq)
    (fun fl s' hs => ?_) fun e s' hs => hs
  have fin : ∀ {σ' : L2.St} {H' : Hp} {v : V} {u : Value},
      Inv (cxOf CX P w K mg base N qual (defScope st) f (.ref c) A outer s H E) [] σ' H' s' →
      RelV v u → Q v H' → CE outer P w H s Q u s' :=
    fun J rv q => ⟨_, _, J.os, J.bare, J.base, J.hok, rv, q⟩
  cases fl with
  | ret u =>
    obtain ⟨v, σ', H', J, rv, q⟩ := hs
    exact fin J rv q
  | next =>
    obtain ⟨σ', H', J, q⟩ := hs
    exact fin (v := V.non) (u := Value.none) J rfl q
  | brk =>
    obtain ⟨_, _, _, q⟩ := hs
    exact False.elim q
  | cont =>
    obtain ⟨_, _, _, q⟩ := hs
    exact False.elim q
end
end WL
namespace WW
open PySem L2 WO WG RZ WQ WT
open LamX (ExtN Tabs TabS)
theorem ExtN.of_same {H H' : Hp} (s : Same H H') : ExtN H H' := fun b o e _ => s b o e
theorem SqT.extN {K : PySem.W.Frag} {H H' : Hp} {a : Addr} {xs : List V} (h : SqT K H a xs) (e : ExtN H H') : SqT K H' a xs := by
  rcases h with (h | ⟨o, h⟩) | h
  · exact .inl (.inl (e _ _ h fun _ z => by cases z))
  · exact .inl (.inr ⟨o, e _ _ h fun _ z => by cases z⟩)
  · exact .inr h
theorem SqL.extN {K : PySem.W.Frag} {H H' : Hp} {a : Addr} {xs : List V} (h : SqL K H a xs) (e : ExtN H H') : SqL K H' a xs := by
  rcases h with (h | ⟨o, h⟩) | h
  · exact .inl (.inl (e _ _ h fun _ z => by cases z))
  · exact .inl (.inr ⟨o, e _ _ h fun _ z => by cases z⟩)
  · exact .inr h
theorem SeqA.extN {K : PySem.W.Frag} {H H' : Hp} {a : Addr} {xs : List V} (h : SeqA K H a xs) (e : ExtN H H') : SeqA K H' a xs := by
  rcases h with h | h
  · exact .inl (SqL.extN h e)
  · exact .inr (SqT.extN h e)
theorem SeqP.extN {K : PySem.W.Frag} {H H' : Hp} {a b : Addr} {xs ys : List V} (h : SeqP K H a xs b ys) (e : ExtN H H') : SeqP K H' a xs b ys := by
  rcases h with ⟨h1, h2⟩ | ⟨h1, h2⟩
  · exact .inl ⟨SqL.extN h1 e, SqL.extN h2 e⟩
  · exact .inr ⟨SqT.extN h1 e, SqT.extN h2 e⟩
theorem TyX.extN {K : PySem.W.Frag} {H H' : Hp} {x : V} {t : Value} (h : TyX K H x t) (s : ExtN H H') : TyX K H' x t := by
  cases h with
  | base h =>
    cases h with
    | non => exact .base .non
    | bl b => exact .base (.bl b)
    | int i => exact .base (.int i)
    | str z => exact .base (.str z)
    | flt z => exact .base (.flt z)
    | lst e => exact .base (.lst (s _ _ e fun _ z => by cases z))
    | frz e => exact .base (.frz (s _ _ e fun _ z => by cases z))
    | tup e => exact .base (.tup (s _ _ e fun _ z => by cases z))
    | dK e => exact .base (.dK (s _ _ e fun _ z => by cases z))
    | dT e => exact .base (.dT (s _ _ e fun _ z => by cases z))
    | ins e cl ha hn htk hm => exact .base (.ins (s _ _ e fun _ z => by cases z) cl ha hn htk hm)
  | byt b => exact .byt b
  | set e => exact .set (s _ _ e fun _ z => by cases z)
  | kList e c => exact .kList e c
  | kTuple e c => exact .kTuple e c
  | kDict e c => exact .kDict e c
  | fTuple e => exact .fTuple (s _ _ e fun _ z => by cases z)
  | fDict e => exact .fDict (s _ _ e fun _ z => by cases z)
theorem RowIn.extN {K : PySem.W.Frag} {H H' : Hp} {x : V} {o : Option (List V)} (h : RowIn K H x o) (s : ExtN H H') : RowIn K H' x o := by
  cases h with
  | no h =>
    obtain ⟨t, h1, h2⟩ := h
    exact .no ⟨t, TyX.extN h1 s, h2⟩
  | seq h fl l => exact .seq (SeqA.extN h s) fl l
theorem NoTup.extN {K : PySem.W.Frag} {H H' : Hp} {x : V} (h : NoTup K H x) (s : ExtN H H') : NoTup K H' x := by
  obtain ⟨t, h1, h2⟩ := h
  exact ⟨t, TyX.extN h1 s, h2⟩
theorem ThIn.extN {K : PySem.W.Frag} {H H' : Hp} {x : V} {o : Two} (h : ThIn K H x o) (s : ExtN H H') : ThIn K H' x o := by
  cases h with
  | no h => exact .no (NoTup.extN h s)
  | len h l => exact .len (SqT.extN h s) l
  | two h h1 h2 hp =>
    refine .two (SqT.extN h s) (RowIn.extN h1 s) (RowIn.extN h2 s) fun xs ys e1 e2 => ?_
    obtain ⟨c, g, a, b, p⟩ := hp xs ys e1 e2
    exact ⟨c, g, a, b, SeqP.extN p s⟩
theorem ThX.extN {K : PySem.W.Frag} {H H' : Hp} {x : V} (h : ThX K H x) (s : ExtN H H') : ThX K H' x := by
  obtain ⟨o, h⟩ := h
  exact ⟨o, ThIn.extN h s⟩
theorem ThL.extN {K : PySem.W.Frag} {H H' : Hp} {xs : List V} (h : ThL K H xs) (s : ExtN H H') : ThL K H' xs := fun x hx => ThX.extN (h x hx) s
theorem BunIn.extN {K : PySem.W.Frag} {H H' : Hp} {x : V} {o : Option (List Two)} (h : BunIn K H x o) (s : ExtN H H') : BunIn K H' x o := by
  cases h with
  | no h => exact .no (NoTup.extN h s)
  | tup h p l => exact .tup (SqT.extN h s) ⟨p.1, fun i y e => by
      obtain ⟨o, e1, e2⟩ := p.2 i y e
      exact ⟨o, e1, ThIn.extN e2 s⟩⟩ l
theorem DrawAt.extN {H H' : Hp} {d l c : Addr} (D : DrawAt H d l c) (s : ExtN H H') : DrawAt H' d l c := by
  obtain ⟨⟨r, t, h⟩, ⟨la, h2, h3⟩, ⟨ce, h4, h5⟩, h6⟩ := D
  exact ⟨⟨r, t, s _ _ h fun _ z => by cases z⟩, ⟨la, s _ _ h2 (fun _ z => by cases z), h3⟩, ⟨ce, s _ _ h4 (fun _ z => by cases z), h5⟩, h6⟩
theorem Tabs.keepD {T : List (Addr × Str)} {H H' : Hp} {d l c : Addr} (D : DrawAt H d l c) (t : Tabs T H) (k : KeepD H H' d l) : Tabs T H' := fun p hp => by
  obtain ⟨ps, h1, h2, h3⟩ := t p hp
  obtain ⟨⟨r, t, hd⟩, ⟨la, hl, _⟩, _, _⟩ := D
  refine ⟨ps, k _ _ h1 (ne_of h1 hd (by intro z; cases z)) (ne_of h1 hl (by intro z; cases z)), h2, fun pos cv hc => ?_⟩
  obtain ⟨c, e1, e2⟩ := h3 pos cv hc
  exact ⟨c, e1, k _ _ e2 (ne_of e2 hd (by unfold LamX.CodeO; intro z; cases z)) (ne_of e2 hl (by unfold LamX.CodeO; intro z; cases z))⟩
theorem Tabs.same {T : List (Addr × Str)} {H H' : Hp} (t : Tabs T H) (s : Same H H') : Tabs T H' := LamX.Tabs.ext t s
/-- a run that was drawn -/
structure RunD (K : PySem.W.Frag) (H : Hp) (r c g : Addr) (cs gs : List Int) (n : Nat) : Prop where
  t : SqT K H r [.ref c, .ref g]
  c : SqT K H c (cs.map V.int)
  g : SqT K H g (gs.map V.int)
  p : RunPair cs gs
  wc : Within cs 120
  wg : Within gs 120
  l : cs.length = n
  n0 : 1 ≤ n
  n1 : n ≤ 24
theorem RunD.same {K : PySem.W.Frag} {H H' : Hp} {r c g : Addr} {cs gs : List Int} {n : Nat} (R : RunD K H r c g cs gs n) (s : Same H H') : RunD K H' r c g cs gs n :=
  ⟨seqT s R.t, seqT s R.c, seqT s R.g, R.p, R.wc, R.wg, R.l, R.n0, R.n1⟩
theorem RunD.extN {K : PySem.W.Frag} {H H' : Hp} {r c g : Addr} {cs gs : List Int} {n : Nat} (R : RunD K H r c g cs gs n) (s : ExtN H H') : RunD K H' r c g cs gs n :=
  ⟨SqT.extN R.t s, SqT.extN R.c s, SqT.extN R.g s, R.p, R.wc, R.wg, R.l, R.n0, R.n1⟩
theorem RunD.keepD {K : PySem.W.Frag} {H H' : Hp} {d l' c' r c g : Addr} {cs gs : List Int} {n : Nat} (R : RunD K H r c g cs gs n) (D : DrawAt H d l' c') (k : KeepD H H' d l') : RunD K H' r c g cs gs n :=
  ⟨keepT D k R.t, keepT D k R.c, keepT D k R.g, R.p, R.wc, R.wg, R.l, R.n0, R.n1⟩
theorem RunD.g1 {K : PySem.W.Frag} {H : Hp} {r c g : Addr} {cs gs : List Int} {n : Nat} (R : RunD K H r c g cs gs n) : gs.length = n := by rw [← R.p.2.2.1]; exact R.l
theorem RunD.th {K : PySem.W.Frag} {H : Hp} {r c g : Addr} {cs gs : List Int} {n : Nat} (R : RunD K H r c g cs gs n) : ThIn K H (.ref r) (twoOf (cs, gs)) := by
  have h1 := R.l
  have h2 := R.g1
  have h3 := R.n1
  refine .two R.t (.seq (.inr R.c) (ints_flat cs) (by rw [List.length_map]; show cs.length ≤ 1001; omega)) (.seq (.inr R.g) (ints_flat gs) (by rw [List.length_map]; show gs.length ≤ 1001; omega)) fun xs ys e1 e2 => ⟨c, g, rfl, rfl, ?_⟩
  cases e1
  cases e2
  exact .inr ⟨R.c, R.g⟩
theorem RunD.ok {K : PySem.W.Frag} {H : Hp} {r c g : Addr} {cs gs : List Int} {n : Nat} (R : RunD K H r c g cs gs n) : RunOk (twoOf (cs, gs)) := ⟨cs, gs, rfl, R.p⟩
end WW
end

section
set_option Elab.async false
set_option linter.all false
set_option maxRecDepth 100000
set_option maxHeartbeats 8000000
namespace WW
open PySem L2 WO WG RZ WQ WT
/-! ### texts of rows are short -/
def vD : V → PyData
  | .int i => .int i
  | _ => .none
def FlatR (vs : List V) : Prop := ∀ v ∈ vs, v = .non ∨ ∃ i : Int, v = .int i
theorem FlatR.tl {v : V} {r : List V} (h : FlatR (v :: r)) : FlatR r := fun x hx => h x (List.mem_cons_of_mem _ hx)
theorem dpAll_row {K : PySem.W.Frag} {H : Hp} : ∀ vs : List V, FlatR vs → DpAll K H vs (vs.map vD)
  | [], _ => .nil
  | v :: r, h => by
    rcases h v (List.mem_cons_self ..) with rfl | ⟨i, rfl⟩
    · exact .cons .non (dpAll_row r h.tl)
    · exact .cons (.int i) (dpAll_row r h.tl)
theorem can_row : ∀ vs : List V, PyData.canLayAll0 (vs.map vD) = true
  | [] => by simp [PyData.canLayAll0]
  | v :: r => by
    have := can_row r
    cases v <;> simp [PyData.canLayAll0, PyData.canLay0, vD, this]
theorem depth_row : ∀ vs : List V, PyData.depthAll (vs.map vD) = 0
  | [] => by simp [PyData.depthAll]
  | v :: r => by
    have := depth_row r
    cases v <;> simp [PyData.depthAll, PyData.depth, vD, this]
theorem eqvAll_row : ∀ vs us : List V, FlatR vs → FlatR us → PyData.eqvAll (vs.map vD) (us.map vD) = decide (vs = us)
  | [], [], _, _ => by simp [PyData.eqvAll]
  | [], _ :: _, _, _ => by simp [PyData.eqvAll]
  | _ :: _, [], _, _ => by simp [PyData.eqvAll]
  | a :: r, b :: q, h1, h2 => by
    have ih := eqvAll_row r q h1.tl h2.tl
    rcases h1 a (List.mem_cons_self ..) with rfl | ⟨i, rfl⟩ <;> rcases h2 b (List.mem_cons_self ..) with rfl | ⟨j, rfl⟩
    · simp [PyData.eqvAll, PyData.eqv, vD, ih]
    · simp [PyData.eqvAll, PyData.eqv, vD]
    · simp [PyData.eqvAll, PyData.eqv, vD]
    · simp [PyData.eqvAll, PyData.eqv, vD, ih]
      rfl
theorem int_len : ∀ n, n < 1001 → (Str.ofString (toString ((n : Nat) : Int))).length ≤ 4 := by decide +kernel
theorem join_len (sep : Str) : ∀ ts : List Str, (∀ t ∈ ts, t.length ≤ 4) → (Str.join sep ts).length ≤ ts.length * (4 + sep.length)
  | [], _ => by rw [Str.join.eq_1]; exact Nat.zero_le _
  | [a], h => by
    rw [Str.join.eq_2]
    have := h a (List.mem_cons_self ..)
    simp only [List.length_cons, List.length_nil]
    omega
  | a :: b :: r, h => by
    rw [Str.join.eq_3 _ _ _ (by intro z; cases z), Str.length_append, Str.length_append]
    have h1 := h a (List.mem_cons_self ..)
    have h2 := join_len sep (b :: r) fun t ht => h t (List.mem_cons_of_mem _ ht)
    rw [List.length_cons (a := a), Nat.succ_mul]
    omega
def SmallV (v : V) : Prop := v = .non ∨ ∃ n : Nat, v = .int n ∧ n < 1001
theorem shown_small {v : V} (h : SmallV v) : (PyData.shown (vD v)).length ≤ 4 ∧ (vD v).showable = true ∧ (vD v).hasDict = false := by
  rcases h with rfl | ⟨n, rfl, hn⟩
  · refine ⟨?_, ?_, ?_⟩
    · show (PyData.shown .none).length ≤ 4
      rw [PyData.shown.eq_1]
      decide
    · simp [vD, PyData.showable]
    · simp [vD, PyData.hasDict]
  · refine ⟨?_, ?_, ?_⟩
    · have e : PyData.shown (vD (.int n)) = Str.ofString (toString ((n : Nat) : Int)) := by simp [vD, PyData.shown]
      rw [e]
      exact int_len n hn
    · simp only [vD, PyData.showable, decide_eq_true_eq]
      have : ((n : Nat) : Int).natAbs = n := by omega
      rw [this]
      have : Nat.log2 n < 11 := by
        rcases Nat.eq_zero_or_pos n with z | z
        · rw [z]; decide
        · exact (Nat.log2_lt (by omega)).mpr (by omega)
      omega
    · simp [vD, PyData.hasDict]
theorem shownAll_small : ∀ vs : List V, (∀ v ∈ vs, SmallV v) → (∀ t ∈ PyData.shownAll (vs.map vD), t.length ≤ 4) ∧ (PyData.shownAll (vs.map vD)).length = vs.length ∧ PyData.showableAll (vs.map vD) = true ∧ PyData.hasDictAll (vs.map vD) = false
  | [], _ => by simp [PyData.shownAll, PyData.showableAll, PyData.hasDictAll]
  | v :: r, h => by
    obtain ⟨h1, h2, h3⟩ := shown_small (h v (List.mem_cons_self ..))
    obtain ⟨i1, i2, i3, i4⟩ := shownAll_small r fun x hx => h x (List.mem_cons_of_mem _ hx)
    simp only [List.map_cons, PyData.shownAll, PyData.showableAll, PyData.hasDictAll, List.length_cons]
    refine ⟨fun t ht => ?_, by rw [i2], by rw [h2, i3]; rfl, by rw [h3, i4]; rfl⟩
    rcases List.mem_cons.mp ht with rfl | ht
    · exact h1
    · exact i1 t ht
theorem tuple_len {ts : List Str} {n : Nat} (h : (Str.join (Str.ofString ", ") ts).length ≤ n) : (tupleText ts).length ≤ n + 3 := by
  unfold tupleText
  rw [Str.length_append, Str.length_append]
  have h1 : (Str.ofString "(").length = 1 := by decide
  have h2 : (Str.ofString (if (ts.length == 1) = true then ",)" else ")")).length ≤ 2 := by
    split
    · decide
    · decide
  omega

theorem text_len : ∀ (ts : List Str) (k : Nat) (acc : Str), (∀ t ∈ ts, t.length ≤ 4) → (textFrom k acc ts).length ≤ acc.length + 6 * ts.length
  | [], k, acc, _ => Nat.le_refl _
  | t :: r, k, acc, h => by
    have ih := text_len r (k + 1) (acc ++ (if k > 0 then ", " else "" : String) ++ t) fun x hx => h x (List.mem_cons_of_mem _ hx)
    have ht := h t (List.mem_cons_self ..)
    have hs : (Str.ofString (if k > 0 then ", " else "" : String)).length ≤ 2 := by
      split
      · decide
      · decide
    rw [Str.length_append, Str.length_append] at ih
    rw [List.length_cons]
    show (textFrom (k + 1) (acc ++ (if k > 0 then ", " else "" : String) ++ t) r).length ≤ _
    omega
structure GoodD (d : PyData) : Prop where
  sh : d.showable = true
  dp : d.depth ≤ 60
  le : d.shown.length ≤ sizeLine
  hd : d.hasDict = false
theorem shaped_row (vs : List V) : SeqAt.shaped (.list (vs.map vD)) = true := by
  simp [SeqAt.shaped, PyData.canLay0, PyData.depth, can_row, depth_row]
theorem eqv_self {vs : List V} (h : FlatR vs) : PyData.eqv (.list (vs.map vD)) (.list (vs.map vD)) = true := by
  have := eqvAll_row vs vs h h
  simp only [PyData.eqv, this, decide_true]
theorem good_list {v : List V} (h : ∀ x ∈ v, SmallV x) (l : v.length ≤ 50) : GoodD (.list (v.map vD)) := by
  obtain ⟨i1, i2, i3, i4⟩ := shownAll_small v h
  refine ⟨?_, ?_, ?_, ?_⟩
  · simp only [PyData.showable, i3]
  · simp [PyData.depth, depth_row]
  · have e : (PyData.list (v.map vD)).shown = listText (PyData.shownAll (v.map vD)) := by simp [PyData.shown]
    rw [e]
    unfold listText
    rw [Str.length_append]
    have q := text_len (PyData.shownAll (v.map vD)) 0 "[" i1
    have c1 : (Str.ofString "[").length = 1 := by decide
    have c2 : (Str.ofString "]").length = 1 := by decide
    rw [i2, c1] at q
    exact Nat.le_of_lt (small1000 (by omega))
  · simp only [PyData.hasDict, i4]
theorem good_two {u v : List V} (h1 : ∀ x ∈ u, SmallV x) (l1 : u.length ≤ 50) (h2 : ∀ x ∈ v, SmallV x) (l2 : v.length ≤ 50) : GoodD (.tuple [.tuple (u.map vD), .tuple (v.map vD)]) := by
  obtain ⟨i1, i2, i3, i4⟩ := shownAll_small u h1
  obtain ⟨j1, j2, j3, j4⟩ := shownAll_small v h2
  refine ⟨?_, ?_, ?_, ?_⟩
  · simp only [PyData.showable, PyData.showableAll, i3, j3]
    rfl
  · simp [PyData.depth, PyData.depthAll, depth_row]
  · have e : (PyData.tuple [.tuple (u.map vD), .tuple (v.map vD)]).shown = tupleText [tupleText (PyData.shownAll (u.map vD)), tupleText (PyData.shownAll (v.map vD))] := by
      simp [PyData.shown, PyData.shownAll]
    rw [e]
    have c : (Str.ofString ", ").length = 2 := by decide
    have a1 : (tupleText (PyData.shownAll (u.map vD))).length ≤ 300 + 3 := by
      refine tuple_len (Nat.le_trans (join_len _ _ i1) ?_)
      rw [i2, c]
      omega
    have a2 : (tupleText (PyData.shownAll (v.map vD))).length ≤ 300 + 3 := by
      refine tuple_len (Nat.le_trans (join_len _ _ j1) ?_)
      rw [j2, c]
      omega
    have a3 : (tupleText [tupleText (PyData.shownAll (u.map vD)), tupleText (PyData.shownAll (v.map vD))]).length ≤ 700 + 3 := by
      refine tuple_len ?_
      rw [Str.join.eq_3 _ _ _ (by intro z; cases z), Str.join.eq_2]
      simp only [Str.length_append]
      omega
    exact Nat.le_of_lt (small1000 (by omega))
  · simp only [PyData.hasDict, PyData.hasDictAll, i4, j4]
    rfl
/-! ### what the law's rows hold -/
def SmallI (ns : List Int) : Prop := ∀ z ∈ ns, 0 ≤ z ∧ z < 1001
theorem smallV_of {ns : List Int} (h : SmallI ns) : ∀ x ∈ ns.map V.int, SmallV x := fun x hx => by
  obtain ⟨z, hz, rfl⟩ := List.mem_map.mp hx
  obtain ⟨h1, h2⟩ := h z hz
  exact .inr ⟨z.toNat, by rw [show ((z.toNat : Nat) : Int) = z by omega], by omega⟩
theorem small_within {ns : List Int} (h : Within ns 120) : SmallI ns := fun z hz => by
  obtain ⟨i, hi⟩ := List.getElem?_of_mem hz
  have := h i z hi
  omega
theorem flatR_ints (ns : List Int) : FlatR (ns.map V.int) := fun v hv => by
  obtain ⟨z, _, rfl⟩ := List.mem_map.mp hv
  exact .inr ⟨z, rfl⟩
theorem small_heaps {cs gs : List Int} (p : RunPair cs gs) (wc : Within cs 120) (wg : Within gs 120) : SmallI (heaps cs gs) := fun z hz => by
  unfold heaps at hz
  obtain ⟨⟨x, y⟩, hm, rfl⟩ := List.mem_map.mp hz
  obtain ⟨i, hi⟩ := List.getElem?_of_mem hm
  have q := (List.getElem?_zip_eq_some (z := (x, y))).mp hi
  have h1 := p.2.2.2 i _ _ q.1 q.2
  have h2 := wc i _ q.1
  have h3 := wg i _ q.2
  dsimp only at h1 h2 h3 ⊢
  omega
theorem waits_mem {cs gs : List Int} {x : V} (h : x ∈ waits cs gs) : x = .non ∨ ∃ d : Nat, x = .int d ∧ d < gs.length := by
  unfold waits at h
  obtain ⟨t, _, rfl⟩ := List.mem_map.mp h
  unfold waitV
  cases e : (List.range (gs.length - t)).find? (hit cs gs t) with
  | none => exact .inl rfl
  | some d =>
    have := List.mem_range.mp (List.mem_of_find?_eq_some e)
    exact .inr ⟨d, rfl, by omega⟩
theorem flatR_waits (cs gs : List Int) : FlatR (waits cs gs) := fun v hv => by
  rcases waits_mem hv with h | ⟨d, h, _⟩
  · exact .inl h
  · exact .inr ⟨d, h⟩
theorem small_waits {cs gs : List Int} (l : gs.length ≤ 24) : ∀ x ∈ waits cs gs, SmallV x := fun v hv => by
  rcases waits_mem hv with h | ⟨d, h, q⟩
  · exact .inl h
  · exact .inr ⟨d, h, by omega⟩
theorem waits_len (cs gs : List Int) : (waits cs gs).length = cs.length := by unfold waits; rw [List.length_map, List.length_range]
theorem heaps_len (cs gs : List Int) : (heaps cs gs).length = min cs.length gs.length := by unfold heaps; rw [List.length_map, List.length_zip]
theorem sum_small {ms : List Int} (h : ∀ z ∈ ms, 0 ≤ z ∧ z ≤ 120) : 0 ≤ ms.sum ∧ ms.sum ≤ 120 * (ms.length : Int) := by
  induction ms with
  | nil => simp
  | cons a r ih =>
    have h1 := h a (List.mem_cons_self ..)
    have h2 := ih fun z hz => h z (List.mem_cons_of_mem _ hz)
    rw [List.sum_cons, List.length_cons]
    omega
theorem small_sums {ms : List (List Int)} {n : Nat} (h : ∀ m ∈ ms, Within m 120) (l : ms.length ≤ 8) : SmallI (colSums ms n) := fun z hz => by
  unfold colSums at hz
  obtain ⟨b, _, rfl⟩ := List.mem_map.mp hz
  unfold colSum
  have q := sum_small (ms := ms.map fun m => m.getD b 0) fun z hz => by
    obtain ⟨m, hm, rfl⟩ := List.mem_map.mp hz
    rw [List.getD_eq_getElem?_getD]
    cases e : m[b]? with
    | none => exact ⟨by decide, by decide⟩
    | some x => exact h m hm b x e
  rw [List.length_map] at q
  omega
theorem colSums_len (ms : List (List Int)) (n : Nat) : (colSums ms n).length = n := by unfold colSums; rw [List.length_map, List.length_range]
end WW
end

section
set_option Elab.async false
set_option linter.all false
set_option maxRecDepth 100000
set_option maxHeartbeats 4000000
namespace WW
open PySem L2 WO WG RZ WQ WT WL
open LamX (ExtN Tabs TabS TabB lamS_by)
open PyProof.Rows (envOfC)
abbrev sCaught : Stmt := top 27
theorem scCaught : FnScope nCaught ["work"] (defScope sCaught) := ⟨rfl, rfl, rfl, by decide +kernel, rfl, by decide +kernel, by decide +kernel⟩
/-- the errors, as the hook reads them -/
structure ErrG (K : PySem.W.Frag) (W C : Addr) : Prop where
  ask : AskE K C
  ex : PySem.W.exmOne K (.ref C) (.ref W) = some true
  one : PySem.W.kitOne K (.ref C) (.ref C) = some true
  non : PySem.W.kitOne K (.type "NoneType") (.ref C) = some false
/-- what the law is told: None of a run, the error of anything else -/
def Told (H : Hp) (C : Addr) (p : Prop) (v : V) : Prop := (v = .non ∧ p) ∨ (∃ a, v = .ref a ∧ H a = some (Caught (.ref C) none a) ∧ ¬ p)
theorem caught_ne (cls : Value) (d : Option Addr) (a : Addr) : ∀ ps, Caught cls d a ≠ .tbl ps := fun ps z => by unfold Caught at z; cases z
theorem Told.extN {H H' : Hp} {C : Addr} {p : Prop} {v : V} (h : Told H C p v) (e : ExtN H H') : Told H' C p v := by
  rcases h with h | ⟨a, h1, h2, h3⟩
  · exact .inl h
  · exact .inr ⟨a, h1, e _ _ h2 (caught_ne _ _ _), h3⟩
theorem told_is {K : PySem.W.Frag} {H : Hp} {W C : Addr} {p : Prop} {v : V} (G : ErrG K W C) (h : Told H C p v) {Q : VK} (k : ∀ b : Bool, (b = true ↔ ¬ p) → Q (.bl b) H) : rIsA K [v, .ref C] H Q := by
  rcases h with ⟨rfl, hp⟩ | ⟨a, rfl, h2, h3⟩
  · exact .inr ⟨.non, .ref C, .type "NoneType", .ref C, false, rfl, .own _, .base .non, G.non, k false ⟨fun z => (by cases z), fun z => absurd hp z⟩⟩
  · exact .inl ⟨a, C, none, .ref C, .ref C, true, rfl, .bare h2, .own _, G.ask, G.one, k true ⟨fun _ => h3, fun _ => rfl⟩⟩
theorem rp_list {X : Cx} {H : Hp} {p : Addr} {vs : List V} {Q : VK} (h : SqL X.K H p vs) (fl : FlatR vs) (g : GoodD (.list (vs.map vD))) (k : Q (.str (PyData.shown (.list (vs.map vD)))) H) : rRepr X [.ref p] H Q :=
  ⟨p, _, rfl, rdb_dp (.lst h (dpAll_row vs fl)) g.hd, g.sh, g.dp, g.le, k⟩
theorem two_inj {cs gs cs' gs' : List Int} (h : twoOf (cs, gs) = some (some (cs'.map V.int), some (gs'.map V.int))) : cs' = cs ∧ gs' = gs := by
  have := twoOf_inj (r := (cs, gs)) (s := (cs', gs')) h
  cases this
  exact ⟨rfl, rfl⟩
theorem Told.upd {H : Hp} {C t : Addr} {p : Prop} {v : V} {xs ys : List V} (h : Told H C p v) (ht : H t = some (.lst xs)) : Told (upd H t (.lst ys)) C p v := by
  rcases h with h | ⟨a, h1, h2, h3⟩
  · exact .inl h
  · exact .inr ⟨a, h1, by rw [upd_ne (ne_of h2 ht (by unfold Caught; intro z; cases z))]; exact h2, h3⟩
theorem Told.same {H H' : Hp} {C : Addr} {p : Prop} {v : V} (h : Told H C p v) (s : Same H H') : Told H' C p v := h.extN (ExtN.of_same s)
theorem tabs_put {T : List (Addr × Str)} {H : Hp} {t : Addr} {xs ys : List V} (h : Tabs T H) (ht : H t = some (.lst xs)) : Tabs T (upd H t (.lst ys)) := fun p hp => by
  obtain ⟨ps, h1, h2, h3⟩ := h p hp
  refine ⟨ps, by rw [upd_ne (ne_of h1 ht (by intro z; cases z))]; exact h1, h2, fun pos cv hc => ?_⟩
  obtain ⟨c, e1, e2⟩ := h3 pos cv hc
  exact ⟨c, e1, by rw [upd_ne (ne_of e2 ht (by unfold LamX.CodeO; intro z; cases z))]; exact e2⟩
theorem extN_put {H H' : Hp} {t : Addr} {o : HO} (h : ExtN H (rem H' t)) : ExtN H (upd H' t o) := fun b u e n => by
  have q := h b u e n
  have nb : b ≠ t := fun z => by
    rw [z] at q
    unfold rem at q
    rw [if_pos rfl] at q
    cases q
  rw [rem_ne nb] at q
  rw [upd_ne nb]
  exact q
theorem extN_new {H H1 H2 : Hp} {t : Addr} (h : ExtN H H1) (ht : H1 t = none) (s : ExtN H1 H2) : ExtN H (rem H2 t) := fun b u e n => by
  have q := h b u e n
  rw [rem_ne (ne_of_none q ht)]
  exact s _ _ q n
theorem extN_rem {H H1 H2 : Hp} {t : Addr} (h : ExtN H (rem H1 t)) (s : ExtN H1 H2) : ExtN H (rem H2 t) := fun b u e n => by
  have q := h b u e n
  have nb : b ≠ t := fun z => by
    rw [z] at q
    unfold rem at q
    rw [if_pos rfl] at q
    cases q
  rw [rem_ne nb] at q ⊢
  exact s _ _ q n
theorem sqT_put {K : PySem.W.Frag} {H : Hp} {a t : Addr} {xs us ys : List V} (h : SqT K H a xs) (ht : H t = some (.lst us)) : SqT K (upd H t (.lst ys)) a xs := by
  rcases h with (h | ⟨o, h⟩) | h
  · exact .inl (.inl (by rw [upd_ne (ne_of h ht (by intro z; cases z))]; exact h))
  · exact .inl (.inr ⟨o, by rw [upd_ne (ne_of h ht (by intro z; cases z))]; exact h⟩)
  · exact .inr h
theorem RunD.put {K : PySem.W.Frag} {H : Hp} {t r c g : Addr} {us ys : List V} {cs gs : List Int} {n : Nat} (R : RunD K H r c g cs gs n) (ht : H t = some (.lst us)) : RunD K (upd H t (.lst ys)) r c g cs gs n :=
  ⟨sqT_put R.t ht, sqT_put R.c ht, sqT_put R.g ht, R.p, R.wc, R.wg, R.l, R.n0, R.n1⟩
/-- runs that were drawn -/
def RunsD (K : PySem.W.Frag) (H : Hp) (ps : List Addr) (rs : List (List Int × List Int)) (n : Nat) : Prop := ps.length = rs.length ∧ ∀ (i : Nat) (p : Addr) (r : List Int × List Int), ps[i]? = some p → rs[i]? = some r → ∃ c g, RunD K H p c g r.1 r.2 n
theorem RunsD.map {K : PySem.W.Frag} {H H' : Hp} {ps : List Addr} {rs : List (List Int × List Int)} {n : Nat} (h : RunsD K H ps rs n) (f : ∀ p c g r, RunD K H p c g (r : List Int × List Int).1 r.2 n → RunD K H' p c g r.1 r.2 n) : RunsD K H' ps rs n :=
  ⟨h.1, fun i p r e1 e2 => by
    obtain ⟨c, g, q⟩ := h.2 i p r e1 e2
    exact ⟨c, g, f _ _ _ _ q⟩⟩
theorem RunsD.same {K : PySem.W.Frag} {H H' : Hp} {ps : List Addr} {rs : List (List Int × List Int)} {n : Nat} (h : RunsD K H ps rs n) (s : Same H H') : RunsD K H' ps rs n := h.map fun _ _ _ _ q => q.same s
theorem RunsD.snoc {K : PySem.W.Frag} {H : Hp} {ps : List Addr} {rs : List (List Int × List Int)} {n : Nat} {p c g : Addr} {cs gs : List Int} (h : RunsD K H ps rs n) (q : RunD K H p c g cs gs n) : RunsD K H (ps ++ [p]) (rs ++ [(cs, gs)]) n := by
  refine ⟨by rw [List.length_append, List.length_append, h.1]; rfl, fun i p' r' e1 e2 => ?_⟩
  by_cases hi : i < ps.length
  · rw [List.getElem?_append_left hi] at e1
    rw [List.getElem?_append_left (by rw [← h.1]; exact hi)] at e2
    exact h.2 i p' r' e1 e2
  · rw [List.getElem?_append_right (by omega)] at e1
    rw [List.getElem?_append_right (by rw [← h.1]; omega), ← h.1] at e2
    have e0 : i - ps.length = 0 := by
      have := (List.getElem?_eq_some_iff.mp e1).1
      simp at this
      omega
    rw [e0] at e1 e2
    cases e1
    cases e2
    exact ⟨c, g, q⟩
theorem runs_rows {K : PySem.W.Frag} {H : Hp} {n : Nat} : ∀ {ps : List Addr} {rs : List (List Int × List Int)}, RunsD K H ps rs n → ∃ ca ga : List Addr, ca.length = ps.length ∧ ga.length = ps.length ∧ ∀ (i : Nat) (p : Addr) (r : List Int × List Int), ps[i]? = some p → rs[i]? = some r → ∃ c g, ca[i]? = some c ∧ ga[i]? = some g ∧ RunD K H p c g r.1 r.2 n
  | [], _, _ => ⟨[], [], rfl, rfl, fun i p r h => by simp at h⟩
  | _ :: _, [], h => by have := h.1; simp at this
  | p :: ps, r :: rs, h => by
    obtain ⟨ca, ga, l1, l2, q⟩ := runs_rows (K := K) (H := H) (n := n) (ps := ps) (rs := rs) ⟨by have := h.1; simp at this; exact this, fun i p' r' e1 e2 => h.2 (i + 1) p' r' e1 e2⟩
    obtain ⟨c, g, R⟩ := h.2 0 p r rfl rfl
    refine ⟨c :: ca, g :: ga, by simp [l1], by simp [l2], fun i p' r' e1 e2 => ?_⟩
    cases i with
    | zero =>
      cases e1
      cases e2
      exact ⟨c, g, rfl, rfl, R⟩
    | succ i => exact q i p' r' e1 e2
theorem RunsD.mem {K : PySem.W.Frag} {H : Hp} {ps : List Addr} {rs : List (List Int × List Int)} {n : Nat} (h : RunsD K H ps rs n) {r : List Int × List Int} (hr : r ∈ rs) : ∃ p c g, RunD K H p c g r.1 r.2 n := by
  obtain ⟨i, hi⟩ := List.getElem?_of_mem hr
  have il := (List.getElem?_eq_some_iff.mp hi).1
  obtain ⟨c, g, R⟩ := h.2 i (ps[i]'(by rw [h.1]; exact il)) r (List.getElem?_eq_getElem _) hi
  exact ⟨_, c, g, R⟩
theorem RunsD.ok {K : PySem.W.Frag} {H : Hp} {ps : List Addr} {rs : List (List Int × List Int)} {n : Nat} (h : RunsD K H ps rs n) (r1 : 1 ≤ rs.length) (r8 : rs.length ≤ 8) : BunOk (some (rs.map twoOf)) :=
  ⟨rs, rfl, r1, r8, fun r hr => by
    obtain ⟨p, c, g, R⟩ := h.mem hr
    exact R.p, n, fun r hr => by
    obtain ⟨p, c, g, R⟩ := h.mem hr
    exact R.l⟩
theorem RunsD.th {K : PySem.W.Frag} {H : Hp} {ps : List Addr} {rs : List (List Int × List Int)} {n : Nat} (h : RunsD K H ps rs n) : ThAll K H (ps.map V.ref) (rs.map twoOf) :=
  ⟨by rw [List.length_map, List.length_map, h.1], fun i y e => by
    rw [List.getElem?_map] at e
    cases ep : ps[i]? with
    | none => rw [ep] at e; cases e
    | some p =>
      rw [ep] at e
      cases e
      have il := (List.getElem?_eq_some_iff.mp ep).1
      have er : rs[i]? = some (rs[i]'(by rw [← h.1]; exact il)) := List.getElem?_eq_getElem _
      obtain ⟨c, g, R⟩ := h.2 i p _ ep er
      exact ⟨_, by rw [List.getElem?_map, er]; rfl, R.th⟩⟩
theorem RunsD.within {K : PySem.W.Frag} {H : Hp} {ps : List Addr} {rs : List (List Int × List Int)} {n : Nat} (h : RunsD K H ps rs n) : (∀ m ∈ rs.map Prod.fst, Within m 120) ∧ (∀ m ∈ rs.map Prod.snd, Within m 120) :=
  ⟨fun m hm => by
    obtain ⟨r, hr, rfl⟩ := List.mem_map.mp hm
    obtain ⟨p, c, g, R⟩ := h.mem hr
    exact R.wc, fun m hm => by
    obtain ⟨r, hr, rfl⟩ := List.mem_map.mp hm
    obtain ⟨p, c, g, R⟩ := h.mem hr
    exact R.wg⟩
/-! ### what is no bundle -/
def BadB (K : PySem.W.Frag) (H : Hp) (x : V) : Prop := ∃ o, BunIn K H x o ∧ ¬ BunOk o
theorem BadB.same {K : PySem.W.Frag} {H H' : Hp} {x : V} (h : BadB K H x) (s : Same H H') : BadB K H' x := by
  obtain ⟨o, h1, h2⟩ := h
  exact ⟨o, h1.same s, h2⟩
theorem not_ok_none : ¬ BunOk none := fun ⟨_, e, _⟩ => by cases e
theorem bad_flat {K : PySem.W.Frag} {H : Hp} {x : V} (h : flatV x = true) : BadB K H x := ⟨none, .no (noTup_flat h), not_ok_none⟩
theorem bad_list {K : PySem.W.Frag} {H : Hp} {a : Addr} {xs : List V} (h : H a = some (.lst xs)) : BadB K H (.ref a) := ⟨none, .no ⟨.type "list", .base (.lst h), kit_ty (by decide +kernel)⟩, not_ok_none⟩
theorem not_ok_of {os : List Two} {i : Nat} {o : Two} (h : os[i]? = some o) (n : ¬ RunOk o) : ¬ BunOk (some os) := by
  rintro ⟨rs, e, _, _, p, _⟩
  cases e
  rw [List.getElem?_map] at h
  cases er : rs[i]? with
  | none => rw [er] at h; cases h
  | some r =>
    rw [er] at h
    cases h
    exact n ⟨r.1, r.2, rfl, p r (List.mem_of_getElem? er)⟩
theorem thAll_cons {K : PySem.W.Frag} {H : Hp} {y : V} {ys : List V} {o : Two} {os : List Two} (h : ThIn K H y o) (t : ThAll K H ys os) : ThAll K H (y :: ys) (o :: os) :=
  ⟨by rw [List.length_cons, List.length_cons, t.1], fun i z e => by
    cases i with
    | zero => cases e; exact ⟨o, rfl, h⟩
    | succ i => exact t.2 i z e⟩
theorem thAll_nil {K : PySem.W.Frag} {H : Hp} : ThAll K H [] [] := ⟨rfl, fun i z e => by simp at e⟩
theorem thAll_app {K : PySem.W.Frag} {H : Hp} : ∀ {ys zs : List V} {os us : List Two}, ThAll K H ys os → ThAll K H zs us → ThAll K H (ys ++ zs) (os ++ us)
  | [], _, [], _, _, h => h
  | [], _, _ :: _, _, h, _ => by have := h.1; simp at this
  | _ :: _, _, [], _, h, _ => by have := h.1; simp at this
  | y :: ys, zs, o :: os, us, h, g => by
    obtain ⟨o', e, t⟩ := h.2 0 y rfl
    cases e
    exact thAll_cons t (thAll_app (ys := ys) (os := os) ⟨by have := h.1; simp at this; exact this, fun i z e => h.2 (i + 1) z e⟩ g)
theorem thAll_rep {K : PySem.W.Frag} {H : Hp} {y : V} {o : Two} (h : ThIn K H y o) : ∀ n, ThAll K H (List.replicate n [y]).flatten (List.replicate n o)
  | 0 => thAll_nil
  | n + 1 => by
    rw [List.replicate_succ, List.replicate_succ, List.flatten_cons]
    exact thAll_cons h (thAll_rep h n)
theorem th2 {K : PySem.W.Frag} {H : Hp} {a c g : Addr} {cs gs : List Int} (h : SqT K H a [.ref c, .ref g]) (h1 : SqT K H c (cs.map V.int)) (h2 : SqT K H g (gs.map V.int)) (l1 : cs.length ≤ 1001) (l2 : gs.length ≤ 1001) : ThIn K H (.ref a) (twoOf (cs, gs)) := by
  refine .two h (.seq (.inr h1) (ints_flat cs) (by rw [List.length_map]; exact l1)) (.seq (.inr h2) (ints_flat gs) (by rw [List.length_map]; exact l2)) fun xs ys e1 e2 => ⟨c, g, rfl, rfl, ?_⟩
  cases e1
  cases e2
  exact .inr ⟨h1, h2⟩
/-- runs of unlike lengths -/
theorem not_ok_len {rs : List (List Int × List Int)} {i j : Nat} {x y : List Int × List Int} (h1 : rs[i]? = some x) (h2 : rs[j]? = some y) (n : x.1.length ≠ y.1.length) : ¬ BunOk (some (rs.map twoOf)) := by
  rintro ⟨ss, e, _, _, _, m, hm⟩
  cases twos_inj (Option.some.inj e)
  exact n (by rw [hm x (List.mem_of_getElem? h1), hm y (List.mem_of_getElem? h2)])
theorem last_cut {ns : List Int} (h : 1 ≤ ns.length) : ∃ z : Int, cutV (ns.map V.int) (some (-1)) none = [z].map V.int := by
  have e : HT.sIx (ns.map V.int).length 0 (some (-1)) = ns.length - 1 := by
    unfold HT.sIx
    dsimp only
    rw [if_pos (by decide), List.length_map]
    omega
  unfold cutV
  rw [e]
  have hd : (ns.map V.int).drop (ns.length - 1) = [V.int (ns[ns.length - 1]'(by omega))] := by
    rw [← List.map_drop, List.drop_eq_getElem_cons (by omega), show ns.length - 1 + 1 = ns.length by omega, List.drop_length]
    rfl
  refine ⟨ns[ns.length - 1]'(by omega), ?_⟩
  rw [hd]
  show List.take ((ns.map V.int).length - (ns.length - 1)) _ = _
  rw [List.length_map, show ns.length - (ns.length - 1) = 1 by omega]
  rfl
/-- a row among the runs: no run -/
theorem row_th {K : PySem.W.Frag} {H : Hp} {c : Addr} {ns : List Int} (h : SqT K H c (ns.map V.int)) : ∃ o, ThIn K H (.ref c) o ∧ ¬ RunOk o := by
  match ns, h with
  | [x, y], h => exact ⟨some (none, none), .two h (.no (listT_flat rfl)) (.no (listT_flat rfl)) fun xs ys e1 _ => (by cases e1), fun ⟨_, _, e, _⟩ => by cases e⟩
  | [], h => exact ⟨none, .len h (by decide), fun ⟨_, _, e, _⟩ => by cases e⟩
  | [x], h => exact ⟨none, .len h (by show 1 ≠ 2; decide), fun ⟨_, _, e, _⟩ => by cases e⟩
  | x :: y :: z :: r, h => exact ⟨none, .len h (by simp), fun ⟨_, _, e, _⟩ => by cases e⟩
theorem pair_eq {cs gs : List Int} (h1 : RunPair cs gs) (h2 : RunPair gs cs) : gs = cs := by
  refine List.ext_getElem? fun i => ?_
  by_cases hi : i < cs.length
  · have hi2 : i < gs.length := by rw [← h1.2.2.1]; exact hi
    have e1 : cs[i]? = some cs[i] := List.getElem?_eq_getElem hi
    have e2 : gs[i]? = some gs[i] := List.getElem?_eq_getElem hi2
    have a := h1.2.2.2 i _ _ e1 e2
    have b := h2.2.2.2 i _ _ e2 e1
    rw [e1, e2]
    congr 1
    omega
  · have := h1.2.2.1
    rw [List.getElem?_eq_none (show gs.length ≤ i by omega), List.getElem?_eq_none (show cs.length ≤ i by omega)]
theorem BadB.extN {K : PySem.W.Frag} {H H' : Hp} {x : V} (h : BadB K H x) (s : ExtN H H') : BadB K H' x := by
  obtain ⟨o, h1, h2⟩ := h
  exact ⟨o, BunIn.extN h1 s, h2⟩
structure LawG (mg : Str → Option Value) : Prop where
  repr : mg "repr" = none
abbrev nLaw : List Str := ["script", "draw", "turn", "size", "came_here", "gone_here", "run_here", "thing", "told", "others", "lap", "row_here", "bundle_here", "due", "longer", "bads", "bad", "one", "other", "caught", "run"]
def spLaw (K : PySem.W.Frag) (cs : List (Addr × Addr)) : Sp := fun vs H Q _ => ∃ (a : Addr) (ns : List Int), vs = [.ref a] ∧ SqL K H a (ns.map V.int) ∧ ns.length ≤ 63 ∧ (∀ p ∈ cs, H p.2 = some (.tbl #[])) ∧ ∀ H', Q (.bl true) H'
theorem scLaw : FnScope nLaw ["script"] (defScope sLaw) := ⟨rfl, rfl, rfl, by decide +kernel, rfl, by decide +kernel, by decide +kernel⟩
abbrev stL (a d : Addr) (v2 v3 v4 v5 v6 v7 v8 v9 v10 v11 v12 v13 v14 v15 v16 : Option V) : L2.St := [some (.ref a), some (.ref d), v2, v3, v4, v5, v6, v7, v8, v9, v10, v11, v12, v13, v14, v15, v16, none, none, none, none]
abbrev lamQ : Str := "law.<locals>.<lambda>"
section
variable {P : Program} {w : World} {K : PySem.W.Frag} {mg : Str → Option Value} {base : Heap}
theorem ok_law {f fB fT fR fG fN fZ fJ fI fH fW fL fS fU fA fC c tb W CR CB : Addr} {fd dB dT dR dG dN dZ dJ dI dH dW dL dS dU dA dC : FuncData} {cs0 : List (Addr × Addr)} (F : Fun K "law" "law" sLaw f fd) (hcode : fd.code = .ref c) (TB : TabB base mg c tb) (h0 : ∀ {H : Hp}, (∀ p ∈ cs0, H p.2 = some (.tbl #[])) → H tb = some (.tbl #[]))
    (T : RunG mg) (G : LawG mg) (ER : ErrG K W CR) (EB : ErrG K W CB) (mW : mg "WaitError" = some (.ref W)) (mCR : mg "BadRun" = some (.ref CR)) (mCB : mg "BadBundle" = some (.ref CB))
    (GB : FnOk P w K mg base CX0 1 fB dB ["script"] (spBegun K)) (kB : PySem.W.keepIn K (.ref fB) = true) (bB : Binds K dB ["script"] []) (mB : mg "_law_begun" = some (.ref fB))
    (GT : FnOk P w K mg base CX0 2 fT dT ["draw", "amount"] (spTake K)) (kT : PySem.W.keepIn K (.ref fT) = true) (bT' : Binds K dT ["draw", "amount"] []) (mT : mg "_law_take" = some (.ref fT))
    (GR : FnOk P w K mg base CX0 4 fR dR ["draw", "size", "most_here"] (spRowOf K)) (kR : PySem.W.keepIn K (.ref fR) = true) (bR : Binds K dR ["draw", "size", "most_here"] []) (mR : mg "_law_row_of" = some (.ref fR))
    (GG : FnOk P w K mg base CX0 4 fG dG ["draw", "came_here", "least_here"] (spGone K)) (kG : PySem.W.keepIn K (.ref fG) = true) (bG : Binds K dG ["draw", "came_here", "least_here"] []) (mG : mg "_law_gone_above" = some (.ref fG))
    (GN : FnOk P w K mg base CX0 3 fN dN ["draw", "run_here"] (spNear K)) (kN : PySem.W.keepIn K (.ref fN) = true) (bN : Binds K dN ["draw", "run_here"] []) (mN : mg "_law_near" = some (.ref fN))
    (GZ : FnOk P w K mg base CX0 1 fZ dZ ["found", "due"] (spTruth K)) (kZ : PySem.W.keepIn K (.ref fZ) = true) (bZ : Binds K dZ ["found", "due"] []) (mZ : mg "_law_is_truth" = some (.ref fZ))
    (GJ : FnOk P w K mg base CX0 2 fJ dJ ["thing"] (spIsRun K)) (kJ : PySem.W.keepIn K (.ref fJ) = true) (bJ : Binds K dJ ["thing"] []) (mJ : mg "_law_is_run" = some (.ref fJ))
    (GI : FnOk P w K mg base CX0 3 fI dI ["thing"] (spIsRun K)) (kI : PySem.W.keepIn K (.ref fI) = true) (bI : Binds K dI ["thing"] []) (mI : mg "is_run" = some (.ref fI))
    (GH : FnOk P w K mg base (L2.CX P w) 5 fH dH ["run"] (spHeaps K CR)) (kH : PySem.W.keepIn K (.ref fH) = true) (bH : Binds K dH ["run"] []) (mH : mg "run_heaps" = some (.ref fH))
    (GW : FnOk P w K mg base (L2.CX P w) 5 fW dW ["run"] (spWaits K CR)) (kW : PySem.W.keepIn K (.ref fW) = true) (bW : Binds K dW ["run"] []) (mWt : mg "run_waits" = some (.ref fW)) (qW : KBinds K dW ["run"] ["run"] (fun us ws => us ++ ws) (fun vs zs => vs ++ zs))
    (GL : FnOk P w K mg base CX0 1 fL dL ["came_here", "gone_here"] (spWaitList K)) (kL : PySem.W.keepIn K (.ref fL) = true) (bL : Binds K dL ["came_here", "gone_here"] []) (mL : mg "_law_wait_list" = some (.ref fL))
    (GS : FnOk P w K mg base CX0 1 fS dS ["rows"] (spAdded K)) (kS : PySem.W.keepIn K (.ref fS) = true) (bS : Binds K dS ["rows"] []) (mS : mg "_law_sums" = some (.ref fS))
    (GU : FnOk P w K mg base CX0 4 fU dU ["thing"] (spIsBundle K)) (kU : PySem.W.keepIn K (.ref fU) = true) (bU : Binds K dU ["thing"] []) (mU : mg "is_bundle" = some (.ref fU))
    (GA : FnOk P w K mg base (L2.CX P w) 6 fA dA ["bundle"] (spTogether K CB)) (kA : PySem.W.keepIn K (.ref fA) = true) (bA : Binds K dA ["bundle"] []) (mA : mg "all_together" = some (.ref fA)) (qA : KBinds K dA ["bundle"] ["bundle"] (fun us ws => us ++ ws) (fun vs zs => vs ++ zs))
    (FC : Fun K "_law_caught" "_law_caught" sCaught fC dC) (bC : Binds K dC ["work"] []) (mC : mg "_law_caught" = some (.ref fC)) :
    FnG P w K mg base CX0 9 f fd ["script"] (spLaw K cs0) := by
  obtain ⟨ocC, odC, kVC, docC, pmC, anC, cdvC, ctC, oslC, rfl, lkC, hcdC⟩ := FC.ex
  have kC := FC.kp
  refine okC F hcode scLaw (fun vs H Q E h => ?_) (fun A outer s H vs Q E hr hgu h => ?_)
  · obtain ⟨a, ns, rfl, _⟩ := h
    rfl
  · obtain ⟨a, ns, rfl, hS, hn, hT, k⟩ := h
    have hr1 := hr.mono (show 1 ≤ 8 by decide)
    have hr2 := hr.mono (show 2 ≤ 8 by decide)
    have hr3 := hr.mono (show 3 ≤ 8 by decide)
    have hr4 := hr.mono (show 4 ≤ 8 by decide)
    have hr5 := hr.mono (show 5 ≤ 8 by decide)
    have hr6 := hr.mono (show 6 ≤ 8 by decide)
    have hu64 := hr.units
    refine ⟨_, pss_cons (ps_set (i := 1) scLaw.nd rfl (Or.inl rfl) (pe_call GB hr1 rfl mB kB bB .nil pass0 (pa_cons (pv 0) pa_nil)))
      (pss_cons (ps_for PassesOwn.never rfl (pi_range1 (by rfl) T.range (pa_cons pe_int pa_nil)) (pg_name (i := 2) scLaw.nd rfl (Or.inl rfl))
        (C8.pss_cut (ps_set (i := 3) scLaw.nd rfl (Or.inl rfl) (pe_op op_add pe_int (pe_call GT hr2 rfl mT kT bT' .nil pass0 (pa_cons (pv 1) (pa_cons pe_int pa_nil)))))
        (pss_cons (ps_set (i := 4) scLaw.nd rfl (Or.inl rfl) (pe_call GR hr4 rfl mR kR bR .nil pass0 (pa_cons (pv 1) (pa_cons (pv 3) (pa_cons pe_int pa_nil)))))
        (pss_cons (ps_set (i := 5) scLaw.nd rfl (Or.inl rfl) (pe_call GG hr4 rfl mG kG bG .nil pass0 (pa_cons (pv 1) (pa_cons (pv 4) (pa_cons (pe_op WM.op_repA (pe_tup (pa_cons pe_int pa_nil)) (pv 3)) pa_nil)))))
        (C8.pss_cut (ps_set (i := 6) scLaw.nd rfl (Or.inl rfl) (pe_tup (pa_cons (pv 4) (pa_cons (pv 5) pa_nil))))
        (C8.pss_cut (ps_if (PW.pt (pw_or (pt_cmpR op_notBl (pe_call GI hr3 rfl mI kI bI .nil pass0 (pa_cons (pv 6) pa_nil)) pe_bl (nomark _))
              (pw_or1 (pt_cmpR op_ne (pe_callB (call_repr hgu hu64) (by rfl) G.repr (by decide +kernel) (pa_cons (pe_call GH hr5 rfl mH kH bH .nil passF (pa_cons (pv 6) pa_nil)) pa_nil))
                (pe_callB (call_repr hgu hu64) (by rfl) G.repr (by decide +kernel) (pa_cons (pe_lc (own := [("one", 17), ("other", 18)]) (g := gTup K 2 (gCons (gName 17) (gCons (gName 18) gNil))) (tt := tYes) rfl scLaw.nd (pi_zipS (by rfl) T.zip (pa_cons (pv 4) (pa_cons (pv 5) pa_nil))) (blkOk_by (N := nLaw) (sc := defScope sLaw) (by decide +kernel))
                  (fun _ _ _ _ _ => pg_tup rfl (pgs_cons (pg_name (i := 17) scLaw.nd rfl (Or.inl rfl)) (pgs_cons (pg_name (i := 18) scLaw.nd rfl (Or.inl rfl)) pgs_nil))) (fun _ _ _ _ _ => pts_nil) (fun _ _ _ _ _ => pe_op op_sub (pv 17) (pv 18))) pa_nil)) (nomark _)))))
            (pss_one (ps_ret pe_bl)) pss_nil)
        (C8.pss_cut (ps_if (PW.pt (pw_or (pt_cmpR op_ne (pe_callB (call_repr hgu hu64) (by rfl) G.repr (by decide +kernel) (pa_cons (pe_callK0 GW hr5 rfl mWt kW qW passF (pk_cons (pv 6) pk_nil)) pa_nil)) (pe_callB (call_repr hgu hu64) (by rfl) G.repr (by decide +kernel) (pa_cons (pe_call GL hr1 rfl mL kL bL .nil pass0 (pa_cons (pv 4) (pa_cons (pv 5) pa_nil))) pa_nil)) (nomark _))
              (pw_or1 (pt_cmpR (op_neD hu64) (pe_call GW hr5 rfl mWt kW bW .nil passF (pa_cons (pe_tup (pa_cons (pe_callTy call_list_of (by rfl) T.list (by decide +kernel) (pa_cons (pv 4) pa_nil)) (pa_cons (pe_callTy call_list_of (by rfl) T.list (by decide +kernel) (pa_cons (pv 5) pa_nil)) pa_nil))) pa_nil)) (pe_call GW hr5 rfl mWt kW bW .nil passF (pa_cons (pv 6) pa_nil)) (nomark _)))))
            (pss_one (ps_ret pe_bl)) pss_nil)
        (C8.pss_cut (ps_for PassesOwn.never rfl (pi_list (pe_call GN hr3 rfl mN kN bN .nil pass0 (pa_cons (pv 1) (pa_cons (pv 6) pa_nil)))) (pg_name (i := 7) scLaw.nd rfl (Or.inr rfl))
            (pss_cons (ps_if (pt_not (pt_val (pe_call GZ hr1 rfl mZ kZ bZ .nil pass0 (pa_cons (pe_call GI hr3 rfl mI kI bI .nil pass0 (pa_cons (pv 7) pa_nil)) (pa_cons (pe_call GJ hr2 rfl mJ kJ bJ .nil pass0 (pa_cons (pv 7) pa_nil)) pa_nil))))) (pss_one (ps_ret pe_bl)) pss_nil)
            (C8.pss_cut (ps_set (i := 8) scLaw.nd rfl (Or.inl rfl) (pe_lst (pa_cons (LamX.pe_lamcall (T := [(tb, lamQ)]) (TT := TTc K W) (Ng := nCaught) (k := 6) (by rfl) mC kC lkC hcdC bC scCaught rfl (Or.inl rfl)
                (caught_gives rfl mW rfl rfl rfl) TB rfl (List.mem_singleton.mpr rfl) (fun p hp _ => by cases List.mem_singleton.mp hp; rfl) hr (lamS_by (sc := defScope sLaw) (by decide +kernel)) (by rfl) (fun _ _ _ _ _ => by rfl)
                (fun A outer s H E f c' hr' => pe_call GH (hr'.mono (by decide)) rfl mH kH bH .nil (passX (takes_of rfl rfl rfl rfl) fun _ _ _ _ h => h) (pa_cons (pv 7) pa_nil))) pa_nil)))
            (C8.pss_cut (ps_expr (pe_bm PySem.F.plainAttrs_list PySem.F.slot_list_append PySem.F.type_list_append mt_append (pv 8) (pa_cons (LamX.pe_lamcall (T := [(tb, lamQ)]) (TT := TTc K W) (Ng := nCaught) (k := 6) (by rfl) mC kC lkC hcdC bC scCaught rfl (Or.inl rfl)
                (caught_gives rfl mW rfl rfl rfl) TB rfl (List.mem_singleton.mpr rfl) (fun p hp _ => by cases List.mem_singleton.mp hp; rfl) hr (lamS_by (sc := defScope sLaw) (by decide +kernel)) (by rfl) (fun _ _ _ _ _ => by rfl)
                (fun A outer s H E f c' hr' => pe_call GW (hr'.mono (by decide)) rfl mWt kW bW .nil (passX (takes_of rfl rfl rfl rfl) fun _ _ _ _ h => h) (pa_cons (pv 7) pa_nil))) pa_nil)))
            (pss_one (ps_if (pt_cmpR (op_neD hu64) (pe_lc (own := [("caught", 19)]) (g := gName 19) rfl scLaw.nd (pi_list (pv 8)) (blkOk_by (N := nLaw) (sc := defScope sLaw) (by decide +kernel)) (fun _ _ _ _ _ => pg_name (i := 19) scLaw.nd rfl (Or.inl rfl))
                (fun _ _ _ _ _ => pts_one (pt_cmpR op_eq (pe_callB (r := rIsA K) call_isA (by rfl) T.isi (by decide +kernel) (pa_cons (pv 19) (pa_cons (pe_glob (v := .ref CR) rfl mCR rfl) pa_nil))) (pe_call GJ hr2 rfl mJ kJ bJ .nil pass0 (pa_cons (pv 7) pa_nil)) (nomark _)))
                (fun _ _ _ _ _ => pe_int)) (pe_lst pa_nil) (nomark _)) (pss_one (ps_ret pe_bl)) pss_nil))))))
        (C8.pss_cut (ps_set (i := 9) scLaw.nd rfl (Or.inl rfl) (pe_lst (pa_cons (pv 6) pa_nil)))
        (C8.pss_cut (ps_for PassesOwn.never rfl (pi_range1 (by rfl) T.range (pa_cons (pe_call GT hr2 rfl mT kT bT' .nil pass0 (pa_cons (pv 1) (pa_cons pe_int pa_nil))) pa_nil)) (pg_name (i := 10) scLaw.nd rfl (Or.inl rfl))
            (pss_cons (ps_set (i := 11) scLaw.nd rfl (Or.inl rfl) (pe_call GR hr4 rfl mR kR bR .nil pass0 (pa_cons (pv 1) (pa_cons (pv 3) (pa_cons pe_int pa_nil)))))
            (pss_one (ps_expr (pe_bm PySem.F.plainAttrs_list PySem.F.slot_list_append PySem.F.type_list_append mt_append (pv 9) (pa_cons (pe_tup (pa_cons (pv 11) (pa_cons (pe_call GG hr4 rfl mG kG bG .nil pass0 (pa_cons (pv 1) (pa_cons (pv 11) (pa_cons (pe_op WM.op_repA (pe_tup (pa_cons pe_int pa_nil)) (pv 3)) pa_nil)))) pa_nil))) pa_nil))))))
        (C8.pss_cut (ps_set (i := 12) scLaw.nd rfl (Or.inl rfl) (pe_callTy call_tuple_of (by rfl) T.tuple (by decide +kernel) (pa_cons (pv 9) pa_nil)))
        (C8.pss_cut (ps_set (i := 13) scLaw.nd rfl (Or.inl rfl) (pe_tup (pa_cons (pe_call GS hr1 rfl mS kS bS .nil pass0 (pa_cons (pe_lc (own := [("run", 20)]) (g := gName 20) (tt := tYes) rfl scLaw.nd (pi_list (pv 9)) (blkOk_by (N := nLaw) (sc := defScope sLaw) (by decide +kernel)) (fun _ _ _ _ _ => pg_name (i := 20) scLaw.nd rfl (Or.inl rfl)) (fun _ _ _ _ _ => pts_nil) (fun _ _ _ _ _ => pe_ix (r := rIxT K) ix_tup (pv 20) pe_int (fun _ _ => rfl))) pa_nil))
            (pa_cons (pe_call GS hr1 rfl mS kS bS .nil pass0 (pa_cons (pe_lc (own := [("run", 20)]) (g := gName 20) (tt := tYes) rfl scLaw.nd (pi_list (pv 9)) (blkOk_by (N := nLaw) (sc := defScope sLaw) (by decide +kernel)) (fun _ _ _ _ _ => pg_name (i := 20) scLaw.nd rfl (Or.inl rfl)) (fun _ _ _ _ _ => pts_nil) (fun _ _ _ _ _ => pe_ix (r := rIxT K) ix_tup (pv 20) pe_int (fun _ _ => rfl))) pa_nil)) pa_nil))))
        (C8.pss_cut (ps_if (PW.pt (pw_or (pt_cmpR op_notBl (pe_call GU hr4 rfl mU kU bU .nil pass0 (pa_cons (pv 12) pa_nil)) pe_bl (nomark _))
              (pw_or1 (pt_cmpR op_ne (pe_callB (call_repr hgu hu64) (by rfl) G.repr (by decide +kernel) (pa_cons (pe_callK0 GA hr6 rfl mA kA qA passF (pk_cons (pv 12) pk_nil)) pa_nil)) (pe_callB (call_repr hgu hu64) (by rfl) G.repr (by decide +kernel) (pa_cons (pv 13) pa_nil)) (nomark _)))))
            (pss_one (ps_ret pe_bl)) pss_nil)
        (C8.pss_cut (ps_set (i := 14) scLaw.nd rfl (Or.inl rfl) (pe_tup (pa_cons (pe_op op_catU (pv 4) (pe_slice sl_seqB (pv 4) (po_some (pe_un un_neg pe_int)) po_none)) (pa_cons (pe_op op_catU (pv 5) (pe_slice sl_seqB (pv 5) (po_some (pe_un un_neg pe_int)) po_none)) pa_nil))))
        (C8.pss_cut (ps_set (i := 15) scLaw.nd rfl (Or.inl rfl) (pe_lst (pa_cons pe_non (pa_cons pe_int (pa_cons (pe_tup pa_nil) (pa_cons (pe_callTy call_list_of (by rfl) T.list (by decide +kernel) (pa_cons (pv 9) pa_nil)) (pa_cons (pv 6)
            (pa_cons (pe_op op_catU (pv 12) (pe_tup (pa_cons pe_non pa_nil))) (pa_cons (pe_op WM.op_repA (pe_tup (pa_cons (pv 6) pa_nil)) pe_int) (pa_cons (pe_op op_catU (pv 12) (pe_tup (pa_cons (pv 14) pa_nil))) (pa_cons (pe_tup (pa_cons (pv 14) (pa_cons (pv 6) pa_nil))) pa_nil)))))))))))
        (pss_one (ps_for PassesOwn.never rfl (pi_list (pe_op op_cat (pv 15) (pe_ifExp (pt_cmpR (op_neD hu64) (pv 5) (pv 4) (nomark _)) (pe_lst (pa_cons (pe_tup (pa_cons (pe_tup (pa_cons (pv 5) (pa_cons (pv 4) pa_nil))) pa_nil)) pa_nil)) (pe_lst pa_nil)))) (pg_name (i := 16) scLaw.nd rfl (Or.inr rfl))
            (pss_one (ps_if (PW.pt (pw_or (pt_cmpR op_notBl (pe_call GU hr4 rfl mU kU bU .nil pass0 (pa_cons (pv 16) pa_nil)) pe_bl (nomark _))
                (pw_or1 (pt_not (pt_val (pe_callB (r := rIsA K) call_isA (by rfl) T.isi (by decide +kernel) (pa_cons (LamX.pe_lamcall (T := [(tb, lamQ)]) (TT := TTc K W) (Ng := nCaught) (k := 6) (by rfl) mC kC lkC hcdC bC scCaught rfl (Or.inl rfl)
                  (caught_gives rfl mW rfl rfl rfl) TB rfl (List.mem_singleton.mpr rfl) (fun p hp _ => by cases List.mem_singleton.mp hp; rfl) hr (lamS_by (sc := defScope sLaw) (by decide +kernel)) (by rfl) (fun _ _ _ _ _ => by rfl)
                  (fun A outer s H E f c' hr' => pe_call GA (hr'.mono (by decide)) rfl mA kA bA .nil (passX (takes_of rfl rfl rfl rfl) fun _ _ _ _ h => h) (pa_cons (pv 16) pa_nil))) (pa_cons (pe_glob (v := .ref CB) rfl mCB rfl) pa_nil))))))))
              (pss_one (ps_ret pe_bl)) pss_nil)))))))))))))))))))
      (pss_one (ps_ret pe_bl))), ?_⟩
    refine ⟨_, rfl, a, ns, rfl, hS, hn, fun d l e H0 _ _ _ D0 s0 => ?_⟩
    have T0 : Tabs [(tb, lamQ)] H0 := fun p hp => by
      cases List.mem_singleton.mp hp
      exact LamX.TabS.nil (s0 _ _ (h0 hT))
    refine ⟨3, rfl, by decide, by decide, for_range (lo := 0) (n := 3) (fun i σ H1 => ∃ v2 v3 v4 v5 v6 v7 v8 v9 v10 v11 v12 v13 v14 v15 v16, σ = stL a d v2 v3 v4 v5 v6 v7 v8 v9 v10 v11 v12 v13 v14 v15 v16 ∧ DrawAt H1 d l e ∧ Tabs [(tb, lamQ)] H1) ⟨_, _, _, _, _, _, _, _, _, _, _, _, _, _, _, rfl, D0, T0⟩ ?_ ?_⟩
    rotate_left
    · rintro σ H1 ⟨v2, v3, v4, v5, v6, v7, v8, v9, v10, v11, v12, v13, v14, v15, v16, rfl, D1, T1⟩
      exact k H1
    rintro i σ H1 hi ⟨v2, v3, v4, v5, v6, v7, v8, v9, v10, v11, v12, v13, v14, v15, v16, rfl, D1, T1⟩
    generalize hv2 : V.int (0 + (i : Int)) = tn
    -- size, came_here, gone_here
    refine ⟨fun σ H' => ∃ n : Nat, σ = stL a d (some tn) (some (.int n)) v4 v5 v6 v7 v8 v9 v10 v11 v12 v13 v14 v15 v16 ∧ 1 ≤ n ∧ n ≤ 24 ∧ DrawAt H' d l e ∧ Tabs [(tb, lamQ)] H', ?_, ?_⟩
    · refine ⟨_, rfl, d, l, e, _, rfl, D1, by decide, by decide, fun q H2 q0 q1 D2 k2 => ⟨_, _, rfl, rfl, (1 + q).toNat, ?_, by omega, by omega, D2, Tabs.keepD D1 T1 k2⟩⟩
      show stL a d (some tn) (some (V.int (1 + q))) v4 v5 v6 v7 v8 v9 v10 v11 v12 v13 v14 v15 v16 = _
      rw [show (((1 + q).toNat : Nat) : Int) = 1 + q by omega]
    clear D1 T1
    rintro σ H1 ⟨n, rfl, n0, n1, D1, T1⟩
    refine ⟨_, rfl, _, rfl, d, l, e, n, 5, rfl, D1, n0, n1, by decide, by decide, fun c' cs H2 a2 l2 w2 D2 k2 f2 => ?_⟩
    have T2 := Tabs.keepD D1 T1 k2
    refine ⟨_, rfl, _, rfl, ⟨by show 1 ≤ sizeLine; decide, fun z hz => ?_⟩⟩
    generalize g3 : upd H2 z _ = H3
    obtain ⟨s3, f3⟩ := alloc g3 hz
    refine ⟨_, rfl, z, n, [.int 0], rfl, rfl, SqT.of f3, by simp, by omega, by omega, by decide, fun z2 H4 hz2 s4 => ?_⟩
    have ez : (List.replicate ((n : Int)).toNat [V.int 0]).flatten = (List.replicate n (0 : Int)).map V.int := by
      rw [Int.toNat_natCast]
      simp
    rw [ez] at hz2
    have D4 := (D2.same s3).same s4
    refine ⟨d, l, e, c', z2, n, cs, rfl, D4, SqT.of (s4 _ _ (s3 _ _ f2)), a2, w2, l2, n1, hz2, fun g' gs H5 p5 w5 D5 k5 f5 => ?_⟩
    have T5 := Tabs.keepD D4 (Tabs.same (Tabs.same T2 s3) s4) k5
    have hC5 : SqT K H5 c' (cs.map V.int) := keepT D4 k5 (SqT.of (s4 _ _ (s3 _ _ f2)))
    have hG5 : SqT K H5 g' (gs.map V.int) := SqT.of f5
    clear D1 T1 T2 D2 k2 f2 g3 f3 s3 s4 hz2 D4 k5 f5 hz ez
    -- run_here
    refine ⟨fun σ H' => ∃ r : Addr, σ = stL a d (some tn) (some (.int n)) (some (.ref c')) (some (.ref g')) (some (.ref r)) v7 v8 v9 v10 v11 v12 v13 v14 v15 v16 ∧ DrawAt H' d l e ∧ Tabs [(tb, lamQ)] H' ∧ RunD K H' r c' g' cs gs n, ?_, ?_⟩
    · refine ⟨_, rfl, _, rfl, (by show 2 ≤ sizeLine; decide), fun r hr => ?_⟩
      generalize g6 : upd H5 r _ = H6
      obtain ⟨s6, f6⟩ := alloc g6 hr
      exact ⟨r, rfl, D5.same s6, Tabs.same T5 s6, SqT.of f6, seqT s6 hC5, seqT s6 hG5, p5, w2, w5, l2, n0, n1⟩
    clear D5 T5 hC5 hG5
    rintro σ H1 ⟨r, rfl, D1, T1, R1⟩
    -- heaps
    refine ⟨fun σ H' => σ = stL a d (some tn) (some (.int n)) (some (.ref c')) (some (.ref g')) (some (.ref r)) v7 v8 v9 v10 v11 v12 v13 v14 v15 v16 ∧ DrawAt H' d l e ∧ Tabs [(tb, lamQ)] H' ∧ RunD K H' r c' g' cs gs n, ?_, ?_⟩
    · refine ⟨_, rfl, .ref r, _, rfl, R1.th, fun b H2 s2 ib => ?_⟩
      cases (ib.mpr R1.ok : b = true)
      refine ⟨_, _, rfl, rfl, _, rfl, iteF ?_⟩
      have R2 := R1.same s2
      have gd : GoodD (.list (((heaps cs gs).map V.int).map vD)) := good_list (smallV_of (small_heaps p5 w2 w5)) (by rw [List.length_map, heaps_len]; omega)
      refine ⟨_, rfl, .ref r, _, rfl, R2.th, fun cs' gs' e1 _ q3 H3 s3 f3 => ?_, fun z => absurd R1.ok z⟩
      obtain ⟨rfl, rfl⟩ := two_inj e1
      refine ⟨_, _, rfl, rdb_dp (.lst (SqL.of f3) (dpAll_row _ (flatR_ints _))) gd.hd, gd.sh, gd.dp, gd.le, ?_⟩
      have R3 := R2.same s3
      refine ⟨_, rfl, _, rfl, c', g', _, _, rfl, .inr ⟨R3.c, R3.g⟩, fun J G wk st D hD => lc_it wk (fun i H4 => H4 D = some (.lst (((heaps cs' gs').take i).map V.int)) ∧ Same H3 H4) ⟨upd_same, same_new hD⟩ (fun i H4 _ ⟨_, s4⟩ => st _ (.of s4 _ _) (.of s4 _ _)) ?_ ?_⟩
      · rintro i v H4 H5 hi ⟨hd, s4⟩ ⟨t, x, y, rfl, ht, rfl, hx, hy⟩
        dsimp only at hx hy
        rw [List.length_map, List.length_map] at hi
        rw [List.getElem?_map] at hx hy
        obtain ⟨u, hu⟩ : ∃ u, cs'[i]? = some u := ⟨_, List.getElem?_eq_getElem (by omega)⟩
        obtain ⟨z, hz⟩ : ∃ z, gs'[i]? = some z := ⟨_, List.getElem?_eq_getElem (by omega)⟩
        rw [hu] at hx
        rw [hz] at hy
        cases hx
        cases hy
        have es : (heaps cs' gs')[i]? = some (u - z) := by
          unfold heaps
          rw [List.getElem?_map, (List.getElem?_zip_eq_some (z := (u, z))).mpr ⟨hu, hz⟩]
          rfl
        generalize g7 : upd H4 t _ = H7
        obtain ⟨s7, f7⟩ := alloc g7 ht
        refine ⟨t, [_, _], rfl, SqT.of f7, rfl, _, _, rfl, _, _, rfl, rfl, rfl, _, rfl, _, rfl, _, _, rfl, rfl, _, s7 _ _ hd, ?_, ?_, fun b o e => by rw [upd_ne (ne_of_none e hD)]; exact s7 _ _ (s4 _ _ e)⟩
        · rw [List.length_map, List.length_take]
          exact small1000' (by omega)
        · rw [take_snoc es, List.map_append]
          exact upd_same
      · rintro H4 ⟨hd, s4⟩
        rw [List.length_map, List.length_map, ← heaps_len, List.take_length] at hd
        refine ⟨_, _, rfl, rdb_dp (.lst (SqL.of hd) (dpAll_row _ (flatR_ints _))) gd.hd, gd.sh, gd.dp, gd.le, rfl, _, rfl, ?_⟩
        rw [decide_eq_true rfl]
        have sF := Same.trans s2 (Same.trans s3 s4)
        exact iteF ⟨rfl, D1.same sF, Tabs.same T1 sF, R1.same sF⟩
    clear D1 T1 R1
    rintro σ H1 ⟨rfl, D1, T1, R1⟩
    -- waits
    refine ⟨fun σ H' => σ = stL a d (some tn) (some (.int n)) (some (.ref c')) (some (.ref g')) (some (.ref r)) v7 v8 v9 v10 v11 v12 v13 v14 v15 v16 ∧ DrawAt H' d l e ∧ Tabs [(tb, lamQ)] H' ∧ RunD K H' r c' g' cs gs n, ?_, ?_⟩
    · have gd : GoodD (.list ((waits cs gs).map vD)) := good_list (small_waits (by have := R1.g1; omega)) (by rw [waits_len]; omega)
      refine ⟨_, rfl, .ref r, _, rfl, R1.th, fun cs' gs' e1 _ q2 H2 _ s2 f2 => ?_, fun z => absurd R1.ok z⟩
      obtain ⟨rfl, rfl⟩ := two_inj e1
      refine ⟨_, _, rfl, rdb_dp (.lst (SqL.of f2) (dpAll_row _ (flatR_waits _ _))) gd.hd, gd.sh, gd.dp, gd.le, ?_⟩
      have R2 := R1.same s2
      refine ⟨_, rfl, _, rfl, c', g', cs', gs', rfl, R2.c, R2.g, p5.2.2.1, by omega, fun q3 H3 _ s3 f3 => ?_⟩
      refine ⟨_, _, rfl, rdb_dp (.lst (SqL.of f3) (dpAll_row _ (flatR_waits _ _))) gd.hd, gd.sh, gd.dp, gd.le, rfl, _, rfl, ?_⟩
      rw [decide_eq_true rfl]
      refine iteF ?_
      have R3 := R2.same s3
      refine ⟨_, rfl, c', _, rfl, .inr R3.c, fun l1 hl1 => ?_⟩
      generalize g4 : upd H3 l1 _ = H4
      obtain ⟨s4, f4⟩ := alloc g4 hl1
      have R4 := R3.same s4
      refine ⟨_, rfl, g', _, rfl, .inr R4.g, fun l2 hl2 => ?_⟩
      generalize g5 : upd H4 l2 _ = H5
      obtain ⟨s5, f5⟩ := alloc g5 hl2
      refine ⟨(by show 2 ≤ sizeLine; decide), fun t6 ht6 => ?_⟩
      generalize g6 : upd H5 t6 _ = H6
      obtain ⟨s6, f6⟩ := alloc g6 ht6
      have fa := s6 _ _ (s5 _ _ f4)
      have fb := s6 _ _ f5
      have lc : cs'.length ≤ 24 := by omega
      have lg : gs'.length ≤ 24 := by have := p5.2.2.1; omega
      have th6 : ThIn K H6 (.ref t6) (twoOf (cs', gs')) := by
        refine .two (SqT.of f6) (.seq (.inl (SqL.of fa)) (ints_flat cs') (by rw [List.length_map]; show cs'.length ≤ 1001; omega)) (.seq (.inl (SqL.of fb)) (ints_flat gs') (by rw [List.length_map]; show gs'.length ≤ 1001; omega)) fun xs ys e1 e2 => ⟨l1, l2, rfl, rfl, ?_⟩
        cases e1
        cases e2
        exact .inl ⟨SqL.of fa, SqL.of fb⟩
      refine ⟨.ref t6, _, rfl, th6, fun cs2 gs2 e2 _ q7 H7 _ s7 f7 => ?_, fun z => absurd R1.ok z⟩
      obtain ⟨rfl, rfl⟩ := two_inj e2
      have R7 := R4.same (Same.trans s5 (Same.trans s6 s7))
      refine ⟨_, rfl, .ref r, _, rfl, R7.th, fun cs3 gs3 e3 _ q8 H8 _ s8 f8 => ?_, fun z => absurd R1.ok z⟩
      obtain ⟨rfl, rfl⟩ := two_inj e3
      have sF : Same H1 H8 := Same.trans s2 (Same.trans s3 (Same.trans s4 (Same.trans s5 (Same.trans s6 (Same.trans s7 s8)))))
      refine ⟨_, _, .lst (SqL.of (s8 _ _ f7)) (dpAll_row _ (flatR_waits _ _)), .lst (SqL.of f8) (dpAll_row _ (flatR_waits _ _)), shaped_row _, shaped_row _, _, rfl, ?_⟩
      rw [eqv_self (flatR_waits _ _)]
      exact iteF ⟨rfl, D1.same sF, Tabs.same T1 sF, R1.same sF⟩
    clear D1 T1 R1
    rintro σ H1 ⟨rfl, D1, T1, R1⟩
    -- things near the run
    refine ⟨fun σ H' => ∃ v7 v8, σ = stL a d (some tn) (some (.int n)) (some (.ref c')) (some (.ref g')) (some (.ref r)) v7 v8 v9 v10 v11 v12 v13 v14 v15 v16 ∧ DrawAt H' d l e ∧ Tabs [(tb, lamQ)] H' ∧ RunD K H' r c' g' cs gs n, ?_, ?_⟩
    · refine ⟨_, rfl, _, rfl, d, l, e, r, g', c', cs, gs, rfl, D1, R1.t, R1.c, R1.g, p5, by omega, fun q xs H2 D2 k2 f2 lx tx => ?_⟩
      have T2 := Tabs.keepD D1 T1 k2
      have R2 := R1.keepD D1 k2
      refine ⟨q, rfl, ⟨_, SqL.of f2⟩, for_list (K := K) (a := q) (xs := xs) (fun i σ H3 => ∃ v7 v8, σ = stL a d (some tn) (some (.int n)) (some (.ref c')) (some (.ref g')) (some (.ref r)) v7 v8 v9 v10 v11 v12 v13 v14 v15 v16 ∧ Tabs [(tb, lamQ)] H3 ∧ ExtN H2 H3) ⟨_, _, rfl, T2, ExtN.refl _⟩ (fun i σ H3 _ ⟨_, _, _, _, x3⟩ => SqL.extN (SqL.of f2) x3) ?_ ?_⟩
      rotate_left
      · rintro σ H3 ⟨v7, v8, rfl, T3, x3⟩
        exact ⟨_, _, rfl, D2.extN x3, T3, R2.extN x3⟩
      rintro i x σ H3 hx ⟨v7, v8, rfl, T3, x3⟩
      obtain ⟨o, th⟩ := tx x (List.mem_of_getElem? hx)
      refine ⟨_, rfl, x, o, rfl, ThIn.extN th x3, fun b1 H4 s4 i1 => ⟨_, rfl, x, o, rfl, (ThIn.extN th x3).same s4, fun b2 H5 s5 i2 => ⟨b1, b2, rfl, decide (b1 = b2), rfl, ?_⟩⟩⟩
      have eb : b1 = b2 := by
        cases b1 with
        | true => exact (i2.mpr (i1.mp rfl)).symm
        | false =>
          cases b2 with
          | false => rfl
          | true => exact absurd (i1.mpr (i2.mp rfl)) Bool.false_ne_true
      rw [decide_eq_true eb]
      refine iteF ?_
      have x5 : ExtN H2 H5 := x3.trans (ExtN.of_same (Same.trans s4 s5))
      have T5 := Tabs.same T3 (Same.trans s4 s5)
      -- the first one told
      refine ⟨fun σ H' => ∃ t v, σ = stL a d (some tn) (some (.int n)) (some (.ref c')) (some (.ref g')) (some (.ref r)) (some x) (some (.ref t)) v9 v10 v11 v12 v13 v14 v15 v16 ∧ H' t = some (.lst [v]) ∧ Told H' CR (RunOk o) v ∧ ExtN H2 (rem H' t) ∧ Tabs [(tb, lamQ)] H', ?_, ?_⟩
      · refine ⟨T5, fun H6 x6 T6 => ⟨_, rfl, x, o, rfl, ThIn.extN th (x5.trans x6), fun cs' gs' e1 rp p7 H7 s7 f7 => ⟨_, rfl, (by show 1 ≤ sizeLine; decide), fun t8 h8 => ?_⟩, fun nr H7 s7 => ⟨ER.ex, fun ad ha => ⟨(by show 1 ≤ sizeLine; decide), fun t8 h8 => ?_⟩⟩⟩⟩
        · generalize g8 : upd H7 t8 _ = H8
          obtain ⟨s8, f8⟩ := alloc g8 h8
          exact ⟨t8, .non, rfl, f8, .inl ⟨rfl, cs', gs', e1, rp⟩, extN_new (x5.trans (x6.trans (ExtN.of_same s7))) h8 (ExtN.of_same s8), Tabs.same (Tabs.same T6 s7) s8⟩
        · generalize g7 : upd H7 ad _ = H7' at h8 ⊢
          obtain ⟨s7', f7'⟩ := alloc g7 ha
          generalize g8 : upd H7' t8 _ = H8
          obtain ⟨s8, f8⟩ := alloc g8 h8
          exact ⟨t8, .ref ad, rfl, f8, .inr ⟨ad, rfl, s8 _ _ f7', nr⟩, extN_new (x5.trans (x6.trans (ExtN.of_same (Same.trans s7 s7')))) h8 (ExtN.of_same s8), Tabs.same (Tabs.same T6 (Same.trans s7 s7')) s8⟩
      clear i1 i2 s4 s5 x5 T5 T3 x3
      rintro σ H3 ⟨t, v, rfl, ft, tv, x3, T3⟩
      -- the other one
      refine ⟨fun σ H' => ∃ t v u, σ = stL a d (some tn) (some (.int n)) (some (.ref c')) (some (.ref g')) (some (.ref r)) (some x) (some (.ref t)) v9 v10 v11 v12 v13 v14 v15 v16 ∧ H' t = some (.lst [v, u]) ∧ Told H' CR (RunOk o) v ∧ Told H' CR (RunOk o) u ∧ ExtN H2 H' ∧ Tabs [(tb, lamQ)] H', ?_, ?_⟩
      · have x3' : ExtN H2 H3 := x3.trans (ExtN.of_same (rem_sub H3 t))
        refine ⟨_, rfl, .inl ⟨rfl, _, SqL.of ft⟩, T3, fun H6 x6 T6 => ⟨_, rfl, x, o, rfl, ThIn.extN th (x3'.trans x6), fun cs' gs' e1 rp p7 H7 _ s7 f7 => ⟨_, rfl, ?_⟩, fun nr H7 s7 => ⟨ER.ex, fun ad ha => ?_⟩⟩⟩
        · have ft7 : H7 t = some (.lst [v]) := s7 _ _ (x6 _ _ ft fun _ z => by cases z)
          refine ⟨t, _, _, rfl, rfl, ft7, (by show 1 < sizeLine; decide), t, v, .non, rfl, upd_same, (((tv.extN x6).same s7).upd ft7), .inl ⟨rfl, cs', gs', e1, rp⟩, ?_, tabs_put (Tabs.same T6 s7) ft7⟩
          exact extN_put (extN_rem x3 (x6.trans (ExtN.of_same s7)))
        · generalize g7 : upd H7 ad _ = H8
          obtain ⟨s8, f8⟩ := alloc g7 ha
          have x8 : ExtN H3 H8 := x6.trans (ExtN.of_same (Same.trans s7 s8))
          have ft8 : H8 t = some (.lst [v]) := x8 _ _ ft fun _ z => by cases z
          have ta : Told H8 CR (RunOk o) (.ref ad) := .inr ⟨ad, rfl, f8, nr⟩
          exact ⟨t, _, _, rfl, rfl, ft8, (by show 1 < sizeLine; decide), t, v, .ref ad, rfl, upd_same, (tv.extN x8).upd ft8, ta.upd ft8, extN_put (extN_rem x3 x8), tabs_put (Tabs.same (Tabs.same T6 s7) s8) ft8⟩
      clear tv x3 T3 ft
      rintro σ H3 ⟨t, v, u, rfl, ft, tv, tu, x3, T3⟩
      refine ⟨_, rfl, t, rfl, ⟨_, SqL.of ft⟩, fun D hD => lc_list (K := K) (a := t) (xs := [v, u]) (fun i H4 => H4 D = some (.lst (([] : List Int).map V.int)) ∧ Same H3 H4) ⟨upd_same, same_new hD⟩ (fun i H4 _ ⟨_, s4⟩ => SqL.of (s4 _ _ ft)) ?_ ?_⟩
      · rintro j y H4 hy ⟨hd, s4⟩
        have ty : Told H4 CR (RunOk o) y := by
          match j, hy with
          | 0, hy => cases hy; exact tv.same s4
          | 1, hy => cases hy; exact tu.same s4
        refine ⟨rfl, _, rfl, told_is ER ty fun b ib => ⟨_, rfl, x, o, rfl, ThIn.extN th (x3.trans (ExtN.of_same s4)), fun b2 H5 s5 i2 => ⟨rfl, decide (V.bl b = V.bl b2), rfl, ?_⟩⟩⟩
        have ne : V.bl b ≠ V.bl b2 := fun z => by
          cases z
          cases b with
          | true => exact ib.mp rfl (i2.mp rfl)
          | false => exact Bool.false_ne_true (ib.mpr fun z => Bool.false_ne_true (i2.mpr z))
        rw [decide_eq_false ne]
        exact iteF ⟨s5 _ _ hd, Same.trans s4 s5⟩
      · rintro H4 ⟨hd, s4⟩
        refine ⟨by decide, fun q2 hq2 => ?_⟩
        generalize g5 : upd H4 q2 _ = H5
        obtain ⟨s5, f5⟩ := alloc g5 hq2
        refine ne_nil (SqL.of (s5 _ _ hd)) f5 ⟨_, rfl, iteF ⟨_, _, rfl, Tabs.same T3 (Same.trans s4 s5), x3.trans (ExtN.of_same (Same.trans s4 s5))⟩⟩
    clear D1 T1 R1
    rintro σ H1 ⟨v7, v8, rfl, D1, T1, R1⟩
    -- others
    refine ⟨fun σ H' => ∃ t, σ = stL a d (some tn) (some (.int n)) (some (.ref c')) (some (.ref g')) (some (.ref r)) v7 v8 (some (.ref t)) v10 v11 v12 v13 v14 v15 v16 ∧ DrawAt H' d l e ∧ Tabs [(tb, lamQ)] H' ∧ RunD K H' r c' g' cs gs n ∧ H' t = some (.lst ([r].map V.ref)) ∧ t ≠ d ∧ t ≠ l ∧ t ≠ e, ?_, ?_⟩
    · refine ⟨_, rfl, (by show 1 ≤ sizeLine; decide), fun t ht => ?_⟩
      generalize g2 : upd H1 t _ = H2
      obtain ⟨s2, f2⟩ := alloc g2 ht
      exact ⟨t, rfl, D1.same s2, Tabs.same T1 s2, R1.same s2, f2, D1.nd ht, D1.nl ht, D1.nc ht⟩
    clear D1 T1 R1
    rintro σ H1 ⟨t, rfl, D1, T1, R1, ht1, td, tl, te⟩
    refine ⟨fun σ H' => ∃ v10 v11 ps rs, σ = stL a d (some tn) (some (.int n)) (some (.ref c')) (some (.ref g')) (some (.ref r)) v7 v8 (some (.ref t)) v10 v11 v12 v13 v14 v15 v16 ∧ DrawAt H' d l e ∧ Tabs [(tb, lamQ)] H' ∧ RunD K H' r c' g' cs gs n ∧ H' t = some (.lst (ps.map V.ref)) ∧ RunsD K H' ps rs n ∧ 1 ≤ rs.length ∧ rs.length ≤ 8, ?_, ?_⟩
    · refine ⟨_, rfl, d, l, e, _, rfl, D1, by decide, by decide, fun m H2 m0 m1 D2 k2 => ⟨m, rfl, by omega, by omega, for_range (lo := 0) (n := m.toNat) (fun i σ H3 => ∃ v10 v11 ps rs, σ = stL a d (some tn) (some (.int n)) (some (.ref c')) (some (.ref g')) (some (.ref r)) v7 v8 (some (.ref t)) v10 v11 v12 v13 v14 v15 v16 ∧ DrawAt H3 d l e ∧ Tabs [(tb, lamQ)] H3 ∧ RunD K H3 r c' g' cs gs n ∧ H3 t = some (.lst (ps.map V.ref)) ∧ RunsD K H3 ps rs n ∧ rs.length = i + 1) ?_ ?_ ?_⟩⟩
      · refine ⟨_, _, [r], [(cs, gs)], rfl, D2, Tabs.keepD D1 T1 k2, R1.keepD D1 k2, k2 _ _ ht1 td tl, ⟨rfl, fun i p q e1 e2 => ?_⟩, rfl⟩
        match i, e1, e2 with
        | 0, e1, e2 =>
          cases e1
          cases e2
          exact ⟨c', g', R1.keepD D1 k2⟩
      · rintro i σ H3 hi ⟨w10, w11, ps, rs, rfl, D3, T3, R3, ht3, S3, l3⟩
        refine ⟨_, rfl, _, rfl, d, l, e, n, 3, rfl, D3, n0, n1, by decide, by decide, fun c2 cs2 H4 a4 l4 w4 D4 k4 f4 => ?_⟩
        have T4 := Tabs.keepD D3 T3 k4
        have ht4 := k4 _ _ ht3 td tl
        refine ⟨_, rfl, .inl ⟨rfl, _, SqL.of ht4⟩, _, rfl, _, rfl, _, rfl, (by show 1 ≤ sizeLine; decide), fun z hz => ?_⟩
        generalize g5 : upd H4 z _ = H5
        obtain ⟨s5, f5⟩ := alloc g5 hz
        refine ⟨_, rfl, z, n, [.int 0], rfl, rfl, SqT.of f5, by simp, by omega, by omega, by decide, fun z2 H6 hz2 s6 => ?_⟩
        have ez : (List.replicate ((n : Int)).toNat [V.int 0]).flatten = (List.replicate n (0 : Int)).map V.int := by
          rw [Int.toNat_natCast]
          simp
        rw [ez] at hz2
        have s46 := Same.trans s5 s6
        have D6 := D4.same s46
        refine ⟨d, l, e, c2, z2, n, cs2, rfl, D6, SqT.of (s46 _ _ f4), a4, w4, l4, n1, hz2, fun g2 gs2 H7 p7 w7 D7 k7 f7 => ⟨(by show 2 ≤ sizeLine; decide), fun p8 h8 => ?_⟩⟩
        generalize g8 : upd H7 p8 _ = H8
        obtain ⟨s8, f8⟩ := alloc g8 h8
        have k48 : KeepD H4 H8 d l := (Same.keepD d l s46).trans (k7.trans (Same.keepD d l s8))
        have k38 := k4.trans k48
        have ht8 := k38 _ _ ht3 td tl
        have lp : ps.length = i + 1 := by rw [S3.1, l3]
        have R8 : RunD K H8 p8 c2 g2 cs2 gs2 n := ⟨SqT.of f8, keepT D4 k48 (SqT.of f4), SqT.of (s8 _ _ f7), p7, w4, w7, l4, n0, n1⟩
        refine ⟨t, _, _, rfl, rfl, ht8, by rw [List.length_map]; exact small1000 (by omega), _, _, ps ++ [p8], rs ++ [(cs2, gs2)], rfl, (D7.same s8).put td tl te, tabs_put (Tabs.same (Tabs.keepD D6 (Tabs.same T4 s46) k7) s8) ht8, (R3.keepD D3 k38).put ht8, ?_, ((S3.map fun _ _ _ _ q => q.keepD D3 k38).snoc R8).map fun _ _ _ _ q => q.put ht8, by rw [List.length_append, l3]; rfl⟩
        rw [List.map_append]
        exact upd_same
      · rintro σ H3 ⟨w10, w11, ps, rs, rfl, D3, T3, R3, ht3, S3, l3⟩
        exact ⟨_, _, ps, rs, rfl, D3, T3, R3, ht3, S3, by omega, by omega⟩
    clear D1 T1 R1 ht1
    rintro σ H1 ⟨w10, w11, ps, rs, rfl, D1, T1, R1, ht1, S1, r1, r8⟩
    -- bundle_here
    refine ⟨fun σ H' => ∃ b, σ = stL a d (some tn) (some (.int n)) (some (.ref c')) (some (.ref g')) (some (.ref r)) v7 v8 (some (.ref t)) w10 w11 (some (.ref b)) v13 v14 v15 v16 ∧ DrawAt H' d l e ∧ Tabs [(tb, lamQ)] H' ∧ RunD K H' r c' g' cs gs n ∧ H' t = some (.lst (ps.map V.ref)) ∧ RunsD K H' ps rs n ∧ SqT K H' b (ps.map V.ref), ?_, ?_⟩
    · refine ⟨_, rfl, t, _, rfl, .inl ⟨SqL.of ht1, fun b hb => ?_⟩⟩
      generalize g2 : upd H1 b _ = H2
      obtain ⟨s2, f2⟩ := alloc g2 hb
      exact ⟨b, rfl, D1.same s2, Tabs.same T1 s2, R1.same s2, s2 _ _ ht1, S1.same s2, SqT.of f2⟩
    clear D1 T1 R1 ht1 S1
    rintro σ H1 ⟨b, rfl, D1, T1, R1, ht1, S1, B1⟩
    -- due
    refine ⟨fun σ H' => ∃ q pa pb, σ = stL a d (some tn) (some (.int n)) (some (.ref c')) (some (.ref g')) (some (.ref r)) v7 v8 (some (.ref t)) w10 w11 (some (.ref b)) (some (.ref q)) v14 v15 v16 ∧ DrawAt H' d l e ∧ Tabs [(tb, lamQ)] H' ∧ RunD K H' r c' g' cs gs n ∧ H' t = some (.lst (ps.map V.ref)) ∧ RunsD K H' ps rs n ∧ SqT K H' b (ps.map V.ref) ∧
        H' q = some (.tup [.ref pa, .ref pb]) ∧ H' pa = some (.tup ((colSums (rs.map Prod.fst) n).map V.int)) ∧ H' pb = some (.tup ((colSums (rs.map Prod.snd) n).map V.int)), ?_, ?_⟩
    · obtain ⟨ca, ga, lca, lga, rr⟩ := runs_rows S1
      have lps := S1.1
      have rowC : ∀ H', Same H1 H' → RowsAt K H' ca (rs.map Prod.fst) n := fun H' s => ⟨by rw [List.length_map]; omega, fun i x m hx hm => by
        rw [List.getElem?_map] at hm
        cases er : rs[i]? with
        | none => rw [er] at hm; cases hm
        | some q =>
          rw [er] at hm
          cases hm
          have il := (List.getElem?_eq_some_iff.mp er).1
          obtain ⟨c2, g2, e1, e2, R⟩ := rr i _ q (List.getElem?_eq_getElem (by omega)) er
          rw [hx] at e1
          cases e1
          exact ⟨.inr (seqT s R.c), R.l⟩⟩
      have rowG : ∀ H', Same H1 H' → RowsAt K H' ga (rs.map Prod.snd) n := fun H' s => ⟨by rw [List.length_map]; omega, fun i x m hx hm => by
        rw [List.getElem?_map] at hm
        cases er : rs[i]? with
        | none => rw [er] at hm; cases hm
        | some q =>
          rw [er] at hm
          cases hm
          have il := (List.getElem?_eq_some_iff.mp er).1
          obtain ⟨c2, g2, e1, e2, R⟩ := rr i _ q (List.getElem?_eq_getElem (by omega)) er
          rw [hx] at e2
          cases e2
          exact ⟨.inr (seqT s R.g), R.g1⟩⟩
      refine ⟨_, rfl, t, rfl, ⟨_, SqL.of ht1⟩, fun D hD => lc_list (K := K) (a := t) (xs := ps.map V.ref) (fun i H2 => H2 D = some (.lst ((ca.take i).map V.ref)) ∧ Same H1 H2) ⟨upd_same, same_new hD⟩ (fun i H2 _ ⟨_, s2⟩ => SqL.of (s2 _ _ ht1)) ?_ ?_⟩
      · rintro i x H2 hx ⟨hd, s2⟩
        rw [List.getElem?_map] at hx
        cases eb : ps[i]? with
        | none => rw [eb] at hx; cases hx
        | some p =>
          rw [eb] at hx
          cases hx
          have il := (List.getElem?_eq_some_iff.mp eb).1
          obtain ⟨c2, g2, e1, e2, R⟩ := rr i p _ eb (List.getElem?_eq_getElem (by omega))
          refine ⟨rfl, _, rfl, p, _, _, _, rfl, rfl, seqT s2 R.t, atI_nat (j := 0) rfl, _, hd, ?_, ?_, fun b o e => by rw [upd_ne (ne_of_none e hD)]; exact s2 b o e⟩
          · rw [List.length_map, List.length_take]
            exact small1000' (by omega)
          · rw [take_snoc e1, List.map_append]
            exact upd_same
      rintro H2 ⟨hd, s2⟩
      have e1 := List.take_length (l := ca)
      rw [show (ps.map V.ref).length = ca.length by rw [List.length_map]; omega, e1] at hd
      refine ⟨D, ca, rs.map Prod.fst, n, rfl, SqL.of hd, rowC _ s2, by rw [List.length_map]; omega, by rw [List.length_map]; omega, by omega, fun pa H3 _ s3 hpa => ?_⟩
      have s13 := Same.trans s2 s3
      refine ⟨_, rfl, t, rfl, ⟨_, SqL.of (s13 _ _ ht1)⟩, fun D2 hD2 => lc_list (K := K) (a := t) (xs := ps.map V.ref) (fun i H4 => H4 D2 = some (.lst ((ga.take i).map V.ref)) ∧ Same H3 H4) ⟨upd_same, same_new hD2⟩ (fun i H4 _ ⟨_, s4⟩ => SqL.of (s4 _ _ (s13 _ _ ht1))) ?_ ?_⟩
      · rintro i x H4 hx ⟨hd, s4⟩
        rw [List.getElem?_map] at hx
        cases eb : ps[i]? with
        | none => rw [eb] at hx; cases hx
        | some p =>
          rw [eb] at hx
          cases hx
          have il := (List.getElem?_eq_some_iff.mp eb).1
          obtain ⟨c2, g2, e1, e2, R⟩ := rr i p _ eb (List.getElem?_eq_getElem (by omega))
          refine ⟨rfl, _, rfl, p, _, _, _, rfl, rfl, seqT (Same.trans s13 s4) R.t, atI_nat (j := 1) rfl, _, hd, ?_, ?_, fun b o e => by rw [upd_ne (ne_of_none e hD2)]; exact s4 b o e⟩
          · rw [List.length_map, List.length_take]
            exact small1000' (by omega)
          · rw [take_snoc e2, List.map_append]
            exact upd_same
      rintro H4 ⟨hd4, s4⟩
      have e2 := List.take_length (l := ga)
      rw [show (ps.map V.ref).length = ga.length by rw [List.length_map]; omega, e2] at hd4
      have s14 := Same.trans s13 s4
      refine ⟨D2, ga, rs.map Prod.snd, n, rfl, SqL.of hd4, rowG _ s14, by rw [List.length_map]; omega, by rw [List.length_map]; omega, by omega, fun pb H5 _ s5 hpb => ⟨(by show 2 ≤ sizeLine; decide), fun q hq => ?_⟩⟩
      generalize g6 : upd H5 q _ = H6
      obtain ⟨s6, f6⟩ := alloc g6 hq
      have sF : Same H1 H6 := Same.trans s14 (Same.trans s5 s6)
      exact ⟨q, pa, pb, rfl, D1.same sF, Tabs.same T1 sF, R1.same sF, sF _ _ ht1, S1.same sF, seqT sF B1, f6, s6 _ _ (s5 _ _ (s4 _ _ hpa)), s6 _ _ hpb⟩
    clear D1 T1 R1 ht1 S1 B1
    rintro σ H1 ⟨q, pa, pb, rfl, D1, T1, R1, ht1, S1, B1, hq1, ha1, hb1⟩
    -- the bundle
    refine ⟨fun σ H' => σ = stL a d (some tn) (some (.int n)) (some (.ref c')) (some (.ref g')) (some (.ref r)) v7 v8 (some (.ref t)) w10 w11 (some (.ref b)) (some (.ref q)) v14 v15 v16 ∧ DrawAt H' d l e ∧ Tabs [(tb, lamQ)] H' ∧ RunD K H' r c' g' cs gs n ∧ H' t = some (.lst (ps.map V.ref)) ∧ RunsD K H' ps rs n ∧ SqT K H' b (ps.map V.ref), ?_, ?_⟩
    · have okB := S1.ok r1 r8
      have bI : ∀ H', Same H1 H' → BunIn K H' (.ref b) (some (rs.map twoOf)) := fun H' s => .tup (seqT s B1) (S1.same s).th (by rw [List.length_map, S1.1]; omega)
      have gd : GoodD (.tuple [.tuple (((colSums (rs.map Prod.fst) n).map V.int).map vD), .tuple (((colSums (rs.map Prod.snd) n).map V.int).map vD)]) :=
        good_two (smallV_of (small_sums S1.within.1 (by rw [List.length_map]; exact r8))) (by rw [List.length_map, colSums_len]; omega) (smallV_of (small_sums S1.within.2 (by rw [List.length_map]; exact r8))) (by rw [List.length_map, colSums_len]; omega)
      refine ⟨_, rfl, .ref b, _, rfl, bI _ (Same.refl _), fun b1 H2 s2 ib => ?_⟩
      cases (ib.mpr okB : b1 = true)
      refine ⟨_, _, rfl, rfl, _, rfl, iteF ?_⟩
      refine ⟨_, rfl, .ref b, _, rfl, bI _ s2, fun rs' n' e1 _ _ hp p3 pa3 pb3 H3 s3 f3 fa3 fb3 => ?_, fun z => absurd okB z⟩
      cases twos_inj (Option.some.inj e1)
      have en : n' = n := by
        obtain ⟨x0, hx0⟩ : ∃ x0, rs[0]? = some x0 := ⟨_, List.getElem?_eq_getElem (by omega)⟩
        have m0 := List.mem_of_getElem? hx0
        obtain ⟨p, c2, g2, R⟩ := S1.mem m0
        rw [← (hp _ m0).2, R.l]
      subst en
      refine ⟨_, _, rfl, rdb_dp (.tup (SqT.of f3) (.cons (.tup (SqT.of fa3) (dpAll_row _ (flatR_ints _))) (.cons (.tup (SqT.of fb3) (dpAll_row _ (flatR_ints _))) .nil))) gd.hd, gd.sh, gd.dp, gd.le, ?_⟩
      have sF := Same.trans s2 s3
      refine ⟨_, rfl, _, _, rfl, rdb_dp (.tup (SqT.of (sF _ _ hq1)) (.cons (.tup (SqT.of (sF _ _ ha1)) (dpAll_row _ (flatR_ints _))) (.cons (.tup (SqT.of (sF _ _ hb1)) (dpAll_row _ (flatR_ints _))) .nil))) gd.hd, gd.sh, gd.dp, gd.le, rfl, _, rfl, ?_⟩
      rw [decide_eq_true rfl]
      exact iteF ⟨rfl, D1.same sF, Tabs.same T1 sF, R1.same sF, sF _ _ ht1, S1.same sF, seqT sF B1⟩
    clear D1 T1 R1 ht1 S1 B1 hq1 ha1 hb1
    rintro σ H1 ⟨rfl, D1, T1, R1, ht1, S1, B1⟩
    -- longer
    refine ⟨fun σ H' => ∃ L x1 x2 z1 z2, σ = stL a d (some tn) (some (.int n)) (some (.ref c')) (some (.ref g')) (some (.ref r)) v7 v8 (some (.ref t)) w10 w11 (some (.ref b)) (some (.ref q)) (some (.ref L)) v15 v16 ∧ DrawAt H' d l e ∧ Tabs [(tb, lamQ)] H' ∧ RunD K H' r c' g' cs gs n ∧ H' t = some (.lst (ps.map V.ref)) ∧ RunsD K H' ps rs n ∧ SqT K H' b (ps.map V.ref) ∧
        SqT K H' L [.ref x1, .ref x2] ∧ SqT K H' x1 ((cs ++ [z1]).map V.int) ∧ SqT K H' x2 ((gs ++ [z2]).map V.int), ?_, ?_⟩
    · obtain ⟨z1, hz1⟩ := last_cut (ns := cs) (by omega)
      obtain ⟨z2, hz2⟩ := last_cut (ns := gs) (by have := R1.g1; omega)
      have lc := R1.l
      have lg := R1.g1
      refine ⟨_, rfl, _, rfl, 1, rfl, _, rfl, c', _, rfl, .inr R1.c, fun H2 p2 s2 _ hp2 _ => ?_⟩
      have f2 := hp2 _ R1.c
      rw [hz1] at f2
      have R2 := R1.same s2
      refine ⟨c', p2, _, _, rfl, rfl, R2.c, f2, Nat.le_trans (m := 25) (by rw [List.length_map]; show cs.length + 1 ≤ 25; omega) (by decide), fun p3 H3 s3 f3 => ?_⟩
      have R3 := R2.same s3
      refine ⟨_, rfl, _, rfl, 1, rfl, _, rfl, g', _, rfl, .inr R3.g, fun H4 p4 s4 _ hp4 _ => ?_⟩
      have f4 := hp4 _ R3.g
      rw [hz2] at f4
      have R4 := R3.same s4
      refine ⟨g', p4, _, _, rfl, rfl, R4.g, f4, Nat.le_trans (m := 25) (by rw [List.length_map]; show gs.length + 1 ≤ 25; omega) (by decide), fun p5' H5 s5 f5 => ⟨(by show 2 ≤ sizeLine; decide), fun L hL => ?_⟩⟩
      generalize g6 : upd H5 L _ = H6
      obtain ⟨s6, f6⟩ := alloc g6 hL
      have sF : Same H1 H6 := Same.trans s2 (Same.trans s3 (Same.trans s4 (Same.trans s5 s6)))
      rw [← List.map_append] at f3 f5
      exact ⟨L, p3, p5', z1, z2, rfl, D1.same sF, Tabs.same T1 sF, R1.same sF, sF _ _ ht1, S1.same sF, seqT sF B1, SqT.of f6, seqT (Same.trans s4 (Same.trans s5 s6)) f3, seqT s6 f5⟩
    clear D1 T1 R1 ht1 S1 B1
    rintro σ H1 ⟨L, x1, x2, z1, z2, rfl, D1, T1, R1, ht1, S1, B1, L1, X1, X2⟩
    -- bads
    refine ⟨fun σ H' => ∃ y xs, σ = stL a d (some tn) (some (.int n)) (some (.ref c')) (some (.ref g')) (some (.ref r)) v7 v8 (some (.ref t)) w10 w11 (some (.ref b)) (some (.ref q)) (some (.ref L)) (some (.ref y)) v16 ∧ DrawAt H' d l e ∧ Tabs [(tb, lamQ)] H' ∧ RunD K H' r c' g' cs gs n ∧ H' y = some (.lst xs) ∧ xs.length ≤ 20 ∧ ∀ x ∈ xs, BadB K H' x, ?_, ?_⟩
    · refine ⟨by decide, fun t2 h2 => ?_⟩
      generalize g2 : upd H1 t2 _ = H2
      obtain ⟨s2, f2⟩ := alloc g2 h2
      refine ⟨_, rfl, t, _, rfl, .inl (SqL.of (s2 _ _ ht1)), fun t3 h3 => ?_⟩
      generalize g3 : upd H2 t3 _ = H3
      obtain ⟨s3, f3⟩ := alloc g3 h3
      refine ⟨_, rfl, _, rfl, (by show 1 ≤ sizeLine; decide), fun t4 h4 => ?_⟩
      generalize g4 : upd H3 t4 _ = H4
      obtain ⟨s4, f4⟩ := alloc g4 h4
      have s14 := Same.trans s2 (Same.trans s3 s4)
      have lps := S1.1
      refine ⟨b, t4, _, _, rfl, rfl, seqT s14 B1, SqT.of f4, Nat.le_trans (m := 9) (by rw [List.length_map]; show ps.length + 1 ≤ 9; omega) (by decide), fun p5 H5 s5 f5 => ?_⟩
      refine ⟨_, rfl, (by show 1 ≤ sizeLine; decide), fun t6 h6 => ?_⟩
      generalize g6 : upd H5 t6 _ = H6
      obtain ⟨s6, f6⟩ := alloc g6 h6
      refine ⟨t6, 9, [.ref r], rfl, rfl, SqT.of f6, by simp, by decide, by decide, (by show 1 ≤ 1000; decide), fun p7 H7 f7 s7 => ?_⟩
      refine ⟨_, rfl, _, rfl, (by show 1 ≤ sizeLine; decide), fun t8 h8 => ?_⟩
      generalize g8 : upd H7 t8 _ = H8
      obtain ⟨s8, f8⟩ := alloc g8 h8
      have s18 : Same H1 H8 := Same.trans s14 (Same.trans s5 (Same.trans s6 (Same.trans s7 s8)))
      refine ⟨b, t8, _, _, rfl, rfl, seqT s18 B1, SqT.of f8, Nat.le_trans (m := 9) (by rw [List.length_map]; show ps.length + 1 ≤ 9; omega) (by decide), fun p9 H9 s9 f9 => ?_⟩
      refine ⟨_, rfl, _, rfl, (by show 2 ≤ sizeLine; decide), fun t10 h10 => ?_⟩
      generalize g10 : upd H9 t10 _ = H10
      obtain ⟨s10, f10⟩ := alloc g10 h10
      refine ⟨(by show 9 ≤ sizeLine; decide), fun y hy => ?_⟩
      generalize g11 : upd H10 y _ = H11
      obtain ⟨s11, f11⟩ := alloc g11 hy
      have a10 := s11
      have a9 := Same.trans s10 s11
      have a8 := Same.trans s9 a9
      have a7 := Same.trans s8 a8
      have a6 := Same.trans s7 a7
      have a5 := Same.trans s6 a6
      have a4 := Same.trans s5 a5
      have a3 := Same.trans s4 a4
      have a2 := Same.trans s3 a3
      have sF := Same.trans s2 a2
      have RF := R1.same sF
      have SF := S1.same sF
      have lc := R1.l
      have lg := R1.g1
      have thL : ThIn K H11 (.ref L) (twoOf (cs ++ [z1], gs ++ [z2])) := th2 (seqT sF L1) (seqT sF X1) (seqT sF X2) (by rw [List.length_append]; show cs.length + 1 ≤ 1001; omega) (by rw [List.length_append]; show gs.length + 1 ≤ 1001; omega)
      have ll : (cs ++ [z1]).length = n + 1 := by rw [List.length_append, lc]; rfl
      obtain ⟨x0, hx0⟩ : ∃ x0, rs[0]? = some x0 := ⟨_, List.getElem?_eq_getElem (by omega)⟩
      obtain ⟨_, _, _, RX⟩ := S1.mem (List.mem_of_getElem? hx0)
      refine ⟨y, _, rfl, D1.same sF, Tabs.same T1 sF, RF, f11, (by show 9 ≤ 20; decide), fun x hx => ?_⟩
      simp only [List.mem_cons, List.not_mem_nil, or_false] at hx
      rcases hx with rfl | rfl | rfl | rfl | rfl | rfl | rfl | rfl | rfl
      · exact bad_flat rfl
      · exact bad_flat rfl
      · exact ⟨some [], .tup (SqT.of (a2 _ _ f2)) thAll_nil (by decide), fun ⟨rs, e, l1, _⟩ => by
          have := congrArg List.length (Option.some.inj e)
          rw [List.length_map] at this
          simp at this
          omega⟩
      · exact bad_list (a3 _ _ f3)
      · obtain ⟨o1, h1, no1⟩ := row_th RF.c
        obtain ⟨o2, h2, _⟩ := row_th RF.g
        exact ⟨some [o1, o2], .tup RF.t (thAll_cons h1 (thAll_cons h2 thAll_nil)) (by show 2 ≤ 1001; decide), not_ok_of (i := 0) rfl no1⟩
      · refine ⟨some (rs.map twoOf ++ [none]), .tup (seqT a5 f5) (thAll_app SF.th (thAll_cons (.no (noTup_flat rfl)) thAll_nil)) (by rw [List.length_append, List.length_map]; show ps.length + 1 ≤ 1001; omega), not_ok_of (i := rs.length) (o := none) ?_ fun ⟨_, _, e, _⟩ => by cases e⟩
        rw [List.getElem?_append_right (by rw [List.length_map]; exact Nat.le_refl _), List.length_map, Nat.sub_self]
        rfl
      · refine ⟨some (List.replicate 9 (twoOf (cs, gs))), .tup (seqT a7 f7) (thAll_rep RF.th 9) (by show 9 ≤ 1001; decide), fun ⟨rs, e, _, l8, _⟩ => ?_⟩
        have := congrArg List.length (Option.some.inj e)
        rw [List.length_map, List.length_replicate] at this
        omega
      · refine ⟨some ((rs ++ [(cs ++ [z1], gs ++ [z2])]).map twoOf), .tup (seqT a9 f9) ?_ (by rw [List.length_append, List.length_map]; show ps.length + 1 ≤ 1001; omega), not_ok_len (i := 0) (j := rs.length) (x := x0) (y := (cs ++ [z1], gs ++ [z2])) ?_ ?_ ?_⟩
        · rw [List.map_append]
          exact thAll_app SF.th (thAll_cons thL thAll_nil)
        · rw [List.getElem?_append_left (by omega)]
          exact hx0
        · rw [List.getElem?_append_right (Nat.le_refl _), Nat.sub_self]
          rfl
        · rw [RX.l, ll]
          omega
      · exact ⟨some ([(cs ++ [z1], gs ++ [z2]), (cs, gs)].map twoOf), .tup (SqT.of (a10 _ _ f10)) (thAll_cons thL (thAll_cons RF.th thAll_nil)) (by show 2 ≤ 1001; decide), not_ok_len (i := 0) (j := 1) rfl rfl (by rw [ll]; show n + 1 ≠ cs.length; omega)⟩
    clear D1 T1 R1 ht1 S1 B1 L1 X1 X2
    rintro σ H1 ⟨y, xs, rfl, D1, T1, R1, hy1, lx, bx⟩
    refine ⟨_, rfl, _, rfl, _, rfl, .tuple (gs.map .int), .tuple (cs.map .int), .tup R1.g (dpAll_int gs), .tup R1.c (dpAll_int cs), shaped_tints _, shaped_tints _, _, rfl, ?_⟩
    rw [show PyData.eqv (.tuple (gs.map .int)) (.tuple (cs.map .int)) = decide (gs = cs) by rw [← eqvAll_ints]; simp [PyData.eqv]]
    by_cases ec : gs = cs
    · rw [decide_eq_true ec]
      refine iteF ⟨by decide, fun q2 hq2 => ?_⟩
      generalize g2 : upd H1 q2 _ = H2
      obtain ⟨s2, f2⟩ := alloc g2 hq2
      refine ⟨y, q2, _, _, rfl, rfl, s2 _ _ hy1, f2, Nat.le_trans (m := 20) (by show xs.length + 0 ≤ 20; omega) (by decide), fun y9 h9 => ?_⟩
      generalize g9 : upd H2 y9 _ = H9
      obtain ⟨s9', f9⟩ := alloc g9 h9
      have s9 := Same.trans s2 s9'
      have bz : ∀ x ∈ xs ++ [], BadB K H9 x := fun x hx => by
        rw [List.append_nil] at hx
        exact (bx x hx).same s9
      refine ⟨y9, rfl, ⟨_, SqL.of f9⟩, for_list (K := K) (a := y9) (xs := xs ++ []) (fun i σ H3 => ∃ v16, σ = stL a d (some tn) (some (.int n)) (some (.ref c')) (some (.ref g')) (some (.ref r)) v7 v8 (some (.ref t)) w10 w11 (some (.ref b)) (some (.ref q)) (some (.ref L)) (some (.ref y)) v16 ∧ Tabs [(tb, lamQ)] H3 ∧ ExtN H9 H3) ⟨_, rfl, Tabs.same T1 s9, ExtN.refl _⟩ (fun i σ H3 _ ⟨_, _, _, x3⟩ => SqL.extN (SqL.of f9) x3) ?_ ?_⟩
      · rintro i x σ H3 hx ⟨v16', rfl, T3, x3⟩
        obtain ⟨o, bn, nb⟩ := bz x (List.mem_of_getElem? hx)
        refine ⟨_, rfl, x, o, rfl, BunIn.extN bn x3, fun b1 H4 s4 ib => ?_⟩
        cases b1 with
        | true => exact absurd (ib.mp rfl) nb
        | false =>
          refine ⟨_, _, rfl, rfl, _, rfl, iteF ?_⟩
          have x4 := x3.trans (ExtN.of_same s4)
          refine ⟨Tabs.same T3 s4, fun H5 x5 T5 => ⟨_, rfl, x, o, rfl, BunIn.extN bn (x4.trans x5), fun rs' n' e1 l1 l8 hp => absurd (by rw [e1]; exact ⟨rs', rfl, l1, l8, fun r hr => (hp r hr).1, n', fun r hr => (hp r hr).2⟩) nb, fun _ H6 s6 => ⟨EB.ex, fun ad ha => ?_⟩⟩⟩
          generalize g7 : upd H6 ad _ = H7
          obtain ⟨s7, f7⟩ := alloc g7 ha
          exact .inl ⟨ad, CB, none, .ref CB, .ref CB, true, rfl, .bare f7, .own _, EB.ask, EB.one, true, rfl, iteF ⟨_, rfl, Tabs.same T5 (Same.trans s6 s7), x4.trans (x5.trans (ExtN.of_same (Same.trans s6 s7)))⟩⟩
      · rintro σ H3 ⟨v16', rfl, T3, x3⟩
        exact ⟨_, _, _, _, _, _, _, _, _, _, _, _, _, _, _, rfl, (D1.same s9).extN x3, T3⟩
    · rw [decide_eq_false ec]
      refine iteT ⟨_, rfl, _, rfl, (by show 2 ≤ sizeLine; decide), fun ta ha => ?_⟩
      generalize g2 : upd H1 ta _ = H2
      obtain ⟨s2, f2⟩ := alloc g2 ha
      refine ⟨(by show 1 ≤ sizeLine; decide), fun tb2 hb2 => ?_⟩
      generalize g3 : upd H2 tb2 _ = H3
      obtain ⟨s3, f3⟩ := alloc g3 hb2
      refine ⟨(by show 1 ≤ sizeLine; decide), fun q2 hq2 => ?_⟩
      generalize g4 : upd H3 q2 _ = H4
      obtain ⟨s4, f4⟩ := alloc g4 hq2
      have s14 := Same.trans s2 (Same.trans s3 s4)
      refine ⟨y, q2, _, _, rfl, rfl, s14 _ _ hy1, f4, Nat.le_trans (m := 21) (by show xs.length + 1 ≤ 21; omega) (by decide), fun y9 h9 => ?_⟩
      generalize g9 : upd H4 y9 _ = H9
      obtain ⟨s9', f9⟩ := alloc g9 h9
      have s9 := Same.trans s14 s9'
      have lc := R1.l
      have lg := R1.g1
      have bz : ∀ x ∈ xs ++ [V.ref tb2], BadB K H9 x := fun x hx => by
        rcases List.mem_append.mp hx with hx | hx
        · exact (bx x hx).same s9
        · cases List.mem_singleton.mp hx
          refine ⟨some [twoOf (gs, cs)], .tup (SqT.of (s9' _ _ (s4 _ _ f3))) (thAll_cons (th2 (SqT.of (s9' _ _ (s4 _ _ (s3 _ _ f2)))) (seqT s9 R1.g) (seqT s9 R1.c) (by omega) (by omega)) thAll_nil) (by show 1 ≤ 1001; decide), not_ok_of (i := 0) rfl ?_⟩
          rintro ⟨cs2, gs2, e, rp⟩
          obtain ⟨e1, e2⟩ := two_inj e
          rw [e1, e2] at rp
          exact ec (pair_eq p5 rp)
      refine ⟨y9, rfl, ⟨_, SqL.of f9⟩, for_list (K := K) (a := y9) (xs := xs ++ [V.ref tb2]) (fun i σ H3 => ∃ v16, σ = stL a d (some tn) (some (.int n)) (some (.ref c')) (some (.ref g')) (some (.ref r)) v7 v8 (some (.ref t)) w10 w11 (some (.ref b)) (some (.ref q)) (some (.ref L)) (some (.ref y)) v16 ∧ Tabs [(tb, lamQ)] H3 ∧ ExtN H9 H3) ⟨_, rfl, Tabs.same T1 s9, ExtN.refl _⟩ (fun i σ H3 _ ⟨_, _, _, x3⟩ => SqL.extN (SqL.of f9) x3) ?_ ?_⟩
      · rintro i x σ H3 hx ⟨v16', rfl, T3, x3⟩
        obtain ⟨o, bn, nb⟩ := bz x (List.mem_of_getElem? hx)
        refine ⟨_, rfl, x, o, rfl, BunIn.extN bn x3, fun b1 H4 s4 ib => ?_⟩
        cases b1 with
        | true => exact absurd (ib.mp rfl) nb
        | false =>
          refine ⟨_, _, rfl, rfl, _, rfl, iteF ?_⟩
          have x4 := x3.trans (ExtN.of_same s4)
          refine ⟨Tabs.same T3 s4, fun H5 x5 T5 => ⟨_, rfl, x, o, rfl, BunIn.extN bn (x4.trans x5), fun rs' n' e1 l1 l8 hp => absurd (by rw [e1]; exact ⟨rs', rfl, l1, l8, fun r hr => (hp r hr).1, n', fun r hr => (hp r hr).2⟩) nb, fun _ H6 s6 => ⟨EB.ex, fun ad ha => ?_⟩⟩⟩
          generalize g7 : upd H6 ad _ = H7
          obtain ⟨s7, f7⟩ := alloc g7 ha
          exact .inl ⟨ad, CB, none, .ref CB, .ref CB, true, rfl, .bare f7, .own _, EB.ask, EB.one, true, rfl, iteF ⟨_, rfl, Tabs.same T5 (Same.trans s6 s7), x4.trans (x5.trans (ExtN.of_same (Same.trans s6 s7)))⟩⟩
      · rintro σ H3 ⟨v16', rfl, T3, x3⟩
        exact ⟨_, _, _, _, _, _, _, _, _, _, _, _, _, _, _, rfl, (D1.same s9).extN x3, T3⟩
end
end WW
end

section
set_option Elab.async false
set_option linter.all false
set_option maxRecDepth 100000
set_option maxHeartbeats 0
namespace WK
open PySem L2 WW WT WG WL
def plainX (K : PySem.W.Frag) (C W : Addr) : Bool := PySem.W.excIn K C [.type "ValueError", .type "Exception", .type "BaseException", .type "object"] "ValueError.__new__" && (PySem.W.keepIn K (.ref C) && (decide (PySem.W.subIn K (.ref C) (.type "BaseException") = some true) &&
  (decide (PySem.W.typeIn K (.ref C) = some (.type "type")) && (WH.askX K C && (decide (PySem.W.exmOne K (.ref C) (.ref W) = some true) && (decide (PySem.W.kitOne K (.ref C) (.ref C) = some true) && decide (PySem.W.kitOne K (.type "NoneType") (.ref C) = some false)))))))
theorem plainX_ok {K : PySem.W.Frag} {mg : Str → Option Value} {x : Str} {C W : Addr} (h : plainX K C W = true) (g : mg x = some (.ref C)) : PlainT K mg x C ∧ ErrG K W C := by
  unfold plainX at h
  simp only [Bool.and_eq_true, decide_eq_true_eq] at h
  obtain ⟨h1, h2, h3, h4, h5, h6, h7, h8⟩ := h
  exact ⟨⟨h1, g, h2, h3, h4, WH.askX_ok h5⟩, WH.askX_ok h5, h6, h7, h8⟩
theorem code_of {K : PySem.W.Frag} {x q : Str} {st : Stmt} {fd : FuncData} (F : Fun K x q st (He.ga K x) fd) : fd.code = .ref (WH.ctOf K x).1 := by
  obtain ⟨oc, od, kV, doc, pm, an, cdv, ct, osl, rfl, lk, hcd⟩ := F.ex
  unfold PySem.W.codeIn at hcd
  split at hcd
  · rename_i c
    unfold WH.ctOf WH.coOf
    rw [lk]
  · cases hcd

def csN : List Str := ["WaitError", "BadBundle", "BadRun"]
def msN : List (Str × Str) := []
def fsN : List Str := ["is_number", "is_list", "is_row", "is_run", "need_run", "heaps_of", "run_heaps", "run_waits", "is_bundle", "need_bundle", "added_up", "all_together", "_law_begun", "_law_mixed", "_law_take", "_law_pick", "_law_is_truth", "_law_caught", "_law_wait_list", "_law_row_of", "_law_gone_above", "_law_sums", "_law_near", "_law_is_row", "_law_is_run", "law"]
def lsN : List Str := ["WaitError", "BadBundle", "BadRun", "is_number", "is_list", "MOST_BEATS", "is_row", "MOST_FLOWS", "is_run", "need_run", "heaps_of", "run_heaps", "run_waits", "is_bundle", "need_bundle", "added_up", "all_together", "_law_begun", "_law_mixed", "_law_take", "_law_pick", "_law_is_truth", "_law_caught", "_law_wait_list", "_law_row_of", "_law_gone_above", "_law_sums", "_law_near", "_law_is_row", "_law_is_run"]
def tfN : List Str := ["law"]
def faK : List He.Fa := [.glo "is_number", .glo "is_list", .glo "is_row", .glo "is_run", .glo "need_run", .glo "heaps_of", .glo "run_heaps", .glo "run_waits", .glo "is_bundle", .glo "need_bundle", .glo "added_up", .glo "all_together", .glo "_law_begun", .glo "_law_mixed", .glo "_law_take", .glo "_law_pick", .glo "_law_is_truth", .glo "_law_caught", .glo "_law_wait_list", .glo "_law_row_of", .glo "_law_gone_above", .glo "_law_sums", .glo "_law_near", .glo "_law_is_row", .glo "_law_is_run", .glo "law", .glo "WaitError", .glo "BadBundle", .glo "BadRun", .free "isinstance", .free "int", .free "bool", .free "list", .free "tuple", .free "len", .free "all", .free "zip", .free "enumerate", .free "max", .free "sum", .free "range", .free "abs", .free "repr", .int "MOST_BEATS" 1000, .int "MOST_FLOWS" 8]
def d_num : He.DefD := ⟨("is_number", none), "is_number", "is_number", defArgs sNum, defBody sNum, defScope sNum, [], []⟩
def d_isl : He.DefD := ⟨("is_list", none), "is_list", "is_list", defArgs sIsList, defBody sIsList, defScope sIsList, [], []⟩
def d_irw : He.DefD := ⟨("is_row", none), "is_row", "is_row", defArgs sIsRow, defBody sIsRow, defScope sIsRow, [], []⟩
def d_irn : He.DefD := ⟨("is_run", none), "is_run", "is_run", defArgs sIsRun, defBody sIsRun, defScope sIsRun, [], []⟩
def d_nrn : He.DefD := ⟨("need_run", none), "need_run", "need_run", defArgs sNeedRun, defBody sNeedRun, defScope sNeedRun, [], []⟩
def d_hof : He.DefD := ⟨("heaps_of", none), "heaps_of", "heaps_of", defArgs sHeapsOf, defBody sHeapsOf, defScope sHeapsOf, [], []⟩
def d_hps : He.DefD := ⟨("run_heaps", none), "run_heaps", "run_heaps", defArgs sHeaps, defBody sHeaps, defScope sHeaps, [], []⟩
def d_wts : He.DefD := ⟨("run_waits", none), "run_waits", "run_waits", defArgs sWaits, defBody sWaits, defScope sWaits, [], []⟩
def d_ibu : He.DefD := ⟨("is_bundle", none), "is_bundle", "is_bundle", defArgs sIsBundle, defBody sIsBundle, defScope sIsBundle, [], []⟩
def d_nbu : He.DefD := ⟨("need_bundle", none), "need_bundle", "need_bundle", defArgs sNeedBundle, defBody sNeedBundle, defScope sNeedBundle, [], []⟩
def d_add : He.DefD := ⟨("added_up", none), "added_up", "added_up", defArgs sAdded, defBody sAdded, defScope sAdded, [], []⟩
def d_tog : He.DefD := ⟨("all_together", none), "all_together", "all_together", defArgs sTogether, defBody sTogether, defScope sTogether, [], []⟩
def d_beg : He.DefD := ⟨("_law_begun", none), "_law_begun", "_law_begun", defArgs sBegun, defBody sBegun, defScope sBegun, [], []⟩
def d_mix : He.DefD := ⟨("_law_mixed", none), "_law_mixed", "_law_mixed", defArgs sMixed, defBody sMixed, defScope sMixed, [], []⟩
def d_tak : He.DefD := ⟨("_law_take", none), "_law_take", "_law_take", defArgs sTake, defBody sTake, defScope sTake, [], []⟩
def d_pic : He.DefD := ⟨("_law_pick", none), "_law_pick", "_law_pick", defArgs sPick, defBody sPick, defScope sPick, [], []⟩
def d_tru : He.DefD := ⟨("_law_is_truth", none), "_law_is_truth", "_law_is_truth", defArgs sTruth, defBody sTruth, defScope sTruth, [], []⟩
def d_cau : He.DefD := ⟨("_law_caught", none), "_law_caught", "_law_caught", defArgs sCaught, defBody sCaught, defScope sCaught, [], []⟩
def d_wli : He.DefD := ⟨("_law_wait_list", none), "_law_wait_list", "_law_wait_list", defArgs sWaitList, defBody sWaitList, defScope sWaitList, [], []⟩
def d_row : He.DefD := ⟨("_law_row_of", none), "_law_row_of", "_law_row_of", defArgs sRowOf, defBody sRowOf, defScope sRowOf, [], []⟩
def d_gon : He.DefD := ⟨("_law_gone_above", none), "_law_gone_above", "_law_gone_above", defArgs sGone, defBody sGone, defScope sGone, [], []⟩
def d_sum : He.DefD := ⟨("_law_sums", none), "_law_sums", "_law_sums", defArgs sSums, defBody sSums, defScope sSums, [], []⟩
def d_nea : He.DefD := ⟨("_law_near", none), "_law_near", "_law_near", defArgs sNear, defBody sNear, defScope sNear, [], []⟩
def d_lrw : He.DefD := ⟨("_law_is_row", none), "_law_is_row", "_law_is_row", defArgs sLRow, defBody sLRow, defScope sLRow, [], []⟩
def d_lrn : He.DefD := ⟨("_law_is_run", none), "_law_is_run", "_law_is_run", defArgs sLRun, defBody sLRun, defScope sLRun, [], []⟩
def d_law : He.DefD := ⟨("law", none), "law", "law", defArgs sLaw, defBody sLaw, defScope sLaw, [], []⟩
def fnK : List He.DefD := [d_num, d_isl, d_irw, d_irn, d_nrn, d_hof, d_hps, d_wts, d_ibu, d_nbu, d_add, d_tog, d_beg, d_mix, d_tak, d_pic, d_tru, d_cau, d_wli, d_row, d_gon, d_sum, d_nea, d_lrw, d_lrn, d_law]
def moreB (K : PySem.W.Frag) : Bool := plainX K (He.ga K "BadRun") (He.ga K "WaitError") && (plainX K (He.ga K "BadBundle") (He.ga K "WaitError"))
abbrev R : PySem.W.OpenRow := PySem.W.OpenLaw.row PySem.Challenge.rw_worstwait_k27_runs_and_bundles
abbrev hk : PySem.W.Hook := WH.hookX csN msN fsN tfN faK fnK moreB
def ob (s : PySem.W.SharedT) : He.AlD × Bool := WH.obsX csN msN fsN tfN faK fnK moreB (HandSHeadRun.getT s)
theorem ob_eq (s : PySem.W.SharedT) : ob s = hk.obs s.abs := WH.obsX_eq (HandSHeadRun.getT_eq s)
end WK
end

section
set_option Elab.async false
set_option linter.all false
set_option maxRecDepth 100000
set_option maxHeartbeats 0
namespace WK
open PySem L2 WW WT WG WL
theorem run (w : World) : HandSHeadRun.RunEq R (PySem.W.view R.prog [35]) hk ob 10000 lsN w := by
  intro os
  kernel_rfl
end WK
end

section
set_option Elab.async false
set_option linter.all false
set_option maxRecDepth 100000
set_option maxHeartbeats 0
namespace WK
open PySem L2 WW WT WG WL
theorem facts {l : PySem.W.OpenLaw} {w : World} {h : Heap} {K : PySem.W.Frag} {mg : Str → Option Value} {fa : Addr} (X : K.In h) (G : h.Ns mainGlobals mg) (hfa : mg "law" = some (.ref fa)) (c : He.SaysD faK fnK K) (hB : moreB K = true) (hT : WH.TabsIn h tfN K) :
    WH.LawAt l w 9 63 "script" mg fa h := by
  obtain ⟨g_num, D_num⟩ := c.def_ 0 (d := d_num) rfl
  have F_num := WH.fun_of (st := sNum) D_num
  have b_num : Binds K g_num ["thing"] [] := F_num.binds fun _ _ _ _ _ _ us hl => match us, hl with | [_], _ => rfl
  have m_num := He.glo_ok X G (c.fact 0 (f := .glo "is_number") rfl)
  obtain ⟨g_isl, D_isl⟩ := c.def_ 1 (d := d_isl) rfl
  have F_isl := WH.fun_of (st := sIsList) D_isl
  have b_isl : Binds K g_isl ["thing"] [] := F_isl.binds fun _ _ _ _ _ _ us hl => match us, hl with | [_], _ => rfl
  have m_isl := He.glo_ok X G (c.fact 1 (f := .glo "is_list") rfl)
  obtain ⟨g_irw, D_irw⟩ := c.def_ 2 (d := d_irw) rfl
  have F_irw := WH.fun_of (st := sIsRow) D_irw
  have b_irw : Binds K g_irw ["thing"] [] := F_irw.binds fun _ _ _ _ _ _ us hl => match us, hl with | [_], _ => rfl
  have m_irw := He.glo_ok X G (c.fact 2 (f := .glo "is_row") rfl)
  obtain ⟨g_irn, D_irn⟩ := c.def_ 3 (d := d_irn) rfl
  have F_irn := WH.fun_of (st := sIsRun) D_irn
  have b_irn : Binds K g_irn ["thing"] [] := F_irn.binds fun _ _ _ _ _ _ us hl => match us, hl with | [_], _ => rfl
  have m_irn := He.glo_ok X G (c.fact 3 (f := .glo "is_run") rfl)
  obtain ⟨g_nrn, D_nrn⟩ := c.def_ 4 (d := d_nrn) rfl
  have F_nrn := WH.fun_of (st := sNeedRun) D_nrn
  have b_nrn : Binds K g_nrn ["thing"] [] := F_nrn.binds fun _ _ _ _ _ _ us hl => match us, hl with | [_], _ => rfl
  have m_nrn := He.glo_ok X G (c.fact 4 (f := .glo "need_run") rfl)
  obtain ⟨g_hof, D_hof⟩ := c.def_ 5 (d := d_hof) rfl
  have F_hof := WH.fun_of (st := sHeapsOf) D_hof
  have b_hof : Binds K g_hof ["run"] [] := F_hof.binds fun _ _ _ _ _ _ us hl => match us, hl with | [_], _ => rfl
  have m_hof := He.glo_ok X G (c.fact 5 (f := .glo "heaps_of") rfl)
  obtain ⟨g_hps, D_hps⟩ := c.def_ 6 (d := d_hps) rfl
  have F_hps := WH.fun_of (st := sHeaps) D_hps
  have b_hps : Binds K g_hps ["run"] [] := F_hps.binds fun _ _ _ _ _ _ us hl => match us, hl with | [_], _ => rfl
  have m_hps := He.glo_ok X G (c.fact 6 (f := .glo "run_heaps") rfl)
  obtain ⟨g_wts, D_wts⟩ := c.def_ 7 (d := d_wts) rfl
  have F_wts := WH.fun_of (st := sWaits) D_wts
  have b_wts : Binds K g_wts ["run"] [] := F_wts.binds fun _ _ _ _ _ _ us hl => match us, hl with | [_], _ => rfl
  have m_wts := He.glo_ok X G (c.fact 7 (f := .glo "run_waits") rfl)
  obtain ⟨g_ibu, D_ibu⟩ := c.def_ 8 (d := d_ibu) rfl
  have F_ibu := WH.fun_of (st := sIsBundle) D_ibu
  have b_ibu : Binds K g_ibu ["thing"] [] := F_ibu.binds fun _ _ _ _ _ _ us hl => match us, hl with | [_], _ => rfl
  have m_ibu := He.glo_ok X G (c.fact 8 (f := .glo "is_bundle") rfl)
  obtain ⟨g_nbu, D_nbu⟩ := c.def_ 9 (d := d_nbu) rfl
  have F_nbu := WH.fun_of (st := sNeedBundle) D_nbu
  have b_nbu : Binds K g_nbu ["thing"] [] := F_nbu.binds fun _ _ _ _ _ _ us hl => match us, hl with | [_], _ => rfl
  have m_nbu := He.glo_ok X G (c.fact 9 (f := .glo "need_bundle") rfl)
  obtain ⟨g_add, D_add⟩ := c.def_ 10 (d := d_add) rfl
  have F_add := WH.fun_of (st := sAdded) D_add
  have b_add : Binds K g_add ["rows"] [] := F_add.binds fun _ _ _ _ _ _ us hl => match us, hl with | [_], _ => rfl
  have m_add := He.glo_ok X G (c.fact 10 (f := .glo "added_up") rfl)
  obtain ⟨g_tog, D_tog⟩ := c.def_ 11 (d := d_tog) rfl
  have F_tog := WH.fun_of (st := sTogether) D_tog
  have b_tog : Binds K g_tog ["bundle"] [] := F_tog.binds fun _ _ _ _ _ _ us hl => match us, hl with | [_], _ => rfl
  have m_tog := He.glo_ok X G (c.fact 11 (f := .glo "all_together") rfl)
  obtain ⟨g_beg, D_beg⟩ := c.def_ 12 (d := d_beg) rfl
  have F_beg := WH.fun_of (st := sBegun) D_beg
  have b_beg : Binds K g_beg ["script"] [] := F_beg.binds fun _ _ _ _ _ _ us hl => match us, hl with | [_], _ => rfl
  have m_beg := He.glo_ok X G (c.fact 12 (f := .glo "_law_begun") rfl)
  obtain ⟨g_mix, D_mix⟩ := c.def_ 13 (d := d_mix) rfl
  have F_mix := WH.fun_of (st := sMixed) D_mix
  have b_mix : Binds K g_mix ["draw"] [] := F_mix.binds fun _ _ _ _ _ _ us hl => match us, hl with | [_], _ => rfl
  have m_mix := He.glo_ok X G (c.fact 13 (f := .glo "_law_mixed") rfl)
  obtain ⟨g_tak, D_tak⟩ := c.def_ 14 (d := d_tak) rfl
  have F_tak := WH.fun_of (st := sTake) D_tak
  have b_tak : Binds K g_tak ["draw", "amount"] [] := F_tak.binds fun _ _ _ _ _ _ us hl => match us, hl with | [_, _], _ => rfl
  have m_tak := He.glo_ok X G (c.fact 14 (f := .glo "_law_take") rfl)
  obtain ⟨g_pic, D_pic⟩ := c.def_ 15 (d := d_pic) rfl
  have F_pic := WH.fun_of (st := sPick) D_pic
  have b_pic : Binds K g_pic ["draw", "some"] [] := F_pic.binds fun _ _ _ _ _ _ us hl => match us, hl with | [_, _], _ => rfl
  have m_pic := He.glo_ok X G (c.fact 15 (f := .glo "_law_pick") rfl)
  obtain ⟨g_tru, D_tru⟩ := c.def_ 16 (d := d_tru) rfl
  have F_tru := WH.fun_of (st := sTruth) D_tru
  have b_tru : Binds K g_tru ["found", "due"] [] := F_tru.binds fun _ _ _ _ _ _ us hl => match us, hl with | [_, _], _ => rfl
  have m_tru := He.glo_ok X G (c.fact 16 (f := .glo "_law_is_truth") rfl)
  obtain ⟨g_cau, D_cau⟩ := c.def_ 17 (d := d_cau) rfl
  have F_cau := WH.fun_of (st := sCaught) D_cau
  have b_cau : Binds K g_cau ["work"] [] := F_cau.binds fun _ _ _ _ _ _ us hl => match us, hl with | [_], _ => rfl
  have m_cau := He.glo_ok X G (c.fact 17 (f := .glo "_law_caught") rfl)
  obtain ⟨g_wli, D_wli⟩ := c.def_ 18 (d := d_wli) rfl
  have F_wli := WH.fun_of (st := sWaitList) D_wli
  have b_wli : Binds K g_wli ["came_here", "gone_here"] [] := F_wli.binds fun _ _ _ _ _ _ us hl => match us, hl with | [_, _], _ => rfl
  have m_wli := He.glo_ok X G (c.fact 18 (f := .glo "_law_wait_list") rfl)
  obtain ⟨g_row, D_row⟩ := c.def_ 19 (d := d_row) rfl
  have F_row := WH.fun_of (st := sRowOf) D_row
  have b_row : Binds K g_row ["draw", "size", "most_here"] [] := F_row.binds fun _ _ _ _ _ _ us hl => match us, hl with | [_, _, _], _ => rfl
  have m_row := He.glo_ok X G (c.fact 19 (f := .glo "_law_row_of") rfl)
  obtain ⟨g_gon, D_gon⟩ := c.def_ 20 (d := d_gon) rfl
  have F_gon := WH.fun_of (st := sGone) D_gon
  have b_gon : Binds K g_gon ["draw", "came_here", "least_here"] [] := F_gon.binds fun _ _ _ _ _ _ us hl => match us, hl with | [_, _, _], _ => rfl
  have m_gon := He.glo_ok X G (c.fact 20 (f := .glo "_law_gone_above") rfl)
  obtain ⟨g_sum, D_sum⟩ := c.def_ 21 (d := d_sum) rfl
  have F_sum := WH.fun_of (st := sSums) D_sum
  have b_sum : Binds K g_sum ["rows"] [] := F_sum.binds fun _ _ _ _ _ _ us hl => match us, hl with | [_], _ => rfl
  have m_sum := He.glo_ok X G (c.fact 21 (f := .glo "_law_sums") rfl)
  obtain ⟨g_nea, D_nea⟩ := c.def_ 22 (d := d_nea) rfl
  have F_nea := WH.fun_of (st := sNear) D_nea
  have b_nea : Binds K g_nea ["draw", "run_here"] [] := F_nea.binds fun _ _ _ _ _ _ us hl => match us, hl with | [_, _], _ => rfl
  have m_nea := He.glo_ok X G (c.fact 22 (f := .glo "_law_near") rfl)
  obtain ⟨g_lrw, D_lrw⟩ := c.def_ 23 (d := d_lrw) rfl
  have F_lrw := WH.fun_of (st := sLRow) D_lrw
  have b_lrw : Binds K g_lrw ["thing"] [] := F_lrw.binds fun _ _ _ _ _ _ us hl => match us, hl with | [_], _ => rfl
  have m_lrw := He.glo_ok X G (c.fact 23 (f := .glo "_law_is_row") rfl)
  obtain ⟨g_lrn, D_lrn⟩ := c.def_ 24 (d := d_lrn) rfl
  have F_lrn := WH.fun_of (st := sLRun) D_lrn
  have b_lrn : Binds K g_lrn ["thing"] [] := F_lrn.binds fun _ _ _ _ _ _ us hl => match us, hl with | [_], _ => rfl
  have m_lrn := He.glo_ok X G (c.fact 24 (f := .glo "_law_is_run") rfl)
  obtain ⟨g_law, D_law⟩ := c.def_ 25 (d := d_law) rfl
  have F_law := WH.fun_of (st := sLaw) D_law
  have b_law : Binds K g_law ["script"] [] := F_law.binds fun _ _ _ _ _ _ us hl => match us, hl with | [_], _ => rfl
  have m_law := He.glo_ok X G (c.fact 25 (f := .glo "law") rfl)
  have m_WaitError := He.glo_ok X G (c.fact 26 (f := .glo "WaitError") rfl)
  have m_BadBundle := He.glo_ok X G (c.fact 27 (f := .glo "BadBundle") rfl)
  have m_BadRun := He.glo_ok X G (c.fact 28 (f := .glo "BadRun") rfl)
  have n_isinstance := He.free_ok X G (c.fact 29 (f := .free "isinstance") rfl)
  have n_int := He.free_ok X G (c.fact 30 (f := .free "int") rfl)
  have n_bool := He.free_ok X G (c.fact 31 (f := .free "bool") rfl)
  have n_list := He.free_ok X G (c.fact 32 (f := .free "list") rfl)
  have n_tuple := He.free_ok X G (c.fact 33 (f := .free "tuple") rfl)
  have n_len := He.free_ok X G (c.fact 34 (f := .free "len") rfl)
  have n_all := He.free_ok X G (c.fact 35 (f := .free "all") rfl)
  have n_zip := He.free_ok X G (c.fact 36 (f := .free "zip") rfl)
  have n_enumerate := He.free_ok X G (c.fact 37 (f := .free "enumerate") rfl)
  have n_max := He.free_ok X G (c.fact 38 (f := .free "max") rfl)
  have n_sum := He.free_ok X G (c.fact 39 (f := .free "sum") rfl)
  have n_range := He.free_ok X G (c.fact 40 (f := .free "range") rfl)
  have n_abs := He.free_ok X G (c.fact 41 (f := .free "abs") rfl)
  have n_repr := He.free_ok X G (c.fact 42 (f := .free "repr") rfl)
  have t_MOST_BEATS := He.int_ok X G (c.fact 43 (f := .int "MOST_BEATS" 1000) rfl)
  have t_MOST_FLOWS := He.int_ok X G (c.fact 44 (f := .int "MOST_FLOWS" 8) rfl)
  have e := hfa.symm.trans m_law
  cases e
  have hB0 := Bool.and_eq_true_iff.mp hB
  have z_R := hB0.1
  have z_B := hB0.2
  have hTf : ∀ p ∈ tfN.map (WH.ctOf K), h.get? p.2 = some WH.tab0 ∧ K.lookup p.2 = none ∧ PySem.W.CodeHd h p.1 p.2 := by
    intro p hp
    obtain ⟨x, hx, rfl⟩ := List.mem_map.mp hp
    exact ⟨hT.emp x hx, hT.out x hx, PySem.W.codeHd_of_K X (hT.hd x hx)⟩
  refine ⟨K, g_law, tfN.map (WH.ctOf K), spLaw K (tfN.map (WH.ctOf K)), X, fun p hp => (hTf p hp).1, fun p hp => (hTf p hp).2.1, fun p hp => (hTf p hp).2.2,
    fun s v => (FunD.bindsA (ps := ["script"]) D_law fun _ _ _ _ _ _ us hl => match us, hl with | [_], _ => rfl) s [v] rfl, fun H a ns hl hH hS => ⟨a, ns, rfl, hS, hl, hH, fun _ => rfl⟩, fun base _ _ TB => ?_⟩
  have T : RunG mg := ⟨n_isinstance, n_int, n_bool, n_list, n_tuple, n_len, n_all, n_zip, n_enumerate, n_max, n_sum, n_range, t_MOST_BEATS, t_MOST_FLOWS⟩
  have PG : PreG mg := ⟨n_abs, n_int, n_len⟩
  have LG : LawG mg := ⟨n_repr⟩
  obtain ⟨PR, ER⟩ := plainX_ok z_R m_BadRun
  obtain ⟨PB, EB⟩ := plainX_ok z_B m_BadBundle
  have o_num := ok_num (P := l.prog) (w := w) (base := base) F_num T
  have o_isl := ok_isList (P := l.prog) (w := w) (base := base) F_isl T
  have o_irw := ok_isRow F_irw T o_isl F_isl.kp b_isl m_isl o_num F_num.kp b_num m_num
  have o_irn := ok_isRun F_irn T o_irw F_irw.kp b_irw m_irw
  have o_nrn := ok_needRun F_nrn PR o_irn F_irn.kp b_irn m_irn
  have o_hof := ok_heapsOf (P := l.prog) (w := w) (base := base) F_hof T
  have o_hps := ok_heaps F_hps o_nrn F_nrn.kp b_nrn m_nrn o_hof F_hof.kp b_hof m_hof
  have o_wts := ok_waits F_wts T o_nrn F_nrn.kp b_nrn m_nrn
  have o_ibu := ok_isBundle F_ibu T o_irn F_irn.kp b_irn m_irn
  have o_nbu := ok_needBundle F_nbu PB o_ibu F_ibu.kp b_ibu m_ibu
  have o_add := ok_added (P := l.prog) (w := w) (base := base) F_add T
  have o_tog := ok_together F_tog o_nbu F_nbu.kp b_nbu m_nbu o_add F_add.kp b_add m_add
  have o_beg := ok_begun (P := l.prog) (w := w) (base := base) F_beg PG
  have o_mix := ok_mixed (P := l.prog) (w := w) (base := base) F_mix PG
  have o_tak := ok_take F_tak PG o_mix F_mix.kp b_mix m_mix
  have o_pic := ok_pick F_pic PG o_tak F_tak.kp b_tak m_tak
  have o_tru := ok_truth (P := l.prog) (w := w) (mg := mg) (base := base) F_tru
  have o_wli := ok_waitList (P := l.prog) (w := w) (base := base) F_wli T
  have o_row := ok_rowOf F_row T o_pic F_pic.kp b_pic m_pic o_tak F_tak.kp b_tak m_tak
  have o_gon := ok_gone F_gon T o_pic F_pic.kp b_pic m_pic o_tak F_tak.kp b_tak m_tak
  have o_sum := ok_sums (P := l.prog) (w := w) (base := base) F_sum T
  have o_nea := ok_near F_nea T o_tak F_tak.kp b_tak m_tak
  have o_lrw := ok_lRow (P := l.prog) (w := w) (base := base) F_lrw T
  have o_lrn := ok_lRun F_lrn T o_lrw F_lrw.kp b_lrw m_lrw
  have qW : KBinds K g_wts ["run"] ["run"] (fun us ws => us ++ ws) (fun vs zs => vs ++ zs) := kb1 F_wts (fun _ _ _ _ _ _ _ => rfl) (fun _ _ _ _ _ _ _ => rfl)
  have qA : KBinds K g_tog ["bundle"] ["bundle"] (fun us ws => us ++ ws) (fun vs zs => vs ++ zs) := kb1 F_tog (fun _ _ _ _ _ _ _ => rfl) (fun _ _ _ _ _ _ _ => rfl)
  have mem : WH.ctOf K "law" ∈ tfN.map (WH.ctOf K) := List.mem_cons_self ..
  exact ok_law F_law (code_of F_law) (TB _ mem) (fun {H} q => q _ mem) T LG ER EB m_WaitError m_BadRun m_BadBundle o_beg F_beg.kp b_beg m_beg o_tak F_tak.kp b_tak m_tak o_row F_row.kp b_row m_row o_gon F_gon.kp b_gon m_gon o_nea F_nea.kp b_nea m_nea
    o_tru F_tru.kp b_tru m_tru o_lrn F_lrn.kp b_lrn m_lrn o_irn F_irn.kp b_irn m_irn o_hps F_hps.kp b_hps m_hps o_wts F_wts.kp b_wts m_wts qW o_wli F_wli.kp b_wli m_wli o_sum F_sum.kp b_sum m_sum o_ibu F_ibu.kp b_ibu m_ibu o_tog F_tog.kp b_tog m_tog qA F_cau b_cau m_cau
end WK
end

section
set_option Elab.async false
open PySem PySem.W PySem.Calls PyProof.Rows
set_option maxRecDepth 100000 in
set_option maxHeartbeats 0 in
theorem PySem.Challenge.cw_worstwait_k27_runs_and_bundles_holds : PySem.Challenge.rw_worstwait_k27_runs_and_bundles.Holds := by
  w_on; o_law
  refine HandSHeadRun.head_any (r := WK.R) (q := view WK.R.prog [35]) (H := WK.hk) (ob := WK.ob) (M := 10000) (loose := WK.lsN) (d := HandSHeadRun.topDef WK.R.prog 35) (kwd := []) WK.ob_eq
    (by kernel_rfl) (fun s => by kernel_rfl) WK.run (by kernel_rfl) (by kernel_rfl) (by kernel_rfl) (by rfl) (by first | assumption | decide +kernel) (by decide +kernel) ⟨rfl, rfl, rfl, rfl, rfl, by decide +kernel⟩ ?hw ?hc
  case hw => w_witness2
  case hc =>
    refine WH.walkT (l := PySem.Challenge.rw_worstwait_k27_runs_and_bundles) (n := 63) (k := 9) (x := "script") rfl (by decide) (by kernel_rfl) ⟨rfl, by decide, by decide⟩ ?F
    intro w mg fa h Y G hmg0
    obtain ⟨K, KX, c, hB, hT⟩ := Y
    have hmg : mg ("law" : PySem.Str) = some (.ref fa) := by
      have e : (HandSHeadRun.topDef WK.R.prog 35).name = ("law" : PySem.Str) := by kernel_rfl
      rw [← e]
      exact hmg0
    exact WK.facts (l := PySem.Challenge.rw_worstwait_k27_runs_and_bundles) (w := w) KX G hmg c hB hT
end
