import PyProof.Rows.All
import Wide.All
import OpenK.AllK
import Wide.FinOn
import HandS.ForMost
import HandS.Wide
import HandS.Codes
import PySem.Challenge.RW_worstwait_k00_errors_of_all_parts
import HandS.ExcOwn
import HandS.ExcValue
import HandS.ExcInit
import HandS.ExcIs
import HandS.ExcField
import HandS.IsInst
import KE.KExcIs
import PyProof.ReprRoads
import HandS.ExcBuiltin
import HandS.Walk
import KE.KStateDown
import HandS.Defaults
import HandS.Head0
import HandS.Head1
import HandS.Head2
import HandS.HeadEnd
import HandS.HeadHook1
import HandS.HeadHook2
section
set_option Elab.async false
set_option linter.all false
set_option maxRecDepth 100000
set_option maxHeartbeats 4000000
namespace WW
open PySem L2
def top (i : Nat) : Stmt := PySem.Challenge.pw_worstwait_k00_errors_of_all_parts.main.body.getD i (.Pass ⟨0, 0, 0, 0⟩)
abbrev sBegun : Stmt := top 44
abbrev sMixed : Stmt := top 45
abbrev sTake : Stmt := top 46
abbrev sPick : Stmt := top 47
/-! ### the draw: a dict of four, with two lists of ints -/
abbrev drawKvs (l c : Addr) (r t : Int) : List (Key × V) := [(Sum.inr "large", .ref l), (Sum.inr "rest", .int r), (Sum.inr "cells", .ref c), (Sum.inr "turn", .int t)]
structure DrawAt (H : Hp) (d l c : Addr) : Prop where
  ob : ∃ r t, H d = some (.dK (drawKvs l c r t))
  la : ∃ large : List Int, H l = some (.lst (large.map V.int)) ∧ large.length ≤ 63
  ce : ∃ cells : List Int, H c = some (.lst (cells.map V.int)) ∧ cells.length ≤ 63
  lc : l ≠ c
/-- all but the draw's dict and its first list stands -/
def KeepD (H H' : Hp) (d l : Addr) : Prop := ∀ b o, H b = some o → b ≠ d → b ≠ l → H' b = some o
theorem KeepD.refl (H : Hp) (d l : Addr) : KeepD H H d l := fun _ _ h _ _ => h
theorem KeepD.trans {H H1 H2 : Hp} {d l : Addr} (a : KeepD H H1 d l) (b : KeepD H1 H2 d l) : KeepD H H2 d l := fun c o h h1 h2 => b c o (a c o h h1 h2) h1 h2
theorem Same.keepD {H H1 : Hp} (d l : Addr) (a : Same H H1) : KeepD H H1 d l := fun c o h _ _ => a c o h
theorem DrawAt.dl {H : Hp} {d l c : Addr} (D : DrawAt H d l c) : d ≠ l := by
  obtain ⟨⟨r, t, h⟩, ⟨la, h2, _⟩, _, _⟩ := D
  exact ne_of h h2 (by intro z; cases z)
theorem DrawAt.dc {H : Hp} {d l c : Addr} (D : DrawAt H d l c) : d ≠ c := by
  obtain ⟨⟨r, t, h⟩, _, ⟨la, h2, _⟩, _⟩ := D
  exact ne_of h h2 (by intro z; cases z)
theorem DrawAt.same {H H' : Hp} {d l c : Addr} (D : DrawAt H d l c) (s : Same H H') : DrawAt H' d l c := by
  obtain ⟨⟨r, t, h⟩, ⟨la, h2, h3⟩, ⟨ce, h4, h5⟩, h6⟩ := D
  exact ⟨⟨r, t, s _ _ h⟩, ⟨la, s _ _ h2, h3⟩, ⟨ce, s _ _ h4, h5⟩, h6⟩
theorem DrawAt.keepF {H H' : Hp} {d l c a : Addr} (D : DrawAt H d l c) (k : KeepD H H' d l) (D' : DrawAt H' d l c) (h : H' a = none) : H a = none := by
  cases q : H a with
  | none => rfl
  | some o =>
    by_cases e1 : a = d
    · subst e1
      obtain ⟨⟨r, t, z⟩, _⟩ := D'
      rw [z] at h
      cases h
    · by_cases e2 : a = l
      · subst e2
        obtain ⟨_, ⟨la, z, _⟩, _⟩ := D'
        rw [z] at h
        cases h
      · rw [k a o q e1 e2] at h
        cases h
/-- the names of the prelude -/
structure PreG (mg : Str → Option Value) : Prop where
  abs : mg "abs" = none
  int : mg "int" = none
  len : mg "len" = none
def spBegun (K : PySem.W.Frag) : Sp := fun vs H Q _ => ∃ (a : Addr) (ns : List Int), vs = [.ref a] ∧ SqL K H a (ns.map V.int) ∧ ns.length ≤ 63 ∧
  ∀ (d l c : Addr) (H' : Hp), H d = none → H l = none → H c = none → DrawAt H' d l c → Same H H' → Q (.ref d) H'
local macro_rules | `(tactic| walk_at "rd") => `(tactic| simp only [tTest, tOp, tUn, tCB, tCons, tNil, tVar, tC, rI, rI0, rU, CPow, CMul, CDivN, tIf, tIfS, tNext, tCall, List.append_nil, rEq, tPar, tDGet, tSeq, sDPut, tLst, tYes, false_or, or_false, reduceCtorEq, and_false, false_and, exists_false, if_true, Bool.false_eq_true, if_false, ite_self, tAsg, gName, tDisp, tPairs, tRet, L2.start, wipe, List.map_cons, List.map_nil, List.length_cons, List.length_nil, List.replicate, List.cons_append, List.nil_append, List.set_cons_zero, List.set_cons_succ,
  List.getElem?_cons_zero, List.getElem?_cons_succ, V.int.injEq, V.bl.injEq, V.str.injEq, V.ref.injEq, Option.some.injEq, exists_eq_left', exists_eq_left, exists_and_left, exists_const, decide_eq_true_eq, true_and, and_true, exists_eq', exists_eq, Nat.reduceSub, Nat.reduceAdd, Int.reduceToNat, Int.reducePow, Int.reduceLE, Int.reduceNeg, Nat.reduceLT, Nat.reducePow, Int.natAbs_cast, Int.reduceLT, Nat.reduceLeDiff, List.cons.injEq])
section
variable {P : Program} {w : World} {K : PySem.W.Frag} {mg : Str → Option Value} {base : Heap}
theorem scBegun : FnScope ["script", "large", "grain"] ["script"] (defScope sBegun) := ⟨rfl, rfl, rfl, by decide +kernel, rfl, by decide +kernel, by decide +kernel⟩
theorem get_map_int {ns : List Int} {i : Nat} {x : V} (h : (ns.map V.int)[i]? = some x) : ∃ z, x = V.int z := by
  rw [List.getElem?_map] at h
  cases e : ns[i]? with
  | none => rw [e] at h; cases h
  | some z => rw [e] at h; exact ⟨z, (Option.some.inj h).symm⟩
theorem snocI (xs : List Int) (z : Int) : ∃ ys : List Int, xs.map V.int ++ [V.int z] = ys.map V.int ∧ ys.length = xs.length + 1 := ⟨xs ++ [z], by rw [List.map_append]; rfl, by rw [List.length_append]; rfl⟩
theorem ok_begun {f : Addr} {fd : FuncData} (F : Fun K "_law_begun" "_law_begun" sBegun f fd) (T : PreG mg) : FnOk P w K mg base CX0 1 f fd ["script"] (spBegun K) := by
  refine F.ok scBegun (fun vs H Q E h => ?_) (fun cdv A outer s H vs Q E hr h => ?_)
  · obtain ⟨a, ns, rfl, _⟩ := h
    rfl
  · obtain ⟨a, ns, rfl, hS, hn, k⟩ := h
    have hu := hu_of hr
    refine ⟨_, pss_cons (ps_setLc (i := 1) (own := [("grain", 2)]) (g := gName 2) rfl scBegun.nd rfl rfl (sw_true rfl rfl rfl (by decide +kernel)) (pi_list (pv 0)) (blkOk_by (N := ["script", "large", "grain"]) (sc := defScope sBegun) (by decide +kernel))
        (fun _ _ _ _ _ => pg_name (i := 2) scBegun.nd rfl (Or.inl rfl))
        (fun _ _ _ _ _ => pts_one (pt_cmpR op_ge (pe_callB call_abs (by rfl) T.abs (by decide +kernel) (pa_cons (pv 2) pa_nil)) (pe_op op_pow pe_int pe_int) (nomark _)))
        (fun _ _ _ _ _ => pe_op op_sub (pe_callB call_abs (by rfl) T.abs (by decide +kernel) (pa_cons (pv 2) pa_nil)) (pe_op op_pow pe_int pe_int)))
      (pss_one (ps_ret (pe_disp (pps_cons pe_str (pv 1) (pps_cons pe_str pe_int (pps_cons pe_str
        (pe_lc (own := [("grain", 2)]) (g := gName 2) (tt := tYes) rfl scBegun.nd (pi_list (pv 0)) (blkOk_by (N := ["script", "large", "grain"]) (sc := defScope sBegun) (by decide +kernel)) (fun _ _ _ _ _ => pg_name (i := 2) scBegun.nd rfl (Or.inl rfl)) (fun _ _ _ _ _ => pts_nil)
          (fun _ _ _ _ _ => pe_callB call_abs (by rfl) T.abs (by decide +kernel) (pa_cons (pv 2) pa_nil)))
        (pps_cons pe_str pe_int pps_nil)))) (by rfl) (by rfl) (fun z => by cases z) (by decide)))), ?_⟩
    refine ⟨_, rfl, a, rfl, ⟨_, hS⟩, fun D hD => lc_list (K := K) (a := a) (xs := ns.map V.int) (fun i H2 => ∃ xs : List Int, H2 D = some (.lst (xs.map V.int)) ∧ xs.length ≤ i ∧ Same H H2) ⟨[], upd_same, Nat.le_refl _, fun b o e => by rw [upd_ne (ne_of_none e hD)]; exact e⟩ (fun i H2 _ ⟨_, _, _, s2⟩ => s2.seq hS) ?_ ?_⟩
    · rintro i x H2 hx ⟨xs, hxs, hxl, s2⟩
      obtain ⟨z, rfl⟩ := get_map_int hx
      have hi : i < ns.length := by
        have q := (List.getElem?_eq_some_iff.mp hx).1
        rwa [List.length_map] at q
      refine ⟨rfl, ?_⟩
      walk_at "rd"
      refine ⟨by decide, ite2 (fun _ => ⟨by decide, ?_⟩) (fun _ => ?_)⟩
      · obtain ⟨ys, e1, e2⟩ := snocI xs ((if z < 0 then -z else z) - 1000000000000000000)
        exact ⟨xs.map V.int, hxs, (by rw [List.length_map]; exact small1000 (by omega)), ys, by rw [e1]; exact upd_same, by omega, fun b o e => by rw [upd_ne (ne_of_none e hD)]; exact s2 b o e⟩
      · exact ⟨xs, hxs, by omega, s2⟩
    · rintro H2 ⟨large, hl, hll, s2⟩
      walk_at "rd"
      intro p hp
      have hDp : D ≠ p := fun e => by rw [e, hp] at hl; cases hl
      have s3 : Same H (upd H2 p (.dK [])) := fun b o e => by rw [upd_ne (ne_of_none (s2 _ _ e) hp)]; exact s2 _ _ e
      refine ⟨_, rfl, a, rfl, ⟨_, s3.seq hS⟩, fun c hc => lc_list (K := K) (a := a) (xs := ns.map V.int) (fun i H3 => ∃ xs : List Int, H3 c = some (.lst (xs.map V.int)) ∧ xs.length ≤ i ∧ Same (upd H2 p (.dK [])) H3) ⟨[], upd_same, Nat.le_refl _, fun b o e => by rw [upd_ne (ne_of_none e hc)]; exact e⟩ (fun i H3 _ ⟨_, _, _, s4⟩ => (Same.trans s3 s4).seq hS) ?_ ?_⟩
      · rintro i x H3 hx ⟨xs, hxs, hxl, s4⟩
        obtain ⟨z, rfl⟩ := get_map_int hx
        have hi : i < ns.length := by
          have q := (List.getElem?_eq_some_iff.mp hx).1
          rwa [List.length_map] at q
        refine ⟨rfl, ?_⟩
        walk_at "rd"
        obtain ⟨ys, e1, e2⟩ := snocI xs (if z < 0 then -z else z)
        exact ⟨xs.map V.int, hxs, (by rw [List.length_map]; exact small1000 (by omega)), ys, by rw [e1]; exact upd_same, by omega, fun b o e => by rw [upd_ne (ne_of_none e hc)]; exact s4 b o e⟩
      · rintro H3 ⟨cells, hcl, hcll, s4⟩
        rw [List.length_map] at hll hcll
        refine ⟨s4 _ _ upd_same, drawKvs D c 0 0, rfl, (by show 4 ≤ 15; decide), ?_⟩
        have hpc : p ≠ c := ne_of_none (upd_same (H := H2) (a := p) (o := .dK [])) hc
        have hcD : D ≠ c := fun e => by rw [← e, upd_ne hDp, hl] at hc; cases hc
        have hD3 : H3 D = some (.lst (large.map V.int)) := s4 _ _ (by rw [upd_ne hDp]; exact hl)
        refine k p D c _ (s2.free hp) hD (s3.free hc) ⟨⟨0, 0, ?_⟩, ⟨large, ?_, by omega⟩, ⟨cells, ?_, by omega⟩, hcD⟩ ?_
        · exact upd_same
        · rw [upd_ne hDp]; exact hD3
        · rw [upd_ne hpc.symm]; exact hcl
        · exact fun b o e => by rw [upd_ne (ne_of_none (s2 _ _ e) hp)]; exact s4 _ _ (s3 _ _ e)
section
variable {H : Hp} {d l c : Addr} {r t x : Int}
theorem dg_large (h : H d = some (.dK (drawKvs l c r t))) : DGet H d (.str "large") (some (.ref l)) := by
  have e : valV (drawKvs l c r t) (Sum.inr "large" : Key) = some (.ref l) := by rfl
  rw [← e]
  exact DGet.k (k := Sum.inr "large") h
theorem dg_rest (h : H d = some (.dK (drawKvs l c r t))) : DGet H d (.str "rest") (some (.int r)) := by
  have e : valV (drawKvs l c r t) (Sum.inr "rest" : Key) = some (.int r) := by rfl
  rw [← e]
  exact DGet.k (k := Sum.inr "rest") h
theorem dg_cells (h : H d = some (.dK (drawKvs l c r t))) : DGet H d (.str "cells") (some (.ref c)) := by
  have e : valV (drawKvs l c r t) (Sum.inr "cells" : Key) = some (.ref c) := by rfl
  rw [← e]
  exact DGet.k (k := Sum.inr "cells") h
theorem dg_turn (h : H d = some (.dK (drawKvs l c r t))) : DGet H d (.str "turn") (some (.int t)) := by
  have e : valV (drawKvs l c r t) (Sum.inr "turn" : Key) = some (.int t) := by rfl
  rw [← e]
  exact DGet.k (k := Sum.inr "turn") h
theorem dp_turn (h : H d = some (.dK (drawKvs l c r t))) : DPut H d (.str "turn") (.int x) (upd H d (.dK (drawKvs l c r x))) :=
  DPut.k (k := Sum.inr "turn") h (by show 4 < sizeLine; decide)
theorem dp_rest (h : H d = some (.dK (drawKvs l c r t))) : DPut H d (.str "rest") (.int x) (upd H d (.dK (drawKvs l c x t))) :=
  DPut.k (k := Sum.inr "rest") h (by show 4 < sizeLine; decide)
end
def spMixed (K : PySem.W.Frag) : Sp := fun vs H Q _ => ∃ (d l c : Addr), vs = [.ref d] ∧ DrawAt H d l c ∧ ∀ (z : Int) (H' : Hp), DrawAt H' d l c → (∀ b o, H b = some o → b ≠ d → H' b = some o) → Q (.int z) H'
theorem scMixed : FnScope ["draw", "turn", "found", "great", "blend", "grain"] ["draw"] (defScope sMixed) := ⟨rfl, rfl, rfl, by decide +kernel, rfl, by decide +kernel, by decide +kernel⟩
theorem ok_mixed {f : Addr} {fd : FuncData} (F : Fun K "_law_mixed" "_law_mixed" sMixed f fd) (T : PreG mg) : FnOk P w K mg base CX0 1 f fd ["draw"] (spMixed K) := by
  refine F.ok scMixed (fun vs H Q E h => ?_) (fun cdv A outer s H vs Q E hr h => ?_)
  · obtain ⟨d, l, c, rfl, _⟩ := h
    rfl
  · obtain ⟨d, l, c, rfl, D, k⟩ := h
    have hu := hu_of hr
    refine ⟨_, pss_cons (ps_dput hu (pv 0) pe_str (pe_op op_add (pe_dget hu (pv 0) pe_str (fun _ _ => rfl)) pe_int) rfl)
      (pss_cons (ps_par (i := 1) (j := 2) (by rfl) scMixed.nd rfl rfl (by decide) rfl rfl (pa_cons (pe_callTy call_int1 (by rfl) T.int (by decide +kernel) (pa_cons (pe_dget hu (pv 0) pe_str (fun _ _ => rfl)) pa_nil)) (pa_cons pe_int pa_nil)) (by rfl))
      (pss_cons (ps_for PassesOwn.never rfl (pi_list (pe_lst (pa_cons pe_int (pa_cons pe_int (pa_cons pe_int pa_nil))))) (pg_name (i := 3) scMixed.nd rfl (Or.inl rfl))
        (pss_cons (ps_set (i := 4) scMixed.nd rfl (Or.inl rfl) (pe_op op_modN (pe_op op_add (pe_op op_mul (pv 1) pe_int) (pe_op op_fdivN (pv 3) pe_int)) (pv 3)))
        (pss_cons (ps_for PassesOwn.never rfl (pi_list (pe_dget hu (pv 0) pe_str (fun _ _ => rfl))) (pg_name (i := 5) scMixed.nd rfl (Or.inl rfl))
          (pss_one (ps_set (i := 4) scMixed.nd rfl (Or.inl rfl) (pe_op op_modN (pe_op op_add (pe_op op_mul (pv 4) pe_int) (pe_callTy call_int1 (by rfl) T.int (by decide +kernel) (pa_cons (pv 5) pa_nil))) (pv 3)))))
        (pss_one (ps_set (i := 2) scMixed.nd rfl (Or.inl rfl) (pe_op op_add (pe_op op_mul (pv 2) pe_int) (pe_op op_modN (pe_op op_pow (pv 4) pe_int) (pv 3))))))))
      (pss_one (ps_ret (pv 2))))), ?_⟩
    obtain ⟨⟨r, t, hd⟩, ⟨la, hl, hll⟩, ⟨ce, hc, hcl⟩, hlc⟩ := id D
    walk_at "rd"
    have hd1 : ∀ x, upd H d (.dK (drawKvs l c r x)) d = some (.dK (drawKvs l c r x)) := fun x => upd_same
    refine ⟨_, dg_turn hd, _, rfl, _, dp_turn hd, _, dg_turn (hd1 _), .inl ⟨_, rfl, _, _, ⟨rfl, rfl⟩, ?_⟩⟩
    refine ⟨(by show 3 ≤ sizeLine; decide), fun p hp => ⟨p, rfl, ⟨_, SqL.of upd_same⟩, ?_⟩⟩
    have hpd : p ≠ d := fun e => by rw [e, hd1] at hp; cases hp
    refine for_list (K := K) (a := p) (xs := [V.int 2147483629, V.int 2147483587, V.int 2147483579]) (fun i σ H2 => ∃ (z tt : Int) (v3 v4 v5 : Option V), σ = [some (.ref d), some (.int tt), some (.int z), v3, v4, v5] ∧ Same (upd (upd H d (.dK (drawKvs l c r (t + 1)))) p (.lst [V.int 2147483629, V.int 2147483587, V.int 2147483579])) H2) ⟨_, _, _, _, _, rfl, Same.refl _⟩ (fun i σ H2 _ ⟨_, _, _, _, _, _, s2⟩ => SqL.of (s2 _ _ upd_same)) ?_ ?_
    · rintro i x σ H2 hx ⟨z, tt, v3, v4, v5, rfl, s2⟩
      obtain ⟨g, rfl, g0, g1⟩ : ∃ g : Int, x = V.int g ∧ 0 < g ∧ g < 2147483648 := by
        match i, hx with
        | 0, hx => exact ⟨_, (Option.some.inj hx).symm, by decide, by decide⟩
        | 1, hx => exact ⟨_, (Option.some.inj hx).symm, by decide, by decide⟩
        | 2, hx => exact ⟨_, (Option.some.inj hx).symm, by decide, by decide⟩
      have gn : g ≠ 0 := by omega
      have fm : ∀ y : Int, 0 ≤ y.fmod g ∧ y.fmod g < g := fun y => by
        rw [Int.fmod_eq_emod_of_nonneg _ (by omega)]
        exact ⟨Int.emod_nonneg _ gn, Int.emod_lt_of_pos _ g0⟩
      walk_at "rd"
      refine ⟨.inr trivial, ⟨by decide, by decide⟩, gn, ?_⟩
      have hd2 : H2 d = some (.dK (drawKvs l c r (t + 1))) := s2 _ _ (by rw [upd_ne hpd.symm]; exact hd1 _)
      have hc2 : H2 c = some (.lst (ce.map V.int)) := s2 _ _ (by rw [upd_ne (ne_of_none (by rw [upd_ne D.dc.symm]; exact hc) hp), upd_ne D.dc.symm]; exact hc)
      refine ⟨_, rfl, d, _, rfl, dg_cells hd2, c, rfl, ⟨_, SqL.of hc2⟩, for_list (K := K) (a := c) (xs := ce.map V.int) (fun i σ H3 => ∃ (b : Int) (v5 : Option V), σ = [some (.ref d), some (.int tt), some (.int z), some (.int g), some (.int b), v5] ∧ 0 ≤ b ∧ b < g ∧ H3 = H2) ⟨_, _, rfl, (fm _).1, (fm _).2, rfl⟩ (fun i σ H3 _ ⟨_, _, _, _, _, e⟩ => by rw [e]; exact SqL.of hc2) ?_ ?_⟩
      · rintro i x σ H3 hx ⟨b, v5, rfl, b0, b1, rfl⟩
        obtain ⟨y, rfl⟩ := get_map_int hx
        walk_at "rd"
        exact ⟨.inr trivial, gn, _, _, ⟨rfl, rfl⟩, (fm _).1, (fm _).2⟩
      · rintro σ H3 ⟨b, v5, rfl, b0, b1, rfl⟩
        walk_at "rd"
        exact ⟨.inr trivial, by show b.natAbs < 18446744073709551616; omega, gn, _, _, _, _, _, ⟨rfl, rfl, rfl, rfl, rfl⟩, s2⟩
    · rintro σ H2 ⟨z, tt, v3, v4, v5, rfl, s2⟩
      walk_at "rd"
      have hd2 : H2 d = some (.dK (drawKvs l c r (t + 1))) := s2 _ _ (by rw [upd_ne hpd.symm]; exact hd1 _)
      have up : ∀ b o, H b = some o → b ≠ d → H2 b = some o := fun b o e hb => s2 _ _ (by
        have q : upd H d (.dK (drawKvs l c r (t + 1))) b = some o := by rw [upd_ne hb]; exact e
        rw [upd_ne (ne_of_none q hp)]; exact q)
      exact k z H2 ⟨⟨r, t + 1, hd2⟩, ⟨la, up _ _ hl D.dl.symm, hll⟩, ⟨ce, up _ _ hc D.dc.symm, hcl⟩, hlc⟩ up
/-! ### data of ints -/
theorem dpAll_int {H : Hp} : ∀ ns : List Int, DpAll K H (ns.map V.int) (ns.map PyData.int)
  | [] => .nil
  | _ :: r => .cons (.int _) (dpAll_int r)
theorem can_ints : ∀ ns : List Int, PyData.canLayAll0 (ns.map PyData.int) = true
  | [] => by simp [PyData.canLayAll0]
  | _ :: r => by simp [PyData.canLayAll0, PyData.canLay0, can_ints r]
theorem depth_ints : ∀ ns : List Int, PyData.depthAll (ns.map PyData.int) = 0
  | [] => by simp [PyData.depthAll]
  | _ :: r => by simp [PyData.depthAll, PyData.depth, depth_ints r]
theorem shaped_ints (ns : List Int) : SeqAt.shaped (.list (ns.map PyData.int)) = true := by
  simp [SeqAt.shaped, PyData.canLay0, PyData.depth, can_ints, depth_ints]
theorem shaped_tints (ns : List Int) : SeqAt.shaped (.tuple (ns.map PyData.int)) = true := by
  simp [SeqAt.shaped, PyData.canLay0, PyData.depth, can_ints, depth_ints]
theorem eqvAll_ints : ∀ ns ms : List Int, PyData.eqvAll (ns.map PyData.int) (ms.map PyData.int) = decide (ns = ms)
  | [], [] => by simp [PyData.eqvAll]
  | [], _ :: _ => by simp [PyData.eqvAll]
  | _ :: _, [] => by simp [PyData.eqvAll]
  | a :: r, b :: q => by
    simp only [List.map_cons, PyData.eqvAll, PyData.eqv, eqvAll_ints r q, List.cons.injEq, Bool.decide_and]
    rfl
theorem eqv_ints (ns ms : List Int) : PyData.eqv (.list (ns.map PyData.int)) (.list (ms.map PyData.int)) = decide (ns = ms) := by
  rw [← eqvAll_ints]; simp [PyData.eqv]
def spTake (K : PySem.W.Frag) : Sp := fun vs H Q _ => ∃ (d l c : Addr) (m : Int), vs = [.ref d, .int m] ∧ DrawAt H d l c ∧ 0 < m ∧ m < 2 ^ 200 ∧
  ∀ (r : Int) (H' : Hp), 0 ≤ r → r < m → DrawAt H' d l c → KeepD H H' d l → Q (.int r) H'
theorem scTake : FnScope ["draw", "amount", "found"] ["draw", "amount"] (defScope sTake) := ⟨rfl, rfl, rfl, by decide +kernel, rfl, by decide +kernel, by decide +kernel⟩
theorem ok_take {f fM : Addr} {fd fdM : FuncData} (F : Fun K "_law_take" "_law_take" sTake f fd) (T : PreG mg) (GM : FnOk P w K mg base CX0 1 fM fdM ["draw"] (spMixed K)) (kM : PySem.W.keepIn K (.ref fM) = true) (bM : Binds K fdM ["draw"] []) (mM : mg "_law_mixed" = some (.ref fM)) : FnOk P w K mg base CX0 2 f fd ["draw", "amount"] (spTake K) := by
  refine F.ok scTake (fun vs H Q E h => ?_) (fun cdv A outer s H vs Q E hr h => ?_)
  · obtain ⟨d, l, c, m, rfl, _⟩ := h
    rfl
  · obtain ⟨d, l, c, m, rfl, D, m0, m1, k⟩ := h
    have hu := hu_of hr
    refine ⟨_, C8.pss_cut (ps_if (pt_cmpR op_eq (pe_dget hu (pv 0) pe_str (fun _ _ => rfl)) pe_int (nomark _))
        (pss_one (ps_dput hu (pv 0) pe_str (pe_ifExp (pt_cmpR (op_neD hr.units) (pe_dget hu (pv 0) pe_str (fun _ _ => rfl)) (pe_lst pa_nil) (nomark _))
          (pe_bm PySem.F.plainAttrs_list PySem.F.slot_list_pop PySem.F.type_list_pop mt_popAt (pe_dget hu (pv 0) pe_str (fun _ _ => rfl)) (pa_cons pe_int pa_nil))
          (pe_call GM hr rfl mM kM bM .nil pass0 (pa_cons (pv 0) pa_nil))) rfl)) pss_nil)
      (pss_cons (ps_set (i := 2) scTake.nd rfl (Or.inl rfl) (pe_op op_modN (pe_callTy call_int1 (by rfl) T.int (by decide +kernel) (pa_cons (pe_dget hu (pv 0) pe_str (fun _ _ => rfl)) pa_nil)) (pv 1)))
      (pss_cons (ps_dput hu (pv 0) pe_str (pe_op op_fdivW (pe_callTy call_int1 (by rfl) T.int (by decide +kernel) (pa_cons (pe_dget hu (pv 0) pe_str (fun _ _ => rfl)) pa_nil)) (pv 1)) rfl)
      (pss_one (ps_ret (pv 2))))), ?_⟩
    -- behind the if: the draw again, all else as it was
    refine ⟨fun σ' H' => σ' = [some (.ref d), some (.int m), none] ∧ DrawAt H' d l c ∧ KeepD H H' d l, ?_, ?_⟩
    · have key : ∀ H', DrawAt H' d l c → KeepD H H' d l → ([some (V.ref d), some (V.int m), none] : List (Option V)) = [some (.ref d), some (.int m), none] ∧ DrawAt H' d l c ∧ KeepD H H' d l := fun H' a b => ⟨rfl, a, b⟩
      obtain ⟨⟨r, t, hd⟩, ⟨la, hl, hll⟩, ⟨ce, hc, hcl⟩, hlc⟩ := id D
      walk_at "rd"
      refine ⟨_, dg_rest hd, rfl, ?_⟩
      refine ite2 (fun _ => ?_) (fun _ => (key H D (KeepD.refl _ _ _)).2)
      refine ⟨_, dg_large hd, by decide, fun q hq => ⟨.list (la.map .int), .list [], .lst (SqL.of (by rw [upd_ne (ne_of_none hl hq)]; exact hl)) (dpAll_int la), .lst (SqL.of upd_same) .nil, shaped_ints la, by decide, ?_⟩⟩
      rw [show PyData.eqv (.list (la.map .int)) (.list []) = decide (la = []) from eqv_ints la []]
      have hd1 : (upd H q (.lst [])) d = some (.dK (drawKvs l c r t)) := by rw [upd_ne (ne_of_none hd hq)]; exact hd
      have hl1 : (upd H q (.lst [])) l = some (.lst (la.map V.int)) := by rw [upd_ne (ne_of_none hl hq)]; exact hl
      have s1 : Same H (upd H q (.lst [])) := fun b o e => by rw [upd_ne (ne_of_none e hq)]; exact e
      cases la with
      | nil =>
        refine ⟨false, rfl, ?_⟩
        rw [if_neg Bool.false_ne_true]
        refine ⟨d, l, c, rfl, D.same s1, fun z H2 D2 k2 => ?_⟩
        obtain ⟨⟨r2, t2, hd2⟩, ⟨la2, hl2, hll2⟩, ⟨ce2, hc2, hcl2⟩, _⟩ := id D2
        refine ⟨_, dp_rest hd2, (key _ ⟨⟨_, _, upd_same⟩, ⟨la2, by rw [upd_ne D.dl.symm]; exact hl2, hll2⟩, ⟨ce2, by rw [upd_ne D.dc.symm]; exact hc2, hcl2⟩, hlc⟩ fun b o e h1 h2 => ?_).2⟩
        rw [upd_ne h1]
        exact k2 _ _ (s1 _ _ e) h1
      | cons y ys =>
        refine ⟨true, rfl, ?_⟩
        rw [if_pos rfl]
        refine ⟨_, rfl, _, _, rfl, dg_large hd1, .inl ⟨rfl, _, SqL.of hl1⟩, l, _, 0, 0, _, rfl, rfl, hl1, by decide, by decide, ?_, rfl, ?_⟩
        · rw [List.length_map, List.length_cons]
          unfold seqIndex?
          simp
        have hd2 : upd (upd H q (.lst [])) l (.lst (((y :: ys).map V.int).eraseIdx 0)) d = some (.dK (drawKvs l c r t)) := by rw [upd_ne D.dl]; exact hd1
        have hc1 : (upd H q (.lst [])) c = some (.lst (ce.map V.int)) := s1 _ _ hc
        refine ⟨_, dp_rest hd2, (key _ ⟨⟨_, _, upd_same⟩, ⟨ys, ?_, ?_⟩, ⟨ce, ?_, hcl⟩, hlc⟩ fun b o e h1 h2 => ?_).2⟩
        · rw [upd_ne D.dl.symm]; exact upd_same
        · rw [List.length_cons] at hll; omega
        · rw [upd_ne D.dc.symm, upd_ne hlc.symm]; exact hc1
        · rw [upd_ne h1, upd_ne h2]; exact s1 _ _ e
    · rintro σ' H' ⟨rfl, D', k'⟩
      obtain ⟨⟨r, t, hd⟩, ⟨la, hl, hll⟩, ⟨ce, hc, hcl⟩, hlc⟩ := id D'
      walk_at "rd"
      have fm : 0 ≤ r.fmod m ∧ r.fmod m < m := by
        rw [Int.fmod_eq_emod_of_nonneg _ (by omega)]
        exact ⟨Int.emod_nonneg _ (by omega), Int.emod_lt_of_pos _ m0⟩
      refine ⟨_, dg_rest hd, .inl ⟨_, rfl, by omega, _, dg_rest hd, .inl ⟨_, rfl, wide_div (b := 200) m0 (by omega) (by decide) (by decide), _, dp_rest hd, ?_⟩⟩⟩
      exact k _ _ fm.1 fm.2 ⟨⟨_, _, upd_same⟩, ⟨la, by rw [upd_ne D'.dl.symm]; exact hl, hll⟩, ⟨ce, by rw [upd_ne D'.dc.symm]; exact hc, hcl⟩, hlc⟩ (k'.trans fun b o e h1 h2 => by rw [upd_ne h1]; exact e)
def spPick (K : PySem.W.Frag) : Sp := fun vs H Q _ => ∃ (d l c p : Addr) (xs : List V), vs = [.ref d, .ref p] ∧ DrawAt H d l c ∧ H p = some (.lst xs) ∧ p ≠ l ∧ 0 < xs.length ∧ xs.length ≤ 2 ^ 100 ∧
  ∀ (i : Nat) (x : V) (H' : Hp), xs[i]? = some x → DrawAt H' d l c → KeepD H H' d l → Q x H'
theorem scPick : FnScope ["draw", "some"] ["draw", "some"] (defScope sPick) := ⟨rfl, rfl, rfl, by decide +kernel, rfl, by decide +kernel, by decide +kernel⟩
theorem ok_pick {f fM : Addr} {fd fdM : FuncData} (F : Fun K "_law_pick" "_law_pick" sPick f fd) (T : PreG mg) (GM : FnOk P w K mg base CX0 2 fM fdM ["draw", "amount"] (spTake K)) (kM : PySem.W.keepIn K (.ref fM) = true) (bM : Binds K fdM ["draw", "amount"] []) (mM : mg "_law_take" = some (.ref fM)) : FnOk P w K mg base CX0 3 f fd ["draw", "some"] (spPick K) := by
  refine F.ok scPick (fun vs H Q E h => ?_) (fun cdv A outer s H vs Q E hr h => ?_)
  · obtain ⟨d, l, c, p, xs, rfl, _⟩ := h
    rfl
  · obtain ⟨d, l, c, p, xs, rfl, D, hp, hpl, h0, hz, k⟩ := h
    have hu := hu_of hr
    refine ⟨_, pss_one (ps_ret (pe_ix ix_list (pv 1) (pe_call GM hr rfl mM kM bM .nil pass0 (pa_cons (pv 0) (pa_cons (pe_callB call_len_seq (by rfl) T.len PySem.boot_len (pa_cons (pv 1) pa_nil)) pa_nil))) (fun _ _ => rfl))), ?_⟩
    obtain ⟨⟨r, t, hd⟩, ⟨la, hl, hll⟩, ⟨ce, hc, hcl⟩, hlc⟩ := id D
    have hpd : p ≠ d := ne_of hp hd (by intro z; cases z)
    refine ⟨_, rfl, _, rfl, _, rfl, p, xs, rfl, .inl (SqL.of hp), ?_⟩
    refine ⟨d, l, c, _, rfl, D, by omega, by omega, fun r2 H2 r0 r1 D2 k2 => ?_⟩
    obtain ⟨j, rfl⟩ : ∃ j : Nat, r2 = (j : Int) := ⟨r2.toNat, by omega⟩
    have hj : xs[j]? = some (xs[j]'(by omega)) := List.getElem?_eq_getElem _
    exact ⟨p, xs, _, _, rfl, rfl, SqL.of (k2 _ _ hp hpd hpl), atI_nat hj, k j _ H2 hj D2 k2⟩
end
end WW
end

section
set_option Elab.async false
set_option linter.all false
set_option maxRecDepth 100000
set_option maxHeartbeats 4000000
/-! Own errors made by a call with keywords: type.__call__, BaseException.__new__, then the own __init__. -/
namespace PySem
namespace WEX
open PySem.W PySem.Calls PyProof.Rows PySem.HandSPX
section
variable {M : Model} {A : Around} {E : Value → Shared → Prop} {h : Heap} {g : Array GenState} {dr : Drawn} {t : Nat} {os : OsState}
variable {nm q : Str} {C N : Addr} {bs bm bmB : List Value} {hdct : Bool} {sn : List Str} {sub : List Value} {ab : Bool} {col : Option Bool} {dd : Option Addr}
variable {k0 k1 k2 k3 k5 : Option Value} {B newId initId : String} {kw : List (Str × Value)} {ws : List Value}
theorem chk_new (F : ExcBaseFacts B newId initId bmB)
    (hT : ∀ X : String, bm.contains (.type X) = bmB.contains (.type X)) {Q : Unit → Shared → Prop}
    (hC : h.get? C = some (excClassObj nm q C N bs bm hdct sn sub ab col dd k0 k1 k2 k3 k5 newId))
    (hq : Q () ⟨h, g, dr, t, os⟩) :
    wpAny M A (checkBuiltinCall newId ⟨.ref C :: ws, kw⟩) Q E ⟨h, g, dr, t, os⟩ := by
  have e1 : (Value.ref C :: bm).contains (.type B) = true := by
    rw [List.contains_cons, hT, F.hasB, Bool.or_true]
  have e2 := F.noStar
  simp only [F.newKind, F.newSplit, F.newRow, checkBuiltinCall]
  repeat (first
    | refine wpAny_loadPart_at hC ?_
    | (refine wpAny_isSubtype_exc hC ?_; rw [e1])
    | refine wpAny_staticBase_exc hC ?_
    | refine wpAny_madeBy_exc hC ?_
    | simp only [bne_self_eq_false, Bool.false_eq_true, if_false]
    | wp_step)
  exact hq
end
section
variable {prog : Program} {w : World} {A : Around} {E : Value → Shared → Prop} {R : Result → Shared → Prop} {h : Heap}
variable {g : Array GenState} {dr : Drawn} {t : Nat} {os : OsState}
variable {nm q : Str} {C N : Addr} {bs bm bmB : List Value} {hdct : Bool} {sn : List Str} {sub : List Value} {ab : Bool} {col : Option Bool} {dd : Option Addr}
variable {k0 k1 k2 k3 k5 : Option Value} {B newId initId : String} {kw : List (Str × Value)} {ws : List Value}
theorem new_kw (F : ExcBaseFacts B newId initId bmB)
    (hT : ∀ X : String, bm.contains (.type X) = bmB.contains (.type X))
    (hC : h.get? C = some (excClassObj nm q C N bs bm hdct sn sub ab col dd k0 k1 k2 k3 k5 newId))
    (hq : R (.ok (.ret (.ref (h.objs.size + 1))))
      ⟨(h.push (W.kdv_tup ws)).push (excO C h.objs.size), g, dr, t, os⟩)
    (hz : ws.length ≤ sizeLine) :
    codeAny (model prog w) A (.builtin newId ⟨.ref C :: ws, kw⟩) R ⟨h, g, dr, t, os⟩ := by
  have e0 := F.ends
  have eB : (Value.ref C :: bm).contains (.type B) = true := by
    rw [List.contains_cons, hT, F.hasB, Bool.or_true]
  have eA : (Value.ref C :: bm).contains (.type "AttributeError") = false := by
    rw [List.contains_cons, hT, F.noAttr]
    rfl
  have eN : (Value.ref C :: bm).contains (.type "NameError") = false := by
    rw [List.contains_cons, hT, F.noName]
    rfl
  refine codeAny_builtinAt F.entry ?_
  unfold Builtin.«BaseException.__new__»
  refine wpAt_bind ?_
  show wpAt _ _ _ (stack >>= _) _ _ _
  refine wpAt_bind (wpAt_stack fun p below => wpAt_of_wpAny ?_)
  wp_walk
  refine wpAt_of_wpAny ?_
  rw [F.owner]
  repeat (first
    | with_reducible refine wpAny_madeHere_exc F.canon hC ?_
    | with_reducible refine wpAny_loadPart_at hC ?_
    | (with_reducible refine wpAny_isSubtype_exc hC ?_; first | rw [eB] | rw [eA] | rw [eN])
    | wp_step)
  show R _ _
  rw [Heap.size_push]
  exact hq
theorem type_kw (F : ExcBaseFacts B newId initId bmB)
    (hT : ∀ X : String, bm.contains (.type X) = bmB.contains (.type X)) {fI : Addr} {Q : Fin → Shared → Prop}
    (hC : h.get? C = some (excClassObj nm q C N bs bm hdct sn sub ab col dd k0 k1 k2 k3 k5 newId))
    (hi : W.Looks (model prog w) h (typeLookup (.ref C) "__init__") (some (.ref fI)))
    (hb : ∀ self, W.Looks (model prog w) h (bindSpecial (.ref fI) self) (.ref fI, [self])) (hz : ws.length ≤ sizeLine)
    (hq : codeAny (model prog w) A (.call (.ref fI) ⟨.ref (h.objs.size + 1) :: ws, kw⟩)
      (fun r s' => match r with
        | .ok (.ret v) => v = .none ∧ Q (.done (.ret (.ref (h.objs.size + 1)))) s'
        | .ok _ => False
        | .error e => E e s')
      ⟨(h.push (W.kdv_tup ws)).push (excO C h.objs.size), g, dr, t, os⟩) :
    wpAny (model prog w) A (Builtin.«type.__call__» ⟨.ref C :: ws, kw⟩) Q E ⟨h, g, dr, t, os⟩ := by
  repeat (first
    | with_reducible refine wpAny_loadPart_at hC ?_
    | with_reducible refine wpAny_madeBy_exc hC ?_
    | wp_step)
  refine codeAny_call_builtin_code (Code.quiet_builtin _ F.quiet) (chk_new F hT hC ?_)
  refine new_kw F hT hC ?_ hz
  show wpAny _ _ _ _ _ _
  have k : ∀ b o, h.get? b = some o → ((h.push (W.kdv_tup ws)).push (excO C h.objs.size)).get? b = some o :=
    fun b o e => Heap.get?_push_of_some _ (Heap.get?_push_of_some _ e)
  have hC1 := k _ _ hC
  have hgt : ((h.push (W.kdv_tup ws)).push (excO C h.objs.size)).get? (h.objs.size + 1) = some (excO C h.objs.size) := by heap_get
  have eC : (Value.ref C :: bm).contains (.ref C) = true := by simp
  have i1 := hi.keeps k
  have b1 := (hb (.ref (h.objs.size + 1))).keeps k
  unfold isInstance
  repeat (first
    | with_reducible refine wpAny_loadPart_at hgt ?_
    | (with_reducible refine wpAny_isSubtype_exc hC1 ?_; rw [eC])
    | wp_step)
  show wpAny _ _ (typeLookup (.ref C) _) _ _ _
  refine i1.at ?_
  refine wpAny_holding (wpAny_bind (b1.at ?_))
  refine wpAny_bind (wpAny_call (codeAny_mono hq fun r s' z => ?_))
  rcases r with e | (v | _ | _ | _) <;> first | exact z | exact z.elim | skip
  obtain ⟨rfl, z⟩ := z
  first
    | exact wpAny_pure (wpAny_pure z)
    | (wp_walk; exact z)
theorem call_kw (F : ExcBaseFacts B newId initId bmB)
    (hT : ∀ X : String, bm.contains (.type X) = bmB.contains (.type X)) {fI : Addr}
    (hC : h.get? C = some (excClassObj nm q C N bs bm hdct sn sub ab col dd k0 k1 k2 k3 k5 newId))
    (hi : W.Looks (model prog w) h (typeLookup (.ref C) "__init__") (some (.ref fI)))
    (hb : ∀ self, W.Looks (model prog w) h (bindSpecial (.ref fI) self) (.ref fI, [self])) (hz : ws.length ≤ sizeLine)
    (hq : codeAny (model prog w) (A.under (.builtin "type.__call__" ⟨.ref C :: ws, kw⟩)) (.call (.ref fI) ⟨.ref (h.objs.size + 1) :: ws, kw⟩) (W.InitBack (h.objs.size + 1) R)
      ⟨(h.push (W.kdv_tup ws)).push (excO C h.objs.size), g, dr, t, os⟩) :
    codeAny (model prog w) A (.call (.ref C) ⟨ws, kw⟩) R ⟨h, g, dr, t, os⟩ := by
  have f1 := tc_lookup
  have f2 := tc_bind (.ref C)
  have hTy : (⟨h, g, dr, t, os⟩ : Shared).TypeIs (.ref C) "type" := ⟨_, hC, rfl⟩
  refine codeAny_of_tree ?_
  show wpAny _ _ (callAny (.ref C) _) _ _ _
  repeat (any_goals (first
    | assumption
    | with_reducible refine wpAny_loadPart_at hC ?_
    | wp_step))
  refine ⟨rfl, ?_⟩
  refine codeAny_call_builtin_at (Code.quiet_builtin _ (by decide +kernel)) entry_typeCall
    (wpAny_check_type_call_sub hC (type_kw F hT hC hi hb hz ?_))
  refine codeAny_mono hq fun r s' z => ?_
  rcases r with e | (v | _ | _ | _) <;> exact z
end
end WEX
end PySem
end

section
set_option Elab.async false
set_option linter.all false
set_option maxRecDepth 100000
set_option maxHeartbeats 4000000
/-! Own errors as values: made (by place, by keyword), their attribute read, isinstance of them. -/
namespace WR
open PySem PySem.Spec PyProof.Rows L2
/-- what an own error class says, so that instances can be asked -/
structure AskC (K : PySem.W.Frag) (C : Addr) : Prop where
  cl : (PySem.W.clsIn K C).isSome = true
  ga : PySem.W.findIn K (.ref C) "__getattribute__" = some (some (.builtin "BaseException.__getattribute__"))
  gt : PySem.W.findIn K (.ref C) "__getattr__" = some none
  sb : PySem.W.subIn K (.ref C) (.type "BaseException") = some true
  ca : PySem.W.findIn K (.ref C) "__class__" = some (some (.builtin "object.__class__"))
  cg : PySem.W.specialIn K (.builtin "object.__class__") "__get__" = some (some (.builtin "getset_descriptor.__get__"))
  ct : PySem.W.takesIn K (.builtin "object.__class__") = some true
  cm : PySem.W.mroIn K C (.type "object") = some true
/-- an error object: bare, or with its one attribute -/
inductive ErrAt (H : Hp) (a C : Addr) : Option (Str × V) → Prop where
  | bare (h : H a = some (ExO (.ref C) a)) : ErrAt H a C none
  | with_ {d : Addr} {f : Str} {y : V} (h : H a = some (exo a C (some d))) (hd : H d = some (exd d [(f, y)])) : ErrAt H a C (some (f, y))
theorem ErrAt.same {H H' : Hp} {a C : Addr} {o : Option (Str × V)} (e : ErrAt H a C o) (s : Same H H') : ErrAt H' a C o := by
  cases e with
  | bare h => exact .bare (s _ _ h)
  | with_ h hd => exact .with_ (s _ _ h) (s _ _ hd)
section
variable {X : Cx} {pins : List (Addr × Obj)} {σ : L2.St} {H : Hp} {s : Shared}
theorem err_inst {a C : Addr} {o : Option (Str × V)} (I : Inv X pins σ H s) (e : ErrAt H a C o) :
    ∃ ox od, PySem.W.InstAt s.heap a ox C od ∧ (∀ f y, o = some (f, y) → ∃ ob u, od = some ob ∧ RelV y u ∧ PySem.W.lookIn f ob = some (some u)) := by
  cases e with
  | bare h =>
    obtain ⟨⟨oe, vs, g1, z, g2, _, _, _⟩, _, _⟩ := I.hok a _ h
    refine ⟨oe, none, ⟨g1, z.1, ?_, ?_⟩, fun f y q => nomatch q⟩
    · unfold PySem.W.notCls
      rw [g2]
    · rw [z.2]
      trivial
  | @with_ d f y h hd =>
    obtain ⟨t1, g1⟩ := exo_at I.hok h
    obtain ⟨mA, hn, rl⟩ := exd_at I.hok hd
    obtain ⟨od, ho, hl⟩ := lookIn_ns hn
    refine ⟨_, some od, ⟨g1, rfl, rfl, ho⟩, fun f' y' q => ?_⟩
    cases q
    have r0 := rl f
    rw [lookup_put, if_pos rfl] at r0
    obtain ⟨u, hu, ru⟩ := RelO.some_of (v := y) (o := mA f) r0
    exact ⟨od, u, rfl, ru, by rw [hl, hu]⟩
/-- isinstance(e, c): e an own error, c a class -/
def rIsErr (K : PySem.W.Frag) : List V → Hp → VK → Prop := fun xs H Q => ∃ (a C : Addr) (o : Option (Str × V)) (c : V) (cv : Value) (b : Bool),
  xs = [.ref a, c] ∧ ErrAt H a C o ∧ ClsV c cv ∧ AskC K C ∧ PySem.W.kitOne K (.ref C) cv = some b ∧ Q (.bl b) H
theorem call_isErr : CallR X (.builtin "isinstance") (rIsErr X.K) := by
  intro pins s σ H xs us Q I r h
  obtain ⟨a, C, o, c, cv, b, rfl, e, k, T, ek, q⟩ := h
  obtain ⟨u1, u2, rfl, r1, r2⟩ := vals2 r
  have e2 := k.eq r2
  subst e2
  cases (show u1 = Value.ref a from r1)
  obtain ⟨ox, od, J, _⟩ := err_inst I e
  exact PySem.W.kia_one (PySem.W.kitx_exc T.cl T.ga T.gt T.sb T.ca T.cg T.ct T.cm) I.kIn J ek (fun z => nomatch z) fun tk => ⟨.bl b, H, I.kept (t' := tk) fun _ _ z => z, rfl, q⟩
/-- e.f: e an own error with the attribute f -/
def tErrF (K : PySem.W.Frag) (f : Str) (te : TE) : TE := fun σ H Q => te σ H fun x H1 => ∃ (a C : Addr) (y : V), x = .ref a ∧ ErrAt H1 a C (some (f, y)) ∧ AskC K C ∧ PySem.W.hasDictIn K C = true ∧ PySem.W.findIn K (.ref C) f = some none ∧ Q y H1
theorem pe_errF {e : Expr} {te : TE} {pos : Pos} {f : Str} (he : PE X e te) (hb : attributeBase e f X.env (eval e X.env) = eval e X.env := by rfl) : PE X (.Attribute e f pos) (tErrF X.K f te) := by
  refine ⟨fun pins s σ H Q I h => ?_⟩
  refine attr_of hb (thn (he.run pins s σ H _ I h) fun u s1 hh => ?_)
  obtain ⟨x, H1, I1, rx, a, C, y, ex, ea, T, hdct, hno, q⟩ := hh
  subst ex
  obtain rfl : u = Value.ref a := rx
  obtain ⟨ox, od, J, hl⟩ := err_inst I1 ea
  obtain ⟨ob, u, rfl, ru, l⟩ := hl _ _ rfl
  exact HandSPX.exc_get I1.kIn J T.ga T.gt T.sb (PySem.W.findObj_own hdct hno rfl l) (handed_of ru) ⟨y, H1, I1.tok _, ru, q⟩
end
/-! ### making -/
/-- the promise of «def __init__(self, f): self.f = f» -/
def spErr (K : PySem.W.Frag) (f : Str) : Sp := fun vs H Q _ => ∃ (a C : Addr) (y : V), vs = [.ref a, y] ∧ H a = some (exo a C none) ∧ OexC K C ∧ PySem.W.findIn K (.ref C) f = some none ∧
  ∀ d, H d = none → d ≠ a → Q .non (upd (upd H d (exd d [(f, y)])) a (exo a C (some d)))
/-- the heap with a new error, its dict at d -/
def newErr (H : Hp) (a d C : Addr) (f : Str) (y : V) : Hp := upd (upd H d (exd d [(f, y)])) a (exo a C (some d))
theorem newErr_at {H : Hp} {a d C : Addr} {f : Str} {y : V} (h : d ≠ a) : ErrAt (newErr H a d C f y) a C (some (f, y)) :=
  .with_ upd_same (by unfold newErr; rw [upd_ne h, upd_same])
theorem newErr_same {H : Hp} {a d C : Addr} {f : Str} {y : V} (ha : H a = none) (hd : H d = none) : Same H (newErr H a d C f y) := fun b o e => by
  unfold newErr
  rw [upd_ne (ne_of_none e ha), upd_ne (ne_of_none e hd)]
  exact e
def tErrN (C : Addr) (f : Str) (ta : TA) : TE := fun σ H Q => ta σ H fun vs H1 => ∃ y, vs = [y] ∧ ∀ a d, H1 a = none → H1 d = none → d ≠ a → Q (.ref a) (newErr H1 a d C f y)
section
variable {X : Cx} {k : Nat} {fd : FuncData} {ps : List Str} {x f : Str} {C fI : Addr} {e : Expr} {ta : TA} {p pos : Pos}
theorem run_err {pins : List (Addr × Obj)} {σ : L2.St} {H : Hp} {s : Shared} {Q : VK} {u : Value} {y : V} {ws : List Value} {kw : List (Str × Value)} (T : OexC X.K C) (iC : PySem.W.findIn X.K (.ref C) "__init__" = some (some (.ref fI)))
    (tI : PySem.W.typeIn X.K (.ref fI) = some (.type "function")) (hf : PySem.W.findIn X.K (.ref C) f = some none)
    (F1 : FnOk X.prog X.w X.K X.mg X.base CX0 k fI fd [("self" : Str), f] (spErr X.K f)) (hr : Room (k + 1) X.A)
    (hb : ∀ (s : Shared) (v : Value), BindsTo s fd ⟨v :: ws, kw⟩ ([("self" : Str), f].zip [v, u])) (hz : ws.length ≤ sizeLine)
    (I : Inv X pins σ H s) (ru : RelV y u) (q : ∀ a d, H a = none → H d = none → d ≠ a → Q (.ref a) (newErr H a d C f y)) :
    wpAny (model X.prog X.w) X.A (call (.ref C) ws kw) (EP X pins σ Q) X.xe s := by
  obtain ⟨nm, qn, N, bs, bm, sn, sub, ab, col, dd, k0, k1, k2, k3, k5, hC, hbm⟩ := T.cls
  obtain ⟨hp, g, dr, tk, os⟩ := s
  have hsz : hp.objs.size ≤ hp.objs.size + 1 := Nat.le_succ _
  have hn : H (hp.objs.size + 1) = none := I.hok.fresh hsz
  have kk : ∀ b o, hp.get? b = some o → ((hp.push (PySem.W.kdv_tup ws)).push (PySem.HandSPX.excO C hp.objs.size)).get? b = some o := fun b o z => Heap.get?_push_of_some _ (Heap.get?_push_of_some _ z)
  have hg : ((hp.push (PySem.W.kdv_tup ws)).push (PySem.HandSPX.excO C hp.objs.size)).get? (hp.objs.size + 1) = some (PySem.HandSPX.excO C hp.objs.size) := by heap_get
  have I2 : Inv X pins σ (upd H (hp.objs.size + 1) (exo (hp.objs.size + 1) C none)) ⟨(hp.push (PySem.W.kdv_tup ws)).push (PySem.HandSPX.excO C hp.objs.size), g, dr, tk, os⟩ :=
    I.laid (t' := tk) (a := hp.objs.size + 1) (o := exo (hp.objs.size + 1) C none) kk hsz (exo_ok hg)
  have hq : spErr X.K f [.ref (hp.objs.size + 1), y] (upd H (hp.objs.size + 1) (exo (hp.objs.size + 1) C none)) (fun v H2 => v = .non ∧ Q (.ref (hp.objs.size + 1)) H2) (fun _ _ _ => False) := by
    refine ⟨_, C, y, rfl, upd_same, T, hf, fun d hd hne => ⟨rfl, ?_⟩⟩
    rw [upd_ne hne] at hd
    have e1 : upd (upd (upd H (hp.objs.size + 1) (exo (hp.objs.size + 1) C none)) d (exd d [(f, y)])) (hp.objs.size + 1) (exo (hp.objs.size + 1) C (some d)) = newErr H (hp.objs.size + 1) d C f y := by
      funext b
      unfold newErr
      by_cases h1 : b = hp.objs.size + 1
      · rw [h1, upd_same, upd_same]
      · rw [upd_ne h1, upd_ne h1]
        by_cases h2 : b = d
        · rw [h2, upd_same, upd_same]
        · rw [upd_ne h2, upd_ne h2, upd_ne h1]
    rw [e1]
    exact q _ _ hn hd hne
  have r2 : Vals [V.ref (hp.objs.size + 1), y] [Value.ref (hp.objs.size + 1), u] := .cons rfl (.cons ru .nil)
  refine wpAny_call (PySem.WEX.call_kw F.excBase_ValueError (fun Y => PySem.HandSPX.refsVE_contains Y bm hbm) (I.kIn _ _ hC) (PySem.W.looks_findIn I.kIn iC) (fun self => PySem.W.bind_fn I.kIn self tI) hz
    (codeAny_mono (F1.run _ X.stack _ _ ⟨Value.ref (hp.objs.size + 1) :: ws, kw⟩ [Value.ref (hp.objs.size + 1), u] _ _ (fun _ _ _ => False) (hr.make C ws kw) (I2.env0.make C ws kw) (hb _ _) r2 hq) fun r s' hq' => ?_))
  cases r with
  | error er => exact pass0 (X := X) pins σ _ _ er s' I2 hq'
  | ok fl =>
    cases fl with
    | ret v =>
      obtain ⟨v1, H2, os2, bare2, un2, hok2, rv, ev, q2⟩ := hq'
      subst ev
      exact ⟨rv, ⟨V.ref (hp.objs.size + 1), H2, I2.call' (ch := []) os2 un2 hok2 bare2 (fun b z => absurd z (by simp)), rfl, q2⟩⟩
    | next => exact False.elim hq'
    | brk => exact False.elim hq'
    | cont => exact False.elim hq'
/-- C(e) -/
theorem pe_err (T : OexC X.K C) (iC : PySem.W.findIn X.K (.ref C) "__init__" = some (some (.ref fI))) (tI : PySem.W.typeIn X.K (.ref fI) = some (.type "function")) (hf : PySem.W.findIn X.K (.ref C) f = some none)
    (F1 : FnOk X.prog X.w X.K X.mg X.base CX0 k fI fd [("self" : Str), f] (spErr X.K f)) (hb : Binds X.K fd [("self" : Str), f] []) (hr : Room (k + 1) X.A) (hg : Gl X x) (hm : X.mg x = some (.ref C)) (ha : PA X [e] ta)
    (hbk : ∀ (s : Shared) (v u : Value), BindsTo s fd ⟨[v, u], []⟩ ([("self" : Str), f].zip [v, u]))
    (hdb : (x == ("__debug__" : Str)) = false := by decide) (he : starEach [e] X.env = (false, eval e X.env) :: starEach [] X.env := by rfl) :
    PE X (.Call (.Name x p) [e] [] pos) (tErrN C f ta) := by
  refine ⟨fun pins s σ H Q I h => ?_⟩
  refine wpAny_Call_Name_kw (ld_glob I hg hm ?_ hdb)
  refine PySem.W.callWith_K (h₀ := X.base) I.ok.mod.kin T.kC (thn (ha.run pos pins s σ H _ I h) fun us s1 ⟨vs, H1, I1, r1, y, ey, q1⟩ => ⟨I1.kIn, ?_⟩) he (by rfl)
  subst ey
  obtain ⟨u, rfl, ru⟩ := vals1 r1
  exact run_err T iC tI hf F1 hr (fun s v => hbk s v u) (by show 1 ≤ sizeLine; decide) I1 ru q1
/-- C(f=e) -/
theorem pe_errK {kws : List Keyword} (T : OexC X.K C) (iC : PySem.W.findIn X.K (.ref C) "__init__" = some (some (.ref fI))) (tI : PySem.W.typeIn X.K (.ref fI) = some (.type "function")) (hf : PySem.W.findIn X.K (.ref C) f = some none)
    (F1 : FnOk X.prog X.w X.K X.mg X.base CX0 k fI fd [("self" : Str), f] (spErr X.K f)) (hr : Room (k + 1) X.A) (hg : Gl X x) (hm : X.mg x = some (.ref C)) (hkw : PK X kws ta)
    (hbk : ∀ (s : Shared) (v u : Value), BindsTo s fd ⟨[v], [(f, u)]⟩ ([("self" : Str), f].zip [v, u]))
    (hall : (backToKw pos (keywordEach kws X.env)).all (·.1.isSome) = true := by rfl) (hks : (backToKw pos (keywordEach kws X.env)).filterMap (·.1) = [f] := by rfl) (hdb : (x == ("__debug__" : Str)) = false := by decide)
    (hpl : ((backTo pos (starEach [] X.env)).any (·.1) || (backToKw pos (keywordEach kws X.env)).any (·.1.isNone)) = false := by rfl) :
    PE X (.Call (.Name x p) [] kws pos) (tErrN C f ta) := by
  refine ⟨fun pins s σ H Q I h => ?_⟩
  refine wpAny_Call_Name_kw (ld_glob I hg hm ?_ hdb)
  refine PySem.W.callWith_KW0 (h₀ := X.base) I.ok.mod.kin T.kC hall ?_ hpl
  refine thn (hkw.run pos pins s σ H _ I h) fun us s1 ⟨vs, H1, I1, r1, y, ey, q1⟩ => ⟨I1.kIn, ?_⟩
  rw [hks]
  subst ey
  obtain ⟨u, rfl, ru⟩ := vals1 r1
  exact run_err T iC tI hf F1 hr (fun s v => hbk s v u) (by show 0 ≤ sizeLine; decide) I1 ru q1
end
end WR
end

section
set_option Elab.async false
set_option linter.all false
set_option maxRecDepth 100000
set_option maxHeartbeats 4000000
/-! Defs that are called where no text of a thing is being made (guards = some []): so repr(thing) may be asked in them. -/
namespace WG
open PySem PySem.Spec PyProof.Rows L2
/-- as FnOk, for calls under no guard -/
structure FnG (P : Program) (w : World) (K : PySem.W.Frag) (mg : Str → Option Value) (base : Heap)
    (CX : CXT) (k : Nat) (f : Addr) (fd : FuncData) (ps : List Str) (sp : Sp) : Prop where
  len : ∀ vs H Q E, sp vs H Q E → vs.length = ps.length
  run : ∀ (A : Around) (outer : List Env) (s : Shared) (H : Hp) (args : Args) (us : List Value) (vs : List V)
    (Q : VK) (E : XK), Room k A → A.guards = some [] → Env0 P w K mg base A outer s H →
    BindsTo s fd args (ps.zip us) → Vals vs us → sp vs H Q E →
    codeAny (model P w) A (.call (.ref f) args) (CR CX outer P w H s Q E) s
section
variable {P : Program} {w : World} {K : PySem.W.Frag} {mg : Str → Option Value} {base : Heap} {CX : CXT}
variable {k : Nat} {f : Addr} {fd : FuncData} {ps : List Str} {sp : Sp}
theorem FnG.of (F : FnOk P w K mg base CX k f fd ps sp) : FnG P w K mg base CX k f fd ps sp :=
  ⟨F.len, fun A outer s H args us vs Q E hr _ e0 hb hv hs => F.run A outer s H args us vs Q E hr e0 hb hv hs⟩
theorem FnG.mono {j : Nat} (F : FnG P w K mg base CX j f fd ps sp) (h : j ≤ k) : FnG P w K mg base CX k f fd ps sp :=
  ⟨F.len, fun A outer s H args us vs Q E hr => F.run A outer s H args us vs Q E (hr.mono h)⟩
/-- a def by its body, which may ask for texts -/
theorem okG {x qual : Str} {st : Stmt} {N : List Str} (F : Fun K x qual st f fd) (S : FnScope N ps (defScope st))
    (len : ∀ vs H Q E, sp vs H Q E → vs.length = ps.length)
    (body : ∀ (cdv : Value) (A : Around) (outer : List Env) (s : Shared) (H : Hp) (vs : List V) (Q : VK) (E : XK),
      Room k (A.deeper (envOfC qual (defScope st) s.heap.objs.size f cdv)) →
      (A.deeper (envOfC qual (defScope st) s.heap.objs.size f cdv)).guards = some [] → sp vs H Q E →
      ∃ t, PSs (cxOf CX P w K mg base N qual (defScope st) f cdv A outer s H E).nox (defBody st) t ∧
        t { nx := fun _ H' => Q .non H', rt := Q } (start N vs) H) :
    FnG P w K mg base CX (k + 1) f fd ps sp := by
  obtain ⟨oc, od, kV, doc, pm, an, cdv, ct, osl, rfl, lk, hcd⟩ := F.ex
  refine ⟨len, fun A outer s H args us vs Q E hr hga e0 hb r hsp => ?_⟩
  have hl := len _ _ _ _ hsp
  have KX : K.In s.heap := e0.mod.kin.keeps
    fun b o e => (e0.bs b o e).1
  have lim : s.heap.NoLimit := e0.mod.nolimit.keeps
    fun b o e => (e0.bs b o e).1
  have hkind : ∀ y ∈ ps.zip us, (defScope st).names.lookup y.1 = some .local ∨
      ((defScope st).names.lookup y.1 = some .cell ∧
        ((cellsFrom (s.heap.objs.size + 1) (defScope st).names []).lookup y.1).isSome = true) := by
    rintro ⟨n, v⟩ hy
    rcases S.par n (List.of_mem_zip hy).1 with q | q
    · exact .inl q
    · exact .inr ⟨q, PySem.W.cellsFrom_some _ _ _ (.inl q)⟩
  refine codeAny_call_function hr.depth (KX _ _ lk) rfl S.co S.gen rfl
    (PySem.W.codeRec_of KX hcd) (hb _ _ _ _ ?_)
  refine wpAny_newFunctionEnv_cells S.kind hkind
    fun env he s1 x => ?_
  subst he
  refine ⟨lim.keeps x.toInCall.keep,
    codeAny_func ?_⟩
  obtain ⟨t, ht, hq⟩ := body cdv A outer s H vs Q E (hr.deeper _) hga hsp
  have I := inv_start (CX := CX) (E := E) S hr.hd e0 hl r x
  refine wpAny_mono (ht.nox.run [] s1 (start N vs) H _ I hq)
    (fun fl s' hs => ?_) fun e s' hs => hs
  have fin : ∀ {σ' : L2.St} {H' : Hp} {v : V} {u : Value},
      Inv (cxOf CX P w K mg base N qual (defScope st) f cdv A outer s H E) [] σ' H' s' →
      RelV v u → Q v H' → CE outer P w H s Q u s' :=
    fun J rv q => ⟨_, _, J.os, J.bare, J.base, J.hok, rv, q⟩
  cases fl with
  | ret u =>
    obtain ⟨v, σ', H', J, rv, q⟩ := hs
    exact fin J rv q
  | next =>
    obtain ⟨σ', H', J, q⟩ := hs
    exact fin (v := V.non) (u := Value.none) J rfl q
  | brk =>
    obtain ⟨_, _, _, q⟩ := hs
    exact False.elim q
  | cont =>
    obtain ⟨_, _, _, q⟩ := hs
    exact False.elim q
end
section
variable {X : Cx} {CX : CXT} {k : Nat} {f : Addr} {fd : FuncData} {ps : List Str} {sp : Sp} {E : XK} {x : Str}
variable {ds : List Value} {dvs : List V} {p pos : Pos} {e : Expr} {es : List Expr} {t : TA}
/-- f(e, ..), under no guard -/
theorem pe_callG (F : FnG X.prog X.w X.K X.mg X.base CX k f fd ps sp) (hgu : X.A.guards = some []) (hr : Room k X.A) (hg : Gl X x)
    (hm : X.mg x = some (.ref f)) (hk : PySem.W.keepIn X.K (.ref f) = true) (hb : Binds X.K fd ps ds) (hd : Vals dvs ds)
    (hx : Passes CX X E) (ha : PA X (e :: es) t) (hdb : (x == ("__debug__" : Str)) = false := by decide)
    (he : starEach (e :: es) X.env = (false, eval e X.env) :: starEach es X.env := by rfl)
    (hpl : (backTo pos (starEach es X.env)).any (·.1) = false := by rfl) :
    PE X (.Call (.Name x p) (e :: es) [] pos) (tCall sp dvs E t) := by
  refine ⟨fun pins s σ H Q I h => ?_⟩
  refine wpAny_Call_Name_kw (ld_glob I hg hm ?_ hdb)
  refine PySem.W.callWith_K (h₀ := X.base) I.ok.mod.kin hk
    (thn (ha.run pos pins s σ H _ I h) fun us s1 ⟨vs, H1, I1, r, q⟩ => ⟨I1.kIn, ?_⟩) he hpl
  have r2 : Vals (vs ++ dvs) (us ++ ds) := r.append hd
  have hl : (us ++ ds).length = ps.length := by
    rw [← r2.length]
    exact F.len _ _ _ _ q
  refine wpAny_call (codeAny_mono (F.run X.A X.stack s1 H1 ⟨us, []⟩ (us ++ ds) (vs ++ dvs) Q E hr hgu I1.env0
    (hb s1 us I1.kIn hl) r2 q) fun r s' hq => ?_)
  cases r with
  | error er => exact hx pins σ H1 s1 er s' I1 hq
  | ok fl =>
    cases fl with
    | ret u => exact I1.after hq
    | next => exact False.elim hq
    | brk => exact False.elim hq
    | cont => exact False.elim hq
/-! ### texts of things -/
/-- what stands at v reads as d -/
def Rdb (X : Cx) (H : Hp) (v : V) (d : PyData) : Prop :=
  ∀ (pins : List (Addr × Obj)) (σ : L2.St) (s : Shared), Inv X pins σ H s → ∀ u, RelV v u →
    ∃ as, Reads s.heap u d as ∧ (d.hasDict = true → sysModules ∉ as)
theorem rdb_dp {H : Hp} {v : V} {d : PyData} (h : Dp X.K H v d) (hn : d.hasDict = false) : Rdb X H v d :=
  fun pins σ s I u r => by
    obtain ⟨as, q⟩ := Dp.reads I d v u h r
    exact ⟨as, q, fun z => by rw [hn] at z; cases z⟩
/-- repr of a list or a tuple -/
def rRepr (X : Cx) : List V → Hp → VK → Prop := fun xs H Q => ∃ (a : Addr) (d : PyData), xs = [.ref a] ∧ Rdb X H (.ref a) d ∧
  d.showable = true ∧ d.depth ≤ 60 ∧ d.shown.length ≤ sizeLine ∧ Q (.str d.shown) H
theorem call_repr (hgu : X.A.guards = some []) (hu : X.A.units + 64 < cLine) : CallR X (.builtin "repr") (rRepr X) := by
  intro pins s σ H xs us Q I r h
  obtain ⟨a, d, rfl, hd, hs, hdp, hz, q⟩ := h
  obtain ⟨u, rfl, ru⟩ := vals1 r
  obtain ⟨as, rd, hm⟩ := hd pins σ s I u ru
  cases (show u = Value.ref a from ru)
  exact repr_of_reads' rd hs hm hgu (by omega) (fun _ _ z => z)
    (fun h' u' tk hk => ⟨.str d.shown, H, I.kept (t' := tk) hk, ⟨u', rfl⟩, q⟩) hz
end
end WG
end

section
set_option Elab.async false
set_option linter.all false
set_option maxRecDepth 100000
set_option maxHeartbeats 4000000
/-! The law's own call, under no guard. -/
namespace WG
open PySem PySem.Spec PyProof.Rows L2
section
variable {P : Program} {w : World} {K : PySem.W.Frag} {mg mb : Str → Option Value} {k : Nat} {fa a : Addr} {fd : FuncData}
variable {x : Str} {sp : Sp} {s₁ : Shared} {vs : List Value} {ns : List Int}
/-- what the call is wanted to leave -/
abbrev LawEnd (s₁ : Shared) (r : Result) (s' : Shared) : Prop :=
  r = .ok (.ret (.bool true)) ∧ OldK s₁.heap s'.heap ∧ s'.os = s₁.os ∧ AllBare s'.gens
theorem law_core (KX : K.In s₁.heap) (hns : s₁.heap.Ns mainGlobals mg) (hb : s₁.heap.Ns builtinsNs mb)
    (hbb : ∀ x : Str, x ≠ "__name__" → mb x = bootBuiltins x) (hlim : s₁.heap.NoLimit) (hg : s₁.gens = #[])
    (ha : s₁.heap.get? a = some { cls := .type "list", data := .seq vs.toArray }) (hr : Room k callerA)
    (F : ∀ base : Heap, K.In base → base.Ns mainGlobals mg → FnG P w K mg base CX0 k fa fd [x] sp)
    (hbind : ∀ (s : Shared) (u : Value), BindsTo s fd ⟨[u], []⟩ [(x, u)]) (H : Hp) (hO : Only H)
    (hsp : sp [.ref a] H (fun v _ => v = .bl true) fun _ _ _ => False) (hok : HOk P w H s₁.heap)
    (hA : ∀ b, H b ≠ none → b = a) (hK : H a ≠ none → K.lookup a = none) :
    codeAny (model P w) callerA (.call (.ref fa) ⟨[.ref a], []⟩) (LawEnd s₁) s₁ := by
  have nd : ∀ {b : Addr} {o : Obj} {es : Array DictEntry} {ep : Nat},
      s₁.heap.get? b = some o → o.data = .dict es ep → H b = none := by
    intro b o es ep e d
    cases q : H b with
    | none => rfl
    | some u =>
      have e' : b = a := hA b (by rw [q]; simp)
      subst e'
      rw [ha] at e
      cases e
      have d' : Data.seq vs.toArray _ = Data.dict es ep := d
      cases d'
  have nsK : ∀ {b : Addr} {m : Str → Option Value}, s₁.heap.Ns b m → (hidT s₁.heap H).Ns b m := by
    rintro b m ⟨o, es, ep, e, d, r⟩
    exact ⟨o, es, ep, hidT_get e (nd e d), d, r⟩
  have hKb : K.In (hidT s₁.heap H) := by
    intro b o e
    refine hidT_get (KX b o e) ?_
    cases q : H b with
    | none => rfl
    | some u =>
      have e' : b = a := hA b (by rw [q]; simp)
      subst e'
      rw [hK (by rw [q]; simp)] at e
      cases e
  have hM : Mod K mg (hidT s₁.heap H) := by
    obtain ⟨mc, h1, h2⟩ := hlim
    exact ⟨hKb, nsK hns, ⟨mb, nsK hb, hbb⟩, ⟨mc, nsK h1, h2⟩⟩
  have e0 : Env0 P w K mg (hidT s₁.heap H) callerA [] s₁ H :=
    { frames := rfl, mod := hM, bs := fun b o e => of_hidT e, bsz := Nat.le_of_eq (hidT_size _ _), funs := trivial,
      frf := fun b hb => absurd (show b ∈ ([] : List Addr) from hb) (by simp), hok := hok, bare := .of_eq hg }
  have run := (F _ hKb (nsK hns)).run callerA [] s₁ H ⟨[.ref a], []⟩ [.ref a] [.ref a] _ _ hr rfl e0
    (hbind s₁ (.ref a)) (.cons rfl .nil) hsp
  refine codeAny_mono run fun r s' h => ?_
  cases r with
  | error e => exact False.elim h
  | ok fl =>
    cases fl with
    | next => exact False.elim h
    | brk => exact False.elim h
    | cont => exact False.elim h
    | ret u =>
      obtain ⟨v, H', os, bare, un, hok', r', q⟩ := h
      have q' : v = .bl true := q
      subst q'
      obtain rfl : u = Value.bool true := r'
      refine ⟨rfl, OldK.of_keep ?_, os, bare⟩
      intro b o e
      cases q : H b with
      | none =>
        exact un.keep b o e q (fun z => absurd (show b ∈ ([] : List Addr) from z) (by simp)) (by simp)
      | some u =>
        rcases hO b with z | ⟨ob, xs, z⟩
        · rw [q] at z
          cases z
        · obtain ⟨e1, _⟩ := hok b _ z
          obtain ⟨e2, _⟩ := hok' b _ (un.frzs b ob _ z)
          rw [e] at e1
          cases e1
          exact e2
theorem law_end (KX : K.In s₁.heap) (hns : s₁.heap.Ns mainGlobals mg) (hb : s₁.heap.Ns builtinsNs mb)
    (hbb : ∀ x : Str, x ≠ "__name__" → mb x = bootBuiltins x) (hlim : s₁.heap.NoLimit) (hg : s₁.gens = #[])
    (ha : s₁.heap.get? a = some { cls := .type "list", data := .seq vs.toArray }) (hi : IntsAre vs ns)
    (hl : ns.length ≤ sizeLine) (hr : Room k callerA)
    (F : ∀ base : Heap, K.In base → base.Ns mainGlobals mg → FnG P w K mg base CX0 k fa fd [x] sp)
    (hbind : ∀ (s : Shared) (u : Value), BindsTo s fd ⟨[u], []⟩ [(x, u)])
    (hsp : ∀ H : Hp, Only H → SqL K H a (ns.map V.int) → sp [.ref a] H (fun v _ => v = .bl true) fun _ _ _ => False) :
    codeAny (model P w) callerA (.call (.ref fa) ⟨[.ref a], []⟩) (LawEnd s₁) s₁ := by
  have rv := vals_ints hi
  have lv := hi.length
  cases hk : K.lookup a with
  | some o =>
    have e := KX a o hk
    rw [ha] at e
    cases e
    have hS : SqL K (fun _ => none) a (ns.map V.int) :=
      .inr ⟨_, vs.toArray, _, hk, rfl, rfl, rfl, by rw [List.size_toArray, lv]; exact hl, by simpa using rv⟩
    refine law_core KX hns hb hbb hlim hg ha hr F hbind (fun _ => none) (fun _ => .inl rfl) (hsp _ (fun _ => .inl rfl) hS) ?_ ?_ ?_
    · intro b u z
      have z' : (none : Option HO) = some u := z
      cases z'
    · exact fun b z => absurd rfl z
    · exact fun z => absurd rfl z
  | none =>
    let ob : Obj := { cls := .type "list", data := .seq vs.toArray }
    let H : Hp := fun b => if b = a then some (.frz ob (.lst (ns.map V.int))) else none
    have h1 : H a = some (.frz ob (.lst (ns.map V.int))) := if_pos rfl
    have h2 : ∀ b, b ≠ a → H b = none := fun b hb => if_neg hb
    have hO : Only H := by
      intro b
      by_cases hb : b = a
      · exact .inr ⟨_, _, by rw [hb]; exact h1⟩
      · exact .inl (h2 b hb)
    refine law_core KX hns hb hbb hlim hg ha hr F hbind H hO (hsp H hO (.inl (.inr ⟨ob, h1⟩))) ?_ ?_ fun _ => hk
    · intro b u z
      by_cases hb : b = a
      · subst hb
        rw [h1] at z
        cases z
        exact ⟨ha, by rw [List.length_map]; exact hl, vs, _, rv, ha⟩
      · rw [h2 b hb] at z
        cases z
    · intro b z
      by_cases hb : b = a
      · exact hb
      · exact absurd (h2 b hb) z
end
/-- the goal that k_head leaves, from the law's promise -/
theorem walkG {l : PySem.W.OpenLaw} {n k : Nat} {q : Program} {loose : List Str} {XP : (Str → Option Value) → Heap → Prop} {YP : World → Heap → Prop}
    {d : DefRec} {K : Params → PySem.W.Frag} {sp : PySem.W.Frag → Sp} {x : Str}
    (hn : l.most = some n) (hn2 : n ≤ sizeLine) (hdf : d.params.defaults = []) (hr : Room k callerA)
    (hY : ∀ (w : World) (h : Heap), YP w h → (K w.params).In h)
    (F : ∀ (w : World) (mg : Str → Option Value) (fa : Addr) (h : Heap), (K w.params).In h → h.Ns mainGlobals mg → mg d.name = some (.ref fa) →
      ∃ fd : FuncData, (∀ (s : Shared) (u : Value), BindsTo s fd ⟨[u], []⟩ [(x, u)]) ∧
        ∀ base : Heap, (K w.params).In base → base.Ns mainGlobals mg → FnG l.prog w (K w.params) mg base CX0 k fa fd [x] (sp (K w.params)))
    (hsp : ∀ (K : PySem.W.Frag) (H : Hp) (a : Addr) (ns : List Int), ns.length ≤ n → SqL K H a (ns.map V.int) →
      sp K [.ref a] H (fun v _ => v = .bl true) fun _ _ _ => False) :
    PySem.W.WalkO q loose XP YP l.row.toRowW d [] (fun f vs => PySem.call f vs) := by
  refine Att.attach_call hn hdf fun w s₀ s₁ mg mb fa o pm cd doc a vs ns G Y ho hd hcd hmg hobj hints hlen hg => ?_
  have KX := hY w _ Y
  obtain ⟨fd, hb, hF⟩ := F w mg fa _ KX G.T.g hmg
  exact law_end KX G.T.g G.T.b G.T.builtins G.T.nolimit hg hobj hints
    (Nat.le_trans hlen hn2) hr hF hb fun H _ hS => hsp _ H a ns hlen hS
end WG
end

section
set_option Elab.async false
set_option linter.all false
set_option maxRecDepth 100000
set_option maxHeartbeats 8000000
namespace WW
open PySem L2 WR WG
abbrev sAny : Stmt := top 48
abbrev sKinds : Stmt := top 49
abbrev sPlain : Stmt := top 50
abbrev sErrs : Stmt := top 51
abbrev sLaw : Stmt := top 52
/-- the classes' names, in the law's sequence, WaitError behind them -/
def kn (i : Nat) : Str := ((["BadRows", "BadPromises", "NotTold", "BadParcels", "NoEnd", "BadStations", "BadRow", "BadRun", "BadBundle", "BadServices", "BadMeter", "BadTimetable", "BadGates", "BadBookings", "BadBooking", "BadWays", "BadDeadlines", "BadPromise", "BadPages", "BadKeeper", "NotNow", "BadStop", "BadFlow", "BadServer", "BadChange", "BadLimits", "BadSession", "BadDeed", "BadNames", "BadNumber", "BadCurve", "TooMany", "BadStation", "BadTraffic", "BadSystem", "NotKept", "BadNet", "BadPlay", "NotLet", "BadLine", "BadText", "WaitError"] : List String).map Str.ofString).getD i ""
structure Cls (K : PySem.W.Frag) (mg : Str → Option Value) (c : Nat → Addr) : Prop where
  nm : ∀ i, i < 42 → mg (kn i) = some (.ref (c i))
  kp : ∀ i, i < 42 → PySem.W.keepIn K (.ref (c i)) = true
  ex : ∀ i, i < 29 ∨ i = 41 → PySem.W.excIn K (c i) [.type "ValueError", .type "Exception", .type "BaseException", .type "object"] "ValueError.__new__" = true
theorem same_new {H : Hp} {p : Addr} {o : HO} (h : H p = none) : Same H (upd H p o) := fun b u e => by rw [upd_ne (ne_of_none e h)]; exact e
/-- errors without an attribute, of the classes from i on -/
def Bare (H : Hp) (c : Nat → Addr) : Nat → List Addr → Prop
  | _, [] => True
  | i, a :: r => ErrAt H a (c i) none ∧ Bare H c (i + 1) r
theorem keep1 {H : Hp} {p b : Addr} {o u : HO} (e : H b = some u) (h : H p = none) : upd H p o b = some u := by rw [upd_ne (ne_of_none e h)]; exact e
theorem Bare.same {H H' : Hp} {c : Nat → Addr} (s : Same H H') : ∀ {as : List Addr} {i : Nat}, Bare H c i as → Bare H' c i as
  | [], _, _ => trivial
  | _ :: _, _, ⟨h, r⟩ => ⟨h.same s, Bare.same s r⟩
theorem bare_app {H : Hp} {c : Nat → Addr} : ∀ {as bs : List Addr} {i j : Nat}, j = i + as.length → Bare H c i as → Bare H c j bs → Bare H c i (as ++ bs)
  | [], bs, i, j, e, _, h => by
    have e' : j = i := e
    rw [← e']
    exact h
  | _ :: r, bs, i, j, e, ⟨h, q⟩, hb => ⟨h, bare_app (by rw [e, List.length_cons]; omega) q hb⟩
section
variable {P : Program} {w : World} {K : PySem.W.Frag} {mg : Str → Option Value} {base : Heap}
theorem call_isE1 {X : Cx} {C D : Addr} {b : Bool} (T : AskC X.K C) (k : PySem.W.kitOne X.K (.ref C) (.ref D) = some b) :
    CallR X (.builtin "isinstance") (fun xs H Q => ∃ a o, xs = [.ref a, .ref D] ∧ ErrAt H a C o ∧ Q (.bl b) H) := by
  intro pins s σ H xs us Q I r ⟨a, o, e, he, q⟩
  exact call_isErr pins s σ H xs us Q I r ⟨a, C, o, .ref D, .ref D, b, e, he, .own D, T, k, q⟩
/-- what is told of an error of the class C -/
structure Kind (K : PySem.W.Frag) (c : Nat → Addr) (C : Addr) (b : Nat → Bool) : Prop where
  ask : AskC K C
  kit : ∀ j, j < 41 → PySem.W.kitOne K (.ref C) (.ref (c j)) = some (b j)
def spKinds (K : PySem.W.Frag) (c : Nat → Addr) : Sp := fun vs H Q _ => ∃ (a C : Addr) (o : Option (Str × V)) (b : Nat → Bool), vs = [.ref a] ∧ ErrAt H a C o ∧ Kind K c C b ∧
  ∀ (p : Addr) (H' : Hp), H p = none → Same H H' → H' p = some (.lst ((List.range 41).map fun j => .bl (b j))) → Q (.ref p) H'
theorem scKinds : FnScope ["error", "found"] ["error"] (defScope sKinds) := ⟨rfl, rfl, rfl, by decide +kernel, rfl, by decide +kernel, by decide +kernel⟩
theorem ok_kinds {f : Addr} {fd : FuncData} {c : Nat → Addr} (F : Fun K "_law_kinds" "_law_kinds" sKinds f fd) (S : Cls K mg c) (isi : mg "isinstance" = none) : FnOk P w K mg base CX0 1 f fd ["error"] (spKinds K c) := by
  refine F.ok scKinds (fun vs H Q E h => ?_) (fun cdv A outer s H vs Q E hr h => ?_)
  · obtain ⟨a, C, o, b, rfl, _⟩ := h
    rfl
  · obtain ⟨a, C, o, b, rfl, e, T, k⟩ := h
    have hi := T.ask
    have hk := T.kit
    refine ⟨_, (C8.pss_cut (ps_set (i := 1) scKinds.nd rfl (Or.inl rfl) (pe_lst pa_nil))
        (C8.pss_cut (ps_set (i := 1) scKinds.nd rfl (Or.inl rfl) (pe_op op_cat (pv 1) (pe_lst (pa_cons (pe_callB (call_isE1 hi (hk 0 (by decide))) (by rfl) isi (by decide +kernel) (pa_cons (pv 0) (pa_cons (pe_glob (v := .ref (c 0)) rfl (S.nm 0 (by decide)) rfl) pa_nil))) (pa_cons (pe_callB (call_isE1 hi (hk 1 (by decide))) (by rfl) isi (by decide +kernel) (pa_cons (pv 0) (pa_cons (pe_glob (v := .ref (c 1)) rfl (S.nm 1 (by decide)) rfl) pa_nil))) (pa_cons (pe_callB (call_isE1 hi (hk 2 (by decide))) (by rfl) isi (by decide +kernel) (pa_cons (pv 0) (pa_cons (pe_glob (v := .ref (c 2)) rfl (S.nm 2 (by decide)) rfl) pa_nil))) pa_nil))))))
        (C8.pss_cut (ps_set (i := 1) scKinds.nd rfl (Or.inl rfl) (pe_op op_cat (pv 1) (pe_lst (pa_cons (pe_callB (call_isE1 hi (hk 3 (by decide))) (by rfl) isi (by decide +kernel) (pa_cons (pv 0) (pa_cons (pe_glob (v := .ref (c 3)) rfl (S.nm 3 (by decide)) rfl) pa_nil))) (pa_cons (pe_callB (call_isE1 hi (hk 4 (by decide))) (by rfl) isi (by decide +kernel) (pa_cons (pv 0) (pa_cons (pe_glob (v := .ref (c 4)) rfl (S.nm 4 (by decide)) rfl) pa_nil))) (pa_cons (pe_callB (call_isE1 hi (hk 5 (by decide))) (by rfl) isi (by decide +kernel) (pa_cons (pv 0) (pa_cons (pe_glob (v := .ref (c 5)) rfl (S.nm 5 (by decide)) rfl) pa_nil))) pa_nil))))))
        (C8.pss_cut (ps_set (i := 1) scKinds.nd rfl (Or.inl rfl) (pe_op op_cat (pv 1) (pe_lst (pa_cons (pe_callB (call_isE1 hi (hk 6 (by decide))) (by rfl) isi (by decide +kernel) (pa_cons (pv 0) (pa_cons (pe_glob (v := .ref (c 6)) rfl (S.nm 6 (by decide)) rfl) pa_nil))) (pa_cons (pe_callB (call_isE1 hi (hk 7 (by decide))) (by rfl) isi (by decide +kernel) (pa_cons (pv 0) (pa_cons (pe_glob (v := .ref (c 7)) rfl (S.nm 7 (by decide)) rfl) pa_nil))) (pa_cons (pe_callB (call_isE1 hi (hk 8 (by decide))) (by rfl) isi (by decide +kernel) (pa_cons (pv 0) (pa_cons (pe_glob (v := .ref (c 8)) rfl (S.nm 8 (by decide)) rfl) pa_nil))) pa_nil))))))
        (C8.pss_cut (ps_set (i := 1) scKinds.nd rfl (Or.inl rfl) (pe_op op_cat (pv 1) (pe_lst (pa_cons (pe_callB (call_isE1 hi (hk 9 (by decide))) (by rfl) isi (by decide +kernel) (pa_cons (pv 0) (pa_cons (pe_glob (v := .ref (c 9)) rfl (S.nm 9 (by decide)) rfl) pa_nil))) (pa_cons (pe_callB (call_isE1 hi (hk 10 (by decide))) (by rfl) isi (by decide +kernel) (pa_cons (pv 0) (pa_cons (pe_glob (v := .ref (c 10)) rfl (S.nm 10 (by decide)) rfl) pa_nil))) pa_nil)))))
        (C8.pss_cut (ps_set (i := 1) scKinds.nd rfl (Or.inl rfl) (pe_op op_cat (pv 1) (pe_lst (pa_cons (pe_callB (call_isE1 hi (hk 11 (by decide))) (by rfl) isi (by decide +kernel) (pa_cons (pv 0) (pa_cons (pe_glob (v := .ref (c 11)) rfl (S.nm 11 (by decide)) rfl) pa_nil))) (pa_cons (pe_callB (call_isE1 hi (hk 12 (by decide))) (by rfl) isi (by decide +kernel) (pa_cons (pv 0) (pa_cons (pe_glob (v := .ref (c 12)) rfl (S.nm 12 (by decide)) rfl) pa_nil))) pa_nil)))))
        (C8.pss_cut (ps_set (i := 1) scKinds.nd rfl (Or.inl rfl) (pe_op op_cat (pv 1) (pe_lst (pa_cons (pe_callB (call_isE1 hi (hk 13 (by decide))) (by rfl) isi (by decide +kernel) (pa_cons (pv 0) (pa_cons (pe_glob (v := .ref (c 13)) rfl (S.nm 13 (by decide)) rfl) pa_nil))) (pa_cons (pe_callB (call_isE1 hi (hk 14 (by decide))) (by rfl) isi (by decide +kernel) (pa_cons (pv 0) (pa_cons (pe_glob (v := .ref (c 14)) rfl (S.nm 14 (by decide)) rfl) pa_nil))) pa_nil)))))
        (C8.pss_cut (ps_set (i := 1) scKinds.nd rfl (Or.inl rfl) (pe_op op_cat (pv 1) (pe_lst (pa_cons (pe_callB (call_isE1 hi (hk 15 (by decide))) (by rfl) isi (by decide +kernel) (pa_cons (pv 0) (pa_cons (pe_glob (v := .ref (c 15)) rfl (S.nm 15 (by decide)) rfl) pa_nil))) (pa_cons (pe_callB (call_isE1 hi (hk 16 (by decide))) (by rfl) isi (by decide +kernel) (pa_cons (pv 0) (pa_cons (pe_glob (v := .ref (c 16)) rfl (S.nm 16 (by decide)) rfl) pa_nil))) pa_nil)))))
        (C8.pss_cut (ps_set (i := 1) scKinds.nd rfl (Or.inl rfl) (pe_op op_cat (pv 1) (pe_lst (pa_cons (pe_callB (call_isE1 hi (hk 17 (by decide))) (by rfl) isi (by decide +kernel) (pa_cons (pv 0) (pa_cons (pe_glob (v := .ref (c 17)) rfl (S.nm 17 (by decide)) rfl) pa_nil))) (pa_cons (pe_callB (call_isE1 hi (hk 18 (by decide))) (by rfl) isi (by decide +kernel) (pa_cons (pv 0) (pa_cons (pe_glob (v := .ref (c 18)) rfl (S.nm 18 (by decide)) rfl) pa_nil))) (pa_cons (pe_callB (call_isE1 hi (hk 19 (by decide))) (by rfl) isi (by decide +kernel) (pa_cons (pv 0) (pa_cons (pe_glob (v := .ref (c 19)) rfl (S.nm 19 (by decide)) rfl) pa_nil))) pa_nil))))))
        (C8.pss_cut (ps_set (i := 1) scKinds.nd rfl (Or.inl rfl) (pe_op op_cat (pv 1) (pe_lst (pa_cons (pe_callB (call_isE1 hi (hk 20 (by decide))) (by rfl) isi (by decide +kernel) (pa_cons (pv 0) (pa_cons (pe_glob (v := .ref (c 20)) rfl (S.nm 20 (by decide)) rfl) pa_nil))) (pa_cons (pe_callB (call_isE1 hi (hk 21 (by decide))) (by rfl) isi (by decide +kernel) (pa_cons (pv 0) (pa_cons (pe_glob (v := .ref (c 21)) rfl (S.nm 21 (by decide)) rfl) pa_nil))) (pa_cons (pe_callB (call_isE1 hi (hk 22 (by decide))) (by rfl) isi (by decide +kernel) (pa_cons (pv 0) (pa_cons (pe_glob (v := .ref (c 22)) rfl (S.nm 22 (by decide)) rfl) pa_nil))) pa_nil))))))
        (C8.pss_cut (ps_set (i := 1) scKinds.nd rfl (Or.inl rfl) (pe_op op_cat (pv 1) (pe_lst (pa_cons (pe_callB (call_isE1 hi (hk 23 (by decide))) (by rfl) isi (by decide +kernel) (pa_cons (pv 0) (pa_cons (pe_glob (v := .ref (c 23)) rfl (S.nm 23 (by decide)) rfl) pa_nil))) (pa_cons (pe_callB (call_isE1 hi (hk 24 (by decide))) (by rfl) isi (by decide +kernel) (pa_cons (pv 0) (pa_cons (pe_glob (v := .ref (c 24)) rfl (S.nm 24 (by decide)) rfl) pa_nil))) (pa_cons (pe_callB (call_isE1 hi (hk 25 (by decide))) (by rfl) isi (by decide +kernel) (pa_cons (pv 0) (pa_cons (pe_glob (v := .ref (c 25)) rfl (S.nm 25 (by decide)) rfl) pa_nil))) pa_nil))))))
        (C8.pss_cut (ps_set (i := 1) scKinds.nd rfl (Or.inl rfl) (pe_op op_cat (pv 1) (pe_lst (pa_cons (pe_callB (call_isE1 hi (hk 26 (by decide))) (by rfl) isi (by decide +kernel) (pa_cons (pv 0) (pa_cons (pe_glob (v := .ref (c 26)) rfl (S.nm 26 (by decide)) rfl) pa_nil))) (pa_cons (pe_callB (call_isE1 hi (hk 27 (by decide))) (by rfl) isi (by decide +kernel) (pa_cons (pv 0) (pa_cons (pe_glob (v := .ref (c 27)) rfl (S.nm 27 (by decide)) rfl) pa_nil))) (pa_cons (pe_callB (call_isE1 hi (hk 28 (by decide))) (by rfl) isi (by decide +kernel) (pa_cons (pv 0) (pa_cons (pe_glob (v := .ref (c 28)) rfl (S.nm 28 (by decide)) rfl) pa_nil))) pa_nil))))))
        (C8.pss_cut (ps_set (i := 1) scKinds.nd rfl (Or.inl rfl) (pe_op op_cat (pv 1) (pe_lst (pa_cons (pe_callB (call_isE1 hi (hk 29 (by decide))) (by rfl) isi (by decide +kernel) (pa_cons (pv 0) (pa_cons (pe_glob (v := .ref (c 29)) rfl (S.nm 29 (by decide)) rfl) pa_nil))) (pa_cons (pe_callB (call_isE1 hi (hk 30 (by decide))) (by rfl) isi (by decide +kernel) (pa_cons (pv 0) (pa_cons (pe_glob (v := .ref (c 30)) rfl (S.nm 30 (by decide)) rfl) pa_nil))) (pa_cons (pe_callB (call_isE1 hi (hk 31 (by decide))) (by rfl) isi (by decide +kernel) (pa_cons (pv 0) (pa_cons (pe_glob (v := .ref (c 31)) rfl (S.nm 31 (by decide)) rfl) pa_nil))) pa_nil))))))
        (C8.pss_cut (ps_set (i := 1) scKinds.nd rfl (Or.inl rfl) (pe_op op_cat (pv 1) (pe_lst (pa_cons (pe_callB (call_isE1 hi (hk 32 (by decide))) (by rfl) isi (by decide +kernel) (pa_cons (pv 0) (pa_cons (pe_glob (v := .ref (c 32)) rfl (S.nm 32 (by decide)) rfl) pa_nil))) (pa_cons (pe_callB (call_isE1 hi (hk 33 (by decide))) (by rfl) isi (by decide +kernel) (pa_cons (pv 0) (pa_cons (pe_glob (v := .ref (c 33)) rfl (S.nm 33 (by decide)) rfl) pa_nil))) pa_nil)))))
        (C8.pss_cut (ps_set (i := 1) scKinds.nd rfl (Or.inl rfl) (pe_op op_cat (pv 1) (pe_lst (pa_cons (pe_callB (call_isE1 hi (hk 34 (by decide))) (by rfl) isi (by decide +kernel) (pa_cons (pv 0) (pa_cons (pe_glob (v := .ref (c 34)) rfl (S.nm 34 (by decide)) rfl) pa_nil))) (pa_cons (pe_callB (call_isE1 hi (hk 35 (by decide))) (by rfl) isi (by decide +kernel) (pa_cons (pv 0) (pa_cons (pe_glob (v := .ref (c 35)) rfl (S.nm 35 (by decide)) rfl) pa_nil))) (pa_cons (pe_callB (call_isE1 hi (hk 36 (by decide))) (by rfl) isi (by decide +kernel) (pa_cons (pv 0) (pa_cons (pe_glob (v := .ref (c 36)) rfl (S.nm 36 (by decide)) rfl) pa_nil))) pa_nil))))))
        (C8.pss_cut (ps_set (i := 1) scKinds.nd rfl (Or.inl rfl) (pe_op op_cat (pv 1) (pe_lst (pa_cons (pe_callB (call_isE1 hi (hk 37 (by decide))) (by rfl) isi (by decide +kernel) (pa_cons (pv 0) (pa_cons (pe_glob (v := .ref (c 37)) rfl (S.nm 37 (by decide)) rfl) pa_nil))) (pa_cons (pe_callB (call_isE1 hi (hk 38 (by decide))) (by rfl) isi (by decide +kernel) (pa_cons (pv 0) (pa_cons (pe_glob (v := .ref (c 38)) rfl (S.nm 38 (by decide)) rfl) pa_nil))) (pa_cons (pe_callB (call_isE1 hi (hk 39 (by decide))) (by rfl) isi (by decide +kernel) (pa_cons (pv 0) (pa_cons (pe_glob (v := .ref (c 39)) rfl (S.nm 39 (by decide)) rfl) pa_nil))) pa_nil))))))
        (C8.pss_cut (ps_set (i := 1) scKinds.nd rfl (Or.inl rfl) (pe_op op_cat (pv 1) (pe_lst (pa_cons (pe_callB (call_isE1 hi (hk 40 (by decide))) (by rfl) isi (by decide +kernel) (pa_cons (pv 0) (pa_cons (pe_glob (v := .ref (c 40)) rfl (S.nm 40 (by decide)) rfl) pa_nil))) pa_nil))))
        (pss_one (ps_ret (pv 1)))))))))))))))))))), ?_⟩
    let Mid : Nat → L2.St → Hp → Prop := fun n σ' H' => ∃ l, σ' = [some (.ref a), some (.ref l)] ∧ H l = none ∧ Same H H' ∧ H' l = some (.lst ((List.range n).map fun j => .bl (b j)))
    refine ⟨Mid 0, ⟨by decide, fun l h0 => ⟨l, rfl, h0, same_new h0, upd_same⟩⟩, ?_⟩
    rintro _ H1 ⟨l, rfl, hl, s1, g1⟩
    refine ⟨Mid 3, ⟨_, rfl, _, rfl, a, o, rfl, e.same s1, _, rfl, a, o, rfl, e.same s1, _, rfl, a, o, rfl, e.same s1, by show 3 ≤ sizeLine; decide, fun p q => ?_⟩, ?_⟩
    · refine ⟨_, _, _, _, rfl, rfl, by rw [upd_ne (ne_of_none g1 q)]; exact g1, upd_same, by show 0 + 3 ≤ sizeLine; decide, fun l2 h2 => ?_⟩
      have u : ∀ z, Same H (upd H1 p z) := fun z => s1.trans (same_new q)
      exact ⟨l2, rfl, (u _).free h2, (u _).trans (same_new h2), upd_same⟩
    rintro _ H1 ⟨l, rfl, hl, s1, g1⟩
    refine ⟨Mid 6, ⟨_, rfl, _, rfl, a, o, rfl, e.same s1, _, rfl, a, o, rfl, e.same s1, _, rfl, a, o, rfl, e.same s1, by show 3 ≤ sizeLine; decide, fun p q => ?_⟩, ?_⟩
    · refine ⟨_, _, _, _, rfl, rfl, by rw [upd_ne (ne_of_none g1 q)]; exact g1, upd_same, by show 3 + 3 ≤ sizeLine; decide, fun l2 h2 => ?_⟩
      have u : ∀ z, Same H (upd H1 p z) := fun z => s1.trans (same_new q)
      exact ⟨l2, rfl, (u _).free h2, (u _).trans (same_new h2), upd_same⟩
    rintro _ H1 ⟨l, rfl, hl, s1, g1⟩
    refine ⟨Mid 9, ⟨_, rfl, _, rfl, a, o, rfl, e.same s1, _, rfl, a, o, rfl, e.same s1, _, rfl, a, o, rfl, e.same s1, by show 3 ≤ sizeLine; decide, fun p q => ?_⟩, ?_⟩
    · refine ⟨_, _, _, _, rfl, rfl, by rw [upd_ne (ne_of_none g1 q)]; exact g1, upd_same, by show 6 + 3 ≤ sizeLine; decide, fun l2 h2 => ?_⟩
      have u : ∀ z, Same H (upd H1 p z) := fun z => s1.trans (same_new q)
      exact ⟨l2, rfl, (u _).free h2, (u _).trans (same_new h2), upd_same⟩
    rintro _ H1 ⟨l, rfl, hl, s1, g1⟩
    refine ⟨Mid 11, ⟨_, rfl, _, rfl, a, o, rfl, e.same s1, _, rfl, a, o, rfl, e.same s1, by show 2 ≤ sizeLine; decide, fun p q => ?_⟩, ?_⟩
    · refine ⟨_, _, _, _, rfl, rfl, by rw [upd_ne (ne_of_none g1 q)]; exact g1, upd_same, by show 9 + 2 ≤ sizeLine; decide, fun l2 h2 => ?_⟩
      have u : ∀ z, Same H (upd H1 p z) := fun z => s1.trans (same_new q)
      exact ⟨l2, rfl, (u _).free h2, (u _).trans (same_new h2), upd_same⟩
    rintro _ H1 ⟨l, rfl, hl, s1, g1⟩
    refine ⟨Mid 13, ⟨_, rfl, _, rfl, a, o, rfl, e.same s1, _, rfl, a, o, rfl, e.same s1, by show 2 ≤ sizeLine; decide, fun p q => ?_⟩, ?_⟩
    · refine ⟨_, _, _, _, rfl, rfl, by rw [upd_ne (ne_of_none g1 q)]; exact g1, upd_same, by show 11 + 2 ≤ sizeLine; decide, fun l2 h2 => ?_⟩
      have u : ∀ z, Same H (upd H1 p z) := fun z => s1.trans (same_new q)
      exact ⟨l2, rfl, (u _).free h2, (u _).trans (same_new h2), upd_same⟩
    rintro _ H1 ⟨l, rfl, hl, s1, g1⟩
    refine ⟨Mid 15, ⟨_, rfl, _, rfl, a, o, rfl, e.same s1, _, rfl, a, o, rfl, e.same s1, by show 2 ≤ sizeLine; decide, fun p q => ?_⟩, ?_⟩
    · refine ⟨_, _, _, _, rfl, rfl, by rw [upd_ne (ne_of_none g1 q)]; exact g1, upd_same, by show 13 + 2 ≤ sizeLine; decide, fun l2 h2 => ?_⟩
      have u : ∀ z, Same H (upd H1 p z) := fun z => s1.trans (same_new q)
      exact ⟨l2, rfl, (u _).free h2, (u _).trans (same_new h2), upd_same⟩
    rintro _ H1 ⟨l, rfl, hl, s1, g1⟩
    refine ⟨Mid 17, ⟨_, rfl, _, rfl, a, o, rfl, e.same s1, _, rfl, a, o, rfl, e.same s1, by show 2 ≤ sizeLine; decide, fun p q => ?_⟩, ?_⟩
    · refine ⟨_, _, _, _, rfl, rfl, by rw [upd_ne (ne_of_none g1 q)]; exact g1, upd_same, by show 15 + 2 ≤ sizeLine; decide, fun l2 h2 => ?_⟩
      have u : ∀ z, Same H (upd H1 p z) := fun z => s1.trans (same_new q)
      exact ⟨l2, rfl, (u _).free h2, (u _).trans (same_new h2), upd_same⟩
    rintro _ H1 ⟨l, rfl, hl, s1, g1⟩
    refine ⟨Mid 20, ⟨_, rfl, _, rfl, a, o, rfl, e.same s1, _, rfl, a, o, rfl, e.same s1, _, rfl, a, o, rfl, e.same s1, by show 3 ≤ sizeLine; decide, fun p q => ?_⟩, ?_⟩
    · refine ⟨_, _, _, _, rfl, rfl, by rw [upd_ne (ne_of_none g1 q)]; exact g1, upd_same, by show 17 + 3 ≤ sizeLine; decide, fun l2 h2 => ?_⟩
      have u : ∀ z, Same H (upd H1 p z) := fun z => s1.trans (same_new q)
      exact ⟨l2, rfl, (u _).free h2, (u _).trans (same_new h2), upd_same⟩
    rintro _ H1 ⟨l, rfl, hl, s1, g1⟩
    refine ⟨Mid 23, ⟨_, rfl, _, rfl, a, o, rfl, e.same s1, _, rfl, a, o, rfl, e.same s1, _, rfl, a, o, rfl, e.same s1, by show 3 ≤ sizeLine; decide, fun p q => ?_⟩, ?_⟩
    · refine ⟨_, _, _, _, rfl, rfl, by rw [upd_ne (ne_of_none g1 q)]; exact g1, upd_same, by show 20 + 3 ≤ sizeLine; decide, fun l2 h2 => ?_⟩
      have u : ∀ z, Same H (upd H1 p z) := fun z => s1.trans (same_new q)
      exact ⟨l2, rfl, (u _).free h2, (u _).trans (same_new h2), upd_same⟩
    rintro _ H1 ⟨l, rfl, hl, s1, g1⟩
    refine ⟨Mid 26, ⟨_, rfl, _, rfl, a, o, rfl, e.same s1, _, rfl, a, o, rfl, e.same s1, _, rfl, a, o, rfl, e.same s1, by show 3 ≤ sizeLine; decide, fun p q => ?_⟩, ?_⟩
    · refine ⟨_, _, _, _, rfl, rfl, by rw [upd_ne (ne_of_none g1 q)]; exact g1, upd_same, by show 23 + 3 ≤ sizeLine; decide, fun l2 h2 => ?_⟩
      have u : ∀ z, Same H (upd H1 p z) := fun z => s1.trans (same_new q)
      exact ⟨l2, rfl, (u _).free h2, (u _).trans (same_new h2), upd_same⟩
    rintro _ H1 ⟨l, rfl, hl, s1, g1⟩
    refine ⟨Mid 29, ⟨_, rfl, _, rfl, a, o, rfl, e.same s1, _, rfl, a, o, rfl, e.same s1, _, rfl, a, o, rfl, e.same s1, by show 3 ≤ sizeLine; decide, fun p q => ?_⟩, ?_⟩
    · refine ⟨_, _, _, _, rfl, rfl, by rw [upd_ne (ne_of_none g1 q)]; exact g1, upd_same, by show 26 + 3 ≤ sizeLine; decide, fun l2 h2 => ?_⟩
      have u : ∀ z, Same H (upd H1 p z) := fun z => s1.trans (same_new q)
      exact ⟨l2, rfl, (u _).free h2, (u _).trans (same_new h2), upd_same⟩
    rintro _ H1 ⟨l, rfl, hl, s1, g1⟩
    refine ⟨Mid 32, ⟨_, rfl, _, rfl, a, o, rfl, e.same s1, _, rfl, a, o, rfl, e.same s1, _, rfl, a, o, rfl, e.same s1, by show 3 ≤ sizeLine; decide, fun p q => ?_⟩, ?_⟩
    · refine ⟨_, _, _, _, rfl, rfl, by rw [upd_ne (ne_of_none g1 q)]; exact g1, upd_same, by show 29 + 3 ≤ sizeLine; decide, fun l2 h2 => ?_⟩
      have u : ∀ z, Same H (upd H1 p z) := fun z => s1.trans (same_new q)
      exact ⟨l2, rfl, (u _).free h2, (u _).trans (same_new h2), upd_same⟩
    rintro _ H1 ⟨l, rfl, hl, s1, g1⟩
    refine ⟨Mid 34, ⟨_, rfl, _, rfl, a, o, rfl, e.same s1, _, rfl, a, o, rfl, e.same s1, by show 2 ≤ sizeLine; decide, fun p q => ?_⟩, ?_⟩
    · refine ⟨_, _, _, _, rfl, rfl, by rw [upd_ne (ne_of_none g1 q)]; exact g1, upd_same, by show 32 + 2 ≤ sizeLine; decide, fun l2 h2 => ?_⟩
      have u : ∀ z, Same H (upd H1 p z) := fun z => s1.trans (same_new q)
      exact ⟨l2, rfl, (u _).free h2, (u _).trans (same_new h2), upd_same⟩
    rintro _ H1 ⟨l, rfl, hl, s1, g1⟩
    refine ⟨Mid 37, ⟨_, rfl, _, rfl, a, o, rfl, e.same s1, _, rfl, a, o, rfl, e.same s1, _, rfl, a, o, rfl, e.same s1, by show 3 ≤ sizeLine; decide, fun p q => ?_⟩, ?_⟩
    · refine ⟨_, _, _, _, rfl, rfl, by rw [upd_ne (ne_of_none g1 q)]; exact g1, upd_same, by show 34 + 3 ≤ sizeLine; decide, fun l2 h2 => ?_⟩
      have u : ∀ z, Same H (upd H1 p z) := fun z => s1.trans (same_new q)
      exact ⟨l2, rfl, (u _).free h2, (u _).trans (same_new h2), upd_same⟩
    rintro _ H1 ⟨l, rfl, hl, s1, g1⟩
    refine ⟨Mid 40, ⟨_, rfl, _, rfl, a, o, rfl, e.same s1, _, rfl, a, o, rfl, e.same s1, _, rfl, a, o, rfl, e.same s1, by show 3 ≤ sizeLine; decide, fun p q => ?_⟩, ?_⟩
    · refine ⟨_, _, _, _, rfl, rfl, by rw [upd_ne (ne_of_none g1 q)]; exact g1, upd_same, by show 37 + 3 ≤ sizeLine; decide, fun l2 h2 => ?_⟩
      have u : ∀ z, Same H (upd H1 p z) := fun z => s1.trans (same_new q)
      exact ⟨l2, rfl, (u _).free h2, (u _).trans (same_new h2), upd_same⟩
    rintro _ H1 ⟨l, rfl, hl, s1, g1⟩
    refine ⟨Mid 41, ⟨_, rfl, _, rfl, a, o, rfl, e.same s1, by show 1 ≤ sizeLine; decide, fun p q => ?_⟩, ?_⟩
    · refine ⟨_, _, _, _, rfl, rfl, by rw [upd_ne (ne_of_none g1 q)]; exact g1, upd_same, by show 40 + 1 ≤ sizeLine; decide, fun l2 h2 => ?_⟩
      have u : ∀ z, Same H (upd H1 p z) := fun z => s1.trans (same_new q)
      exact ⟨l2, rfl, (u _).free h2, (u _).trans (same_new h2), upd_same⟩
    rintro _ H1 ⟨l, rfl, hl, s1, g1⟩
    exact ⟨_, rfl, k _ _ hl s1 g1⟩
def spPlain (K : PySem.W.Frag) (c : Nat → Addr) : Sp := fun vs H Q _ => ∃ (x : V), vs = [x] ∧
  ∀ (p : Addr) (as : List Addr) (H' : Hp), H p = none → Same H H' → Bare H' c 0 as → as.length = 29 → H' p = some (.lst (as.map V.ref)) → Q (.ref p) H'
theorem scPlain : FnScope ["words_here", "found"] ["words_here"] (defScope sPlain) := ⟨rfl, rfl, rfl, by decide +kernel, rfl, by decide +kernel, by decide +kernel⟩
theorem ok_plain {f : Addr} {fd : FuncData} {c : Nat → Addr} (F : Fun K "_law_plain_errors" "_law_plain_errors" sPlain f fd) (S : Cls K mg c) : FnOk P w K mg base CX0 1 f fd ["words_here"] (spPlain K c) := by
  refine F.ok scPlain (fun vs H Q E h => ?_) (fun cdv A outer s H vs Q E hr h => ?_)
  · obtain ⟨x, rfl, _⟩ := h
    rfl
  · obtain ⟨x, rfl, k⟩ := h
    refine ⟨_, (C8.pss_cut (ps_set (i := 1) scPlain.nd rfl (Or.inl rfl) (pe_lst pa_nil))
        (C8.pss_cut (ps_set (i := 1) scPlain.nd rfl (Or.inl rfl) (pe_op op_cat (pv 1) (pe_lst (pa_cons (pe_exc1 PySem.F.excBase_ValueError (S.ex 0 (by decide)) (S.nm 0 (by decide)) (S.kp 0 (by decide)) rfl (pv 0)) (pa_cons (pe_exc1 PySem.F.excBase_ValueError (S.ex 1 (by decide)) (S.nm 1 (by decide)) (S.kp 1 (by decide)) rfl (pv 0)) (pa_cons (pe_exc1 PySem.F.excBase_ValueError (S.ex 2 (by decide)) (S.nm 2 (by decide)) (S.kp 2 (by decide)) rfl (pv 0)) pa_nil))))))
        (C8.pss_cut (ps_set (i := 1) scPlain.nd rfl (Or.inl rfl) (pe_op op_cat (pv 1) (pe_lst (pa_cons (pe_exc1 PySem.F.excBase_ValueError (S.ex 3 (by decide)) (S.nm 3 (by decide)) (S.kp 3 (by decide)) rfl (pv 0)) (pa_cons (pe_exc1 PySem.F.excBase_ValueError (S.ex 4 (by decide)) (S.nm 4 (by decide)) (S.kp 4 (by decide)) rfl (pv 0)) (pa_cons (pe_exc1 PySem.F.excBase_ValueError (S.ex 5 (by decide)) (S.nm 5 (by decide)) (S.kp 5 (by decide)) rfl (pv 0)) (pa_cons (pe_exc1 PySem.F.excBase_ValueError (S.ex 6 (by decide)) (S.nm 6 (by decide)) (S.kp 6 (by decide)) rfl (pv 0)) pa_nil)))))))
        (C8.pss_cut (ps_set (i := 1) scPlain.nd rfl (Or.inl rfl) (pe_op op_cat (pv 1) (pe_lst (pa_cons (pe_exc1 PySem.F.excBase_ValueError (S.ex 7 (by decide)) (S.nm 7 (by decide)) (S.kp 7 (by decide)) rfl (pv 0)) (pa_cons (pe_exc1 PySem.F.excBase_ValueError (S.ex 8 (by decide)) (S.nm 8 (by decide)) (S.kp 8 (by decide)) rfl (pv 0)) (pa_cons (pe_exc1 PySem.F.excBase_ValueError (S.ex 9 (by decide)) (S.nm 9 (by decide)) (S.kp 9 (by decide)) rfl (pv 0)) (pa_cons (pe_exc1 PySem.F.excBase_ValueError (S.ex 10 (by decide)) (S.nm 10 (by decide)) (S.kp 10 (by decide)) rfl (pv 0)) pa_nil)))))))
        (C8.pss_cut (ps_set (i := 1) scPlain.nd rfl (Or.inl rfl) (pe_op op_cat (pv 1) (pe_lst (pa_cons (pe_exc1 PySem.F.excBase_ValueError (S.ex 11 (by decide)) (S.nm 11 (by decide)) (S.kp 11 (by decide)) rfl (pv 0)) (pa_cons (pe_exc1 PySem.F.excBase_ValueError (S.ex 12 (by decide)) (S.nm 12 (by decide)) (S.kp 12 (by decide)) rfl (pv 0)) (pa_cons (pe_exc1 PySem.F.excBase_ValueError (S.ex 13 (by decide)) (S.nm 13 (by decide)) (S.kp 13 (by decide)) rfl (pv 0)) pa_nil))))))
        (C8.pss_cut (ps_set (i := 1) scPlain.nd rfl (Or.inl rfl) (pe_op op_cat (pv 1) (pe_lst (pa_cons (pe_exc1 PySem.F.excBase_ValueError (S.ex 14 (by decide)) (S.nm 14 (by decide)) (S.kp 14 (by decide)) rfl (pv 0)) (pa_cons (pe_exc1 PySem.F.excBase_ValueError (S.ex 15 (by decide)) (S.nm 15 (by decide)) (S.kp 15 (by decide)) rfl (pv 0)) (pa_cons (pe_exc1 PySem.F.excBase_ValueError (S.ex 16 (by decide)) (S.nm 16 (by decide)) (S.kp 16 (by decide)) rfl (pv 0)) pa_nil))))))
        (C8.pss_cut (ps_set (i := 1) scPlain.nd rfl (Or.inl rfl) (pe_op op_cat (pv 1) (pe_lst (pa_cons (pe_exc1 PySem.F.excBase_ValueError (S.ex 17 (by decide)) (S.nm 17 (by decide)) (S.kp 17 (by decide)) rfl (pv 0)) (pa_cons (pe_exc1 PySem.F.excBase_ValueError (S.ex 18 (by decide)) (S.nm 18 (by decide)) (S.kp 18 (by decide)) rfl (pv 0)) (pa_cons (pe_exc1 PySem.F.excBase_ValueError (S.ex 19 (by decide)) (S.nm 19 (by decide)) (S.kp 19 (by decide)) rfl (pv 0)) (pa_cons (pe_exc1 PySem.F.excBase_ValueError (S.ex 20 (by decide)) (S.nm 20 (by decide)) (S.kp 20 (by decide)) rfl (pv 0)) pa_nil)))))))
        (C8.pss_cut (ps_set (i := 1) scPlain.nd rfl (Or.inl rfl) (pe_op op_cat (pv 1) (pe_lst (pa_cons (pe_exc1 PySem.F.excBase_ValueError (S.ex 21 (by decide)) (S.nm 21 (by decide)) (S.kp 21 (by decide)) rfl (pv 0)) (pa_cons (pe_exc1 PySem.F.excBase_ValueError (S.ex 22 (by decide)) (S.nm 22 (by decide)) (S.kp 22 (by decide)) rfl (pv 0)) (pa_cons (pe_exc1 PySem.F.excBase_ValueError (S.ex 23 (by decide)) (S.nm 23 (by decide)) (S.kp 23 (by decide)) rfl (pv 0)) (pa_cons (pe_exc1 PySem.F.excBase_ValueError (S.ex 24 (by decide)) (S.nm 24 (by decide)) (S.kp 24 (by decide)) rfl (pv 0)) pa_nil)))))))
        (C8.pss_cut (ps_set (i := 1) scPlain.nd rfl (Or.inl rfl) (pe_op op_cat (pv 1) (pe_lst (pa_cons (pe_exc1 PySem.F.excBase_ValueError (S.ex 25 (by decide)) (S.nm 25 (by decide)) (S.kp 25 (by decide)) rfl (pv 0)) (pa_cons (pe_exc1 PySem.F.excBase_ValueError (S.ex 26 (by decide)) (S.nm 26 (by decide)) (S.kp 26 (by decide)) rfl (pv 0)) (pa_cons (pe_exc1 PySem.F.excBase_ValueError (S.ex 27 (by decide)) (S.nm 27 (by decide)) (S.kp 27 (by decide)) rfl (pv 0)) (pa_cons (pe_exc1 PySem.F.excBase_ValueError (S.ex 28 (by decide)) (S.nm 28 (by decide)) (S.kp 28 (by decide)) rfl (pv 0)) pa_nil)))))))
        (pss_one (ps_ret (pv 1)))))))))))), ?_⟩
    let Mid : Nat → L2.St → Hp → Prop := fun n σ' H' => ∃ l as, σ' = [some x, some (.ref l)] ∧ H l = none ∧ Same H H' ∧ as.length = n ∧ Bare H' c 0 as ∧ H' l = some (.lst (as.map V.ref))
    refine ⟨Mid 0, ⟨by decide, fun l h0 => ⟨l, [], rfl, h0, same_new h0, rfl, trivial, upd_same⟩⟩, ?_⟩
    rintro _ H1 ⟨l, as, rfl, hl, s1, ln, ba, g1⟩
    refine ⟨Mid 3, ⟨_, rfl, _, rfl, fun a0 b0 => ⟨_, rfl, fun a1 b1 => ⟨_, rfl, fun a2 b2 => ⟨by show 3 ≤ sizeLine; decide, fun p q => ?_⟩⟩⟩⟩, ?_⟩
    · refine ⟨_, _, _, _, rfl, rfl, keep1 ((keep1 (keep1 (keep1 g1 b0) b1) b2)) q, upd_same, by rw [List.length_map, ln]; show 0 + 3 ≤ sizeLine; decide, fun l2 h2 => ?_⟩
      have u : ∀ z, Same H (upd _ p z) := fun z => (((((s1).trans (same_new b0)).trans (same_new b1)).trans (same_new b2)).trans (same_new q))
      refine ⟨l2, as ++ [a0, a1, a2], rfl, (u _).free h2, (u _).trans (same_new h2), by rw [List.length_append, ln]; rfl, bare_app (by rw [ln]) (Bare.same (((((same_new b0).trans (same_new b1)).trans (same_new b2)).trans (same_new q)).trans (same_new h2)) ba) ⟨.bare (keep1 (keep1 (keep1 (keep1 (upd_same) b1) b2) q) h2), .bare (keep1 (keep1 (keep1 (upd_same) b2) q) h2), .bare (keep1 (keep1 (upd_same) q) h2), trivial⟩, ?_⟩
      rw [List.map_append]
      exact upd_same
    rintro _ H1 ⟨l, as, rfl, hl, s1, ln, ba, g1⟩
    refine ⟨Mid 7, ⟨_, rfl, _, rfl, fun a0 b0 => ⟨_, rfl, fun a1 b1 => ⟨_, rfl, fun a2 b2 => ⟨_, rfl, fun a3 b3 => ⟨by show 4 ≤ sizeLine; decide, fun p q => ?_⟩⟩⟩⟩⟩, ?_⟩
    · refine ⟨_, _, _, _, rfl, rfl, keep1 ((keep1 (keep1 (keep1 (keep1 g1 b0) b1) b2) b3)) q, upd_same, by rw [List.length_map, ln]; show 3 + 4 ≤ sizeLine; decide, fun l2 h2 => ?_⟩
      have u : ∀ z, Same H (upd _ p z) := fun z => ((((((s1).trans (same_new b0)).trans (same_new b1)).trans (same_new b2)).trans (same_new b3)).trans (same_new q))
      refine ⟨l2, as ++ [a0, a1, a2, a3], rfl, (u _).free h2, (u _).trans (same_new h2), by rw [List.length_append, ln]; rfl, bare_app (by rw [ln]) (Bare.same ((((((same_new b0).trans (same_new b1)).trans (same_new b2)).trans (same_new b3)).trans (same_new q)).trans (same_new h2)) ba) ⟨.bare (keep1 (keep1 (keep1 (keep1 (keep1 (upd_same) b1) b2) b3) q) h2), .bare (keep1 (keep1 (keep1 (keep1 (upd_same) b2) b3) q) h2), .bare (keep1 (keep1 (keep1 (upd_same) b3) q) h2), .bare (keep1 (keep1 (upd_same) q) h2), trivial⟩, ?_⟩
      rw [List.map_append]
      exact upd_same
    rintro _ H1 ⟨l, as, rfl, hl, s1, ln, ba, g1⟩
    refine ⟨Mid 11, ⟨_, rfl, _, rfl, fun a0 b0 => ⟨_, rfl, fun a1 b1 => ⟨_, rfl, fun a2 b2 => ⟨_, rfl, fun a3 b3 => ⟨by show 4 ≤ sizeLine; decide, fun p q => ?_⟩⟩⟩⟩⟩, ?_⟩
    · refine ⟨_, _, _, _, rfl, rfl, keep1 ((keep1 (keep1 (keep1 (keep1 g1 b0) b1) b2) b3)) q, upd_same, by rw [List.length_map, ln]; show 7 + 4 ≤ sizeLine; decide, fun l2 h2 => ?_⟩
      have u : ∀ z, Same H (upd _ p z) := fun z => ((((((s1).trans (same_new b0)).trans (same_new b1)).trans (same_new b2)).trans (same_new b3)).trans (same_new q))
      refine ⟨l2, as ++ [a0, a1, a2, a3], rfl, (u _).free h2, (u _).trans (same_new h2), by rw [List.length_append, ln]; rfl, bare_app (by rw [ln]) (Bare.same ((((((same_new b0).trans (same_new b1)).trans (same_new b2)).trans (same_new b3)).trans (same_new q)).trans (same_new h2)) ba) ⟨.bare (keep1 (keep1 (keep1 (keep1 (keep1 (upd_same) b1) b2) b3) q) h2), .bare (keep1 (keep1 (keep1 (keep1 (upd_same) b2) b3) q) h2), .bare (keep1 (keep1 (keep1 (upd_same) b3) q) h2), .bare (keep1 (keep1 (upd_same) q) h2), trivial⟩, ?_⟩
      rw [List.map_append]
      exact upd_same
    rintro _ H1 ⟨l, as, rfl, hl, s1, ln, ba, g1⟩
    refine ⟨Mid 14, ⟨_, rfl, _, rfl, fun a0 b0 => ⟨_, rfl, fun a1 b1 => ⟨_, rfl, fun a2 b2 => ⟨by show 3 ≤ sizeLine; decide, fun p q => ?_⟩⟩⟩⟩, ?_⟩
    · refine ⟨_, _, _, _, rfl, rfl, keep1 ((keep1 (keep1 (keep1 g1 b0) b1) b2)) q, upd_same, by rw [List.length_map, ln]; show 11 + 3 ≤ sizeLine; decide, fun l2 h2 => ?_⟩
      have u : ∀ z, Same H (upd _ p z) := fun z => (((((s1).trans (same_new b0)).trans (same_new b1)).trans (same_new b2)).trans (same_new q))
      refine ⟨l2, as ++ [a0, a1, a2], rfl, (u _).free h2, (u _).trans (same_new h2), by rw [List.length_append, ln]; rfl, bare_app (by rw [ln]) (Bare.same (((((same_new b0).trans (same_new b1)).trans (same_new b2)).trans (same_new q)).trans (same_new h2)) ba) ⟨.bare (keep1 (keep1 (keep1 (keep1 (upd_same) b1) b2) q) h2), .bare (keep1 (keep1 (keep1 (upd_same) b2) q) h2), .bare (keep1 (keep1 (upd_same) q) h2), trivial⟩, ?_⟩
      rw [List.map_append]
      exact upd_same
    rintro _ H1 ⟨l, as, rfl, hl, s1, ln, ba, g1⟩
    refine ⟨Mid 17, ⟨_, rfl, _, rfl, fun a0 b0 => ⟨_, rfl, fun a1 b1 => ⟨_, rfl, fun a2 b2 => ⟨by show 3 ≤ sizeLine; decide, fun p q => ?_⟩⟩⟩⟩, ?_⟩
    · refine ⟨_, _, _, _, rfl, rfl, keep1 ((keep1 (keep1 (keep1 g1 b0) b1) b2)) q, upd_same, by rw [List.length_map, ln]; show 14 + 3 ≤ sizeLine; decide, fun l2 h2 => ?_⟩
      have u : ∀ z, Same H (upd _ p z) := fun z => (((((s1).trans (same_new b0)).trans (same_new b1)).trans (same_new b2)).trans (same_new q))
      refine ⟨l2, as ++ [a0, a1, a2], rfl, (u _).free h2, (u _).trans (same_new h2), by rw [List.length_append, ln]; rfl, bare_app (by rw [ln]) (Bare.same (((((same_new b0).trans (same_new b1)).trans (same_new b2)).trans (same_new q)).trans (same_new h2)) ba) ⟨.bare (keep1 (keep1 (keep1 (keep1 (upd_same) b1) b2) q) h2), .bare (keep1 (keep1 (keep1 (upd_same) b2) q) h2), .bare (keep1 (keep1 (upd_same) q) h2), trivial⟩, ?_⟩
      rw [List.map_append]
      exact upd_same
    rintro _ H1 ⟨l, as, rfl, hl, s1, ln, ba, g1⟩
    refine ⟨Mid 21, ⟨_, rfl, _, rfl, fun a0 b0 => ⟨_, rfl, fun a1 b1 => ⟨_, rfl, fun a2 b2 => ⟨_, rfl, fun a3 b3 => ⟨by show 4 ≤ sizeLine; decide, fun p q => ?_⟩⟩⟩⟩⟩, ?_⟩
    · refine ⟨_, _, _, _, rfl, rfl, keep1 ((keep1 (keep1 (keep1 (keep1 g1 b0) b1) b2) b3)) q, upd_same, by rw [List.length_map, ln]; show 17 + 4 ≤ sizeLine; decide, fun l2 h2 => ?_⟩
      have u : ∀ z, Same H (upd _ p z) := fun z => ((((((s1).trans (same_new b0)).trans (same_new b1)).trans (same_new b2)).trans (same_new b3)).trans (same_new q))
      refine ⟨l2, as ++ [a0, a1, a2, a3], rfl, (u _).free h2, (u _).trans (same_new h2), by rw [List.length_append, ln]; rfl, bare_app (by rw [ln]) (Bare.same ((((((same_new b0).trans (same_new b1)).trans (same_new b2)).trans (same_new b3)).trans (same_new q)).trans (same_new h2)) ba) ⟨.bare (keep1 (keep1 (keep1 (keep1 (keep1 (upd_same) b1) b2) b3) q) h2), .bare (keep1 (keep1 (keep1 (keep1 (upd_same) b2) b3) q) h2), .bare (keep1 (keep1 (keep1 (upd_same) b3) q) h2), .bare (keep1 (keep1 (upd_same) q) h2), trivial⟩, ?_⟩
      rw [List.map_append]
      exact upd_same
    rintro _ H1 ⟨l, as, rfl, hl, s1, ln, ba, g1⟩
    refine ⟨Mid 25, ⟨_, rfl, _, rfl, fun a0 b0 => ⟨_, rfl, fun a1 b1 => ⟨_, rfl, fun a2 b2 => ⟨_, rfl, fun a3 b3 => ⟨by show 4 ≤ sizeLine; decide, fun p q => ?_⟩⟩⟩⟩⟩, ?_⟩
    · refine ⟨_, _, _, _, rfl, rfl, keep1 ((keep1 (keep1 (keep1 (keep1 g1 b0) b1) b2) b3)) q, upd_same, by rw [List.length_map, ln]; show 21 + 4 ≤ sizeLine; decide, fun l2 h2 => ?_⟩
      have u : ∀ z, Same H (upd _ p z) := fun z => ((((((s1).trans (same_new b0)).trans (same_new b1)).trans (same_new b2)).trans (same_new b3)).trans (same_new q))
      refine ⟨l2, as ++ [a0, a1, a2, a3], rfl, (u _).free h2, (u _).trans (same_new h2), by rw [List.length_append, ln]; rfl, bare_app (by rw [ln]) (Bare.same ((((((same_new b0).trans (same_new b1)).trans (same_new b2)).trans (same_new b3)).trans (same_new q)).trans (same_new h2)) ba) ⟨.bare (keep1 (keep1 (keep1 (keep1 (keep1 (upd_same) b1) b2) b3) q) h2), .bare (keep1 (keep1 (keep1 (keep1 (upd_same) b2) b3) q) h2), .bare (keep1 (keep1 (keep1 (upd_same) b3) q) h2), .bare (keep1 (keep1 (upd_same) q) h2), trivial⟩, ?_⟩
      rw [List.map_append]
      exact upd_same
    rintro _ H1 ⟨l, as, rfl, hl, s1, ln, ba, g1⟩
    refine ⟨Mid 29, ⟨_, rfl, _, rfl, fun a0 b0 => ⟨_, rfl, fun a1 b1 => ⟨_, rfl, fun a2 b2 => ⟨_, rfl, fun a3 b3 => ⟨by show 4 ≤ sizeLine; decide, fun p q => ?_⟩⟩⟩⟩⟩, ?_⟩
    · refine ⟨_, _, _, _, rfl, rfl, keep1 ((keep1 (keep1 (keep1 (keep1 g1 b0) b1) b2) b3)) q, upd_same, by rw [List.length_map, ln]; show 25 + 4 ≤ sizeLine; decide, fun l2 h2 => ?_⟩
      have u : ∀ z, Same H (upd _ p z) := fun z => ((((((s1).trans (same_new b0)).trans (same_new b1)).trans (same_new b2)).trans (same_new b3)).trans (same_new q))
      refine ⟨l2, as ++ [a0, a1, a2, a3], rfl, (u _).free h2, (u _).trans (same_new h2), by rw [List.length_append, ln]; rfl, bare_app (by rw [ln]) (Bare.same ((((((same_new b0).trans (same_new b1)).trans (same_new b2)).trans (same_new b3)).trans (same_new q)).trans (same_new h2)) ba) ⟨.bare (keep1 (keep1 (keep1 (keep1 (keep1 (upd_same) b1) b2) b3) q) h2), .bare (keep1 (keep1 (keep1 (keep1 (upd_same) b2) b3) q) h2), .bare (keep1 (keep1 (keep1 (upd_same) b3) q) h2), .bare (keep1 (keep1 (upd_same) q) h2), trivial⟩, ?_⟩
      rw [List.map_append]
      exact upd_same
    rintro _ H1 ⟨l, as, rfl, hl, s1, ln, ba, g1⟩
    exact ⟨_, rfl, k _ _ _ hl s1 ba ln g1⟩
end
end WW
end

section
set_option Elab.async false
set_option linter.all false
set_option maxRecDepth 100000
set_option maxHeartbeats 8000000
namespace WW
open PySem L2 WR WG
section
variable {P : Program} {w : World} {K : PySem.W.Frag} {mg : Str → Option Value} {base : Heap}
abbrev sI_BadNumber : Stmt := inClass (top 17) 0
theorem sc_BadNumber : FnScope ["self", "part"] ["self", "part"] (defScope sI_BadNumber) := ⟨rfl, rfl, rfl, by decide +kernel, rfl, by decide +kernel, by decide +kernel⟩
theorem oi_BadNumber {f : Addr} {fd : FuncData} (F : Fun K "__init__" "BadNumber.__init__" sI_BadNumber f fd) : FnOk P w K mg base CX0 1 f fd [("self" : Str), "part"] (spErr K "part") := by
  refine F.ok sc_BadNumber (fun vs H Q E h => ?_) (fun cdv A outer s H vs Q E hr h => ?_)
  · obtain ⟨a, C, y, rfl, _⟩ := h
    rfl
  · obtain ⟨a, C, y, rfl, e, T, hf, k⟩ := h
    exact ⟨_, pss_one (ps_ost (pv 0) (pv 1)), _, rfl, _, rfl, a, C, rfl, T, hf, .inl ⟨e, k⟩⟩
abbrev sI_BadCurve : Stmt := inClass (top 6) 0
theorem sc_BadCurve : FnScope ["self", "part"] ["self", "part"] (defScope sI_BadCurve) := ⟨rfl, rfl, rfl, by decide +kernel, rfl, by decide +kernel, by decide +kernel⟩
theorem oi_BadCurve {f : Addr} {fd : FuncData} (F : Fun K "__init__" "BadCurve.__init__" sI_BadCurve f fd) : FnOk P w K mg base CX0 1 f fd [("self" : Str), "part"] (spErr K "part") := by
  refine F.ok sc_BadCurve (fun vs H Q E h => ?_) (fun cdv A outer s H vs Q E hr h => ?_)
  · obtain ⟨a, C, y, rfl, _⟩ := h
    rfl
  · obtain ⟨a, C, y, rfl, e, T, hf, k⟩ := h
    exact ⟨_, pss_one (ps_ost (pv 0) (pv 1)), _, rfl, _, rfl, a, C, rfl, T, hf, .inl ⟨e, k⟩⟩
abbrev sI_TooMany : Stmt := inClass (top 42) 0
theorem sc_TooMany : FnScope ["self", "most"] ["self", "most"] (defScope sI_TooMany) := ⟨rfl, rfl, rfl, by decide +kernel, rfl, by decide +kernel, by decide +kernel⟩
theorem oi_TooMany {f : Addr} {fd : FuncData} (F : Fun K "__init__" "TooMany.__init__" sI_TooMany f fd) : FnOk P w K mg base CX0 1 f fd [("self" : Str), "most"] (spErr K "most") := by
  refine F.ok sc_TooMany (fun vs H Q E h => ?_) (fun cdv A outer s H vs Q E hr h => ?_)
  · obtain ⟨a, C, y, rfl, _⟩ := h
    rfl
  · obtain ⟨a, C, y, rfl, e, T, hf, k⟩ := h
    exact ⟨_, pss_one (ps_ost (pv 0) (pv 1)), _, rfl, _, rfl, a, C, rfl, T, hf, .inl ⟨e, k⟩⟩
abbrev sI_BadStation : Stmt := inClass (top 29) 0
theorem sc_BadStation : FnScope ["self", "part"] ["self", "part"] (defScope sI_BadStation) := ⟨rfl, rfl, rfl, by decide +kernel, rfl, by decide +kernel, by decide +kernel⟩
theorem oi_BadStation {f : Addr} {fd : FuncData} (F : Fun K "__init__" "BadStation.__init__" sI_BadStation f fd) : FnOk P w K mg base CX0 1 f fd [("self" : Str), "part"] (spErr K "part") := by
  refine F.ok sc_BadStation (fun vs H Q E h => ?_) (fun cdv A outer s H vs Q E hr h => ?_)
  · obtain ⟨a, C, y, rfl, _⟩ := h
    rfl
  · obtain ⟨a, C, y, rfl, e, T, hf, k⟩ := h
    exact ⟨_, pss_one (ps_ost (pv 0) (pv 1)), _, rfl, _, rfl, a, C, rfl, T, hf, .inl ⟨e, k⟩⟩
abbrev sI_BadTraffic : Stmt := inClass (top 35) 0
theorem sc_BadTraffic : FnScope ["self", "part"] ["self", "part"] (defScope sI_BadTraffic) := ⟨rfl, rfl, rfl, by decide +kernel, rfl, by decide +kernel, by decide +kernel⟩
theorem oi_BadTraffic {f : Addr} {fd : FuncData} (F : Fun K "__init__" "BadTraffic.__init__" sI_BadTraffic f fd) : FnOk P w K mg base CX0 1 f fd [("self" : Str), "part"] (spErr K "part") := by
  refine F.ok sc_BadTraffic (fun vs H Q E h => ?_) (fun cdv A outer s H vs Q E hr h => ?_)
  · obtain ⟨a, C, y, rfl, _⟩ := h
    rfl
  · obtain ⟨a, C, y, rfl, e, T, hf, k⟩ := h
    exact ⟨_, pss_one (ps_ost (pv 0) (pv 1)), _, rfl, _, rfl, a, C, rfl, T, hf, .inl ⟨e, k⟩⟩
abbrev sI_BadSystem : Stmt := inClass (top 32) 0
theorem sc_BadSystem : FnScope ["self", "part"] ["self", "part"] (defScope sI_BadSystem) := ⟨rfl, rfl, rfl, by decide +kernel, rfl, by decide +kernel, by decide +kernel⟩
theorem oi_BadSystem {f : Addr} {fd : FuncData} (F : Fun K "__init__" "BadSystem.__init__" sI_BadSystem f fd) : FnOk P w K mg base CX0 1 f fd [("self" : Str), "part"] (spErr K "part") := by
  refine F.ok sc_BadSystem (fun vs H Q E h => ?_) (fun cdv A outer s H vs Q E hr h => ?_)
  · obtain ⟨a, C, y, rfl, _⟩ := h
    rfl
  · obtain ⟨a, C, y, rfl, e, T, hf, k⟩ := h
    exact ⟨_, pss_one (ps_ost (pv 0) (pv 1)), _, rfl, _, rfl, a, C, rfl, T, hf, .inl ⟨e, k⟩⟩
abbrev sI_NotKept : Stmt := inClass (top 38) 0
theorem sc_NotKept : FnScope ["self", "breach"] ["self", "breach"] (defScope sI_NotKept) := ⟨rfl, rfl, rfl, by decide +kernel, rfl, by decide +kernel, by decide +kernel⟩
theorem oi_NotKept {f : Addr} {fd : FuncData} (F : Fun K "__init__" "NotKept.__init__" sI_NotKept f fd) : FnOk P w K mg base CX0 1 f fd [("self" : Str), "breach"] (spErr K "breach") := by
  refine F.ok sc_NotKept (fun vs H Q E h => ?_) (fun cdv A outer s H vs Q E hr h => ?_)
  · obtain ⟨a, C, y, rfl, _⟩ := h
    rfl
  · obtain ⟨a, C, y, rfl, e, T, hf, k⟩ := h
    exact ⟨_, pss_one (ps_ost (pv 0) (pv 1)), _, rfl, _, rfl, a, C, rfl, T, hf, .inl ⟨e, k⟩⟩
abbrev sI_BadNet : Stmt := inClass (top 16) 0
theorem sc_BadNet : FnScope ["self", "part"] ["self", "part"] (defScope sI_BadNet) := ⟨rfl, rfl, rfl, by decide +kernel, rfl, by decide +kernel, by decide +kernel⟩
theorem oi_BadNet {f : Addr} {fd : FuncData} (F : Fun K "__init__" "BadNet.__init__" sI_BadNet f fd) : FnOk P w K mg base CX0 1 f fd [("self" : Str), "part"] (spErr K "part") := by
  refine F.ok sc_BadNet (fun vs H Q E h => ?_) (fun cdv A outer s H vs Q E hr h => ?_)
  · obtain ⟨a, C, y, rfl, _⟩ := h
    rfl
  · obtain ⟨a, C, y, rfl, e, T, hf, k⟩ := h
    exact ⟨_, pss_one (ps_ost (pv 0) (pv 1)), _, rfl, _, rfl, a, C, rfl, T, hf, .inl ⟨e, k⟩⟩
abbrev sI_BadPlay : Stmt := inClass (top 20) 0
theorem sc_BadPlay : FnScope ["self", "part"] ["self", "part"] (defScope sI_BadPlay) := ⟨rfl, rfl, rfl, by decide +kernel, rfl, by decide +kernel, by decide +kernel⟩
theorem oi_BadPlay {f : Addr} {fd : FuncData} (F : Fun K "__init__" "BadPlay.__init__" sI_BadPlay f fd) : FnOk P w K mg base CX0 1 f fd [("self" : Str), "part"] (spErr K "part") := by
  refine F.ok sc_BadPlay (fun vs H Q E h => ?_) (fun cdv A outer s H vs Q E hr h => ?_)
  · obtain ⟨a, C, y, rfl, _⟩ := h
    rfl
  · obtain ⟨a, C, y, rfl, e, T, hf, k⟩ := h
    exact ⟨_, pss_one (ps_ost (pv 0) (pv 1)), _, rfl, _, rfl, a, C, rfl, T, hf, .inl ⟨e, k⟩⟩
abbrev sI_NotLet : Stmt := inClass (top 39) 0
theorem sc_NotLet : FnScope ["self", "why"] ["self", "why"] (defScope sI_NotLet) := ⟨rfl, rfl, rfl, by decide +kernel, rfl, by decide +kernel, by decide +kernel⟩
theorem oi_NotLet {f : Addr} {fd : FuncData} (F : Fun K "__init__" "NotLet.__init__" sI_NotLet f fd) : FnOk P w K mg base CX0 1 f fd [("self" : Str), "why"] (spErr K "why") := by
  refine F.ok sc_NotLet (fun vs H Q E h => ?_) (fun cdv A outer s H vs Q E hr h => ?_)
  · obtain ⟨a, C, y, rfl, _⟩ := h
    rfl
  · obtain ⟨a, C, y, rfl, e, T, hf, k⟩ := h
    exact ⟨_, pss_one (ps_ost (pv 0) (pv 1)), _, rfl, _, rfl, a, C, rfl, T, hf, .inl ⟨e, k⟩⟩
abbrev sI_BadLine : Stmt := inClass (top 13) 0
theorem sc_BadLine : FnScope ["self", "number"] ["self", "number"] (defScope sI_BadLine) := ⟨rfl, rfl, rfl, by decide +kernel, rfl, by decide +kernel, by decide +kernel⟩
theorem oi_BadLine {f : Addr} {fd : FuncData} (F : Fun K "__init__" "BadLine.__init__" sI_BadLine f fd) : FnOk P w K mg base CX0 1 f fd [("self" : Str), "number"] (spErr K "number") := by
  refine F.ok sc_BadLine (fun vs H Q E h => ?_) (fun cdv A outer s H vs Q E hr h => ?_)
  · obtain ⟨a, C, y, rfl, _⟩ := h
    rfl
  · obtain ⟨a, C, y, rfl, e, T, hf, k⟩ := h
    exact ⟨_, pss_one (ps_ost (pv 0) (pv 1)), _, rfl, _, rfl, a, C, rfl, T, hf, .inl ⟨e, k⟩⟩
abbrev sI_BadText : Stmt := inClass (top 33) 0
theorem sc_BadText : FnScope ["self", "at"] ["self", "at"] (defScope sI_BadText) := ⟨rfl, rfl, rfl, by decide +kernel, rfl, by decide +kernel, by decide +kernel⟩
theorem oi_BadText {f : Addr} {fd : FuncData} (F : Fun K "__init__" "BadText.__init__" sI_BadText f fd) : FnOk P w K mg base CX0 1 f fd [("self" : Str), "at"] (spErr K "at") := by
  refine F.ok sc_BadText (fun vs H Q E h => ?_) (fun cdv A outer s H vs Q E hr h => ?_)
  · obtain ⟨a, C, y, rfl, _⟩ := h
    rfl
  · obtain ⟨a, C, y, rfl, e, T, hf, k⟩ := h
    exact ⟨_, pss_one (ps_ost (pv 0) (pv 1)), _, rfl, _, rfl, a, C, rfl, T, hf, .inl ⟨e, k⟩⟩
/-- an own error class with an attribute f, as the top has made it -/
structure AttrC (P : Program) (w : World) (K : PySem.W.Frag) (mg : Str → Option Value) (base : Heap) (C fI : Addr) (fd : FuncData) (f : Str) : Prop where
  ox : OexC K C
  iC : PySem.W.findIn K (.ref C) "__init__" = some (some (.ref fI))
  tI : PySem.W.typeIn K (.ref fI) = some (.type "function")
  hf : PySem.W.findIn K (.ref C) f = some none
  hd : PySem.W.hasDictIn K C = true
  ask : AskC K C
  fn : FnOk P w K mg base CX0 1 fI fd [("self" : Str), f] (spErr K f)
  bd : Binds K fd [("self" : Str), f] []
  b1 : ∀ (s : Shared) (v u : Value), BindsTo s fd ⟨[v, u], []⟩ ([("self" : Str), f].zip [v, u])
  b2 : ∀ (s : Shared) (v u : Value), BindsTo s fd ⟨[v], [(f, u)]⟩ ([("self" : Str), f].zip [v, u])
def attrOf (i : Nat) : Str := ((["part", "part", "most", "part", "part", "part", "breach", "part", "part", "why", "number", "at"] : List String).map Str.ofString).getD i ""
/-- (error, its attribute, its attribute), for the classes from i on -/
def Threes (H : Hp) (c : Nat → Addr) (y : V) : Nat → List Addr → Prop
  | _, [] => True
  | i, t :: r => (∃ a f, H t = some (.tup [.ref a, y, y]) ∧ ErrAt H a (c i) (some (f, y))) ∧ Threes H c y (i + 1) r
theorem Threes.same {H H' : Hp} {c : Nat → Addr} {y : V} (s : Same H H') : ∀ {ts : List Addr} {i : Nat}, Threes H c y i ts → Threes H' c y i ts
  | [], _, _ => trivial
  | _ :: _, _, ⟨⟨a, f, h, e⟩, r⟩ => ⟨⟨a, f, s _ _ h, e.same s⟩, Threes.same s r⟩
theorem threes_app {H : Hp} {c : Nat → Addr} {y : V} : ∀ {as bs : List Addr} {i j : Nat}, j = i + as.length → Threes H c y i as → Threes H c y j bs → Threes H c y i (as ++ bs)
  | [], bs, i, j, e, _, h => by
    have e' : j = i := e
    rw [← e']
    exact h
  | _ :: r, bs, i, j, e, ⟨h, q⟩, hb => ⟨h, threes_app (by rw [e, List.length_cons]; omega) q hb⟩
theorem err_put {H : Hp} {l a C : Addr} {o : Option (Str × V)} {xs ys : List V} (g : H l = some (.lst xs)) (e : ErrAt H a C o) : ErrAt (upd H l (.lst ys)) a C o := by
  cases e with
  | bare h =>
    have n1 : a ≠ l := ne_of h g (fun z => by
      have z' : HO.ext _ = HO.lst xs := z
      cases z')
    exact .bare (by rw [upd_ne n1]; exact h)
  | @with_ d f y h hd =>
    have n1 : a ≠ l := ne_of h g (fun z => by
      have z' : HO.ext _ = HO.lst xs := z
      cases z')
    have n2 : d ≠ l := ne_of hd g (fun z => by
      have z' : HO.ext _ = HO.lst xs := z
      cases z')
    exact .with_ (by rw [upd_ne n1]; exact h) (by rw [upd_ne n2]; exact hd)
theorem Threes.put {H : Hp} {c : Nat → Addr} {y : V} {l : Addr} {xs ys : List V} (g : H l = some (.lst xs)) : ∀ {ts : List Addr} {i : Nat}, Threes H c y i ts → Threes (upd H l (.lst ys)) c y i ts
  | [], _, _ => trivial
  | _ :: _, _, ⟨⟨a, f, h, e⟩, r⟩ => ⟨⟨a, f, by rw [upd_ne (ne_of h g (fun z => nomatch z))]; exact h, err_put g e⟩, Threes.put g r⟩
def MidE (H : Hp) (c : Nat → Addr) (y : V) (n : Nat) : L2.St → Hp → Prop := fun σ' H' => ∃ l ts, σ' = [some y, some (.ref l)] ∧ H l = none ∧ Same H H' ∧ ts.length = n ∧ Threes H' c y 29 ts ∧ H' l = some (.lst (ts.map V.ref))
theorem step_three {H H1 : Hp} {c : Nat → Addr} {y : V} {l : Addr} {ts : List Addr} {n : Nat} {f : Str} {a1 d1 a2 d2 a3 d3 t C : Addr} (ln : ts.length = n) (hC : c (29 + n) = C) (hn : n < 100) (hl : H l = none) (s1 : Same H H1)
    (th : Threes H1 c y 29 ts) (g1 : H1 l = some (.lst (ts.map V.ref))) (x1 : H1 a1 = none) (z1 : H1 d1 = none) (n1 : d1 ≠ a1) (x2 : newErr H1 a1 d1 C f y a2 = none) (z2 : newErr H1 a1 d1 C f y d2 = none) (n2 : d2 ≠ a2)
    (x3 : newErr (newErr H1 a1 d1 C f y) a2 d2 C f y a3 = none) (z3 : newErr (newErr H1 a1 d1 C f y) a2 d2 C f y d3 = none) (n3 : d3 ≠ a3) (ht : newErr (newErr (newErr H1 a1 d1 C f y) a2 d2 C f y) a3 d3 C f y t = none) :
    ∃ (l' : Addr) (xs : List V) (z : V), V.ref l = V.ref l' ∧ [V.ref t] = [z] ∧ (upd (newErr (newErr (newErr H1 a1 d1 C f y) a2 d2 C f y) a3 d3 C f y) t (.tup [.ref a1, y, y])) l' = some (.lst xs) ∧ xs.length < sizeLine ∧
      MidE H c y (n + 1) [some y, some (.ref l)] (upd (upd (newErr (newErr (newErr H1 a1 d1 C f y) a2 d2 C f y) a3 d3 C f y) t (.tup [.ref a1, y, y])) l' (.lst (xs ++ [z]))) := by
  have e1 := newErr_same (C := C) (f := f) (y := y) x1 z1
  have e2 := newErr_same (C := C) (f := f) (y := y) x2 z2
  have e3 := newErr_same (C := C) (f := f) (y := y) x3 z3
  have e4 : Same _ (upd _ t (.tup [.ref a1, y, y])) := same_new ht
  have e14 := ((e1.trans e2).trans e3).trans e4
  have gl := e14 _ _ g1
  have at1 := (newErr_at (H := H1) (C := C) (f := f) (y := y) n1).same ((e2.trans e3).trans e4)
  refine ⟨l, _, _, rfl, rfl, gl, by rw [List.length_map, ln]; exact small1000 (by omega), l, ts ++ [t], rfl, hl, ?_, by rw [List.length_append, ln]; rfl, ?_, by rw [List.map_append]; exact upd_same⟩
  · intro b o e
    rw [upd_ne (ne_of_none e hl)]
    exact e14 _ _ (s1 _ _ e)
  · refine threes_app (j := 29 + n) (by rw [ln]) (Threes.put gl (th.same e14)) ⟨⟨a1, f, ?_, ?_⟩, trivial⟩
    · rw [upd_ne (ne_of upd_same gl (fun z => nomatch z))]
      exact upd_same
    · rw [hC]
      exact err_put gl at1
def spErrs (K : PySem.W.Frag) (c : Nat → Addr) : Sp := fun vs H Q _ => ∃ (y : V), vs = [y] ∧
  ∀ (p : Addr) (ts : List Addr) (H' : Hp), H p = none → Same H H' → Threes H' c y 29 ts → ts.length = 12 → H' p = some (.lst (ts.map V.ref)) → Q (.ref p) H'
theorem scErrs : FnScope ["each", "found"] ["each"] (defScope sErrs) := ⟨rfl, rfl, rfl, by decide +kernel, rfl, by decide +kernel, by decide +kernel⟩
theorem ok_errs {f : Addr} {fd : FuncData} {c : Nat → Addr} (F : Fun K "_law_errors_of" "_law_errors_of" sErrs f fd) (S : Cls K mg c) (T : ∀ i, i < 12 → ∃ fI fd, AttrC P w K mg base (c (29 + i)) fI fd (attrOf i)) : FnOk P w K mg base CX0 3 f fd ["each"] (spErrs K c) := by
  refine F.ok scErrs (fun vs H Q E h => ?_) (fun cdv A outer s H vs Q E hr h => ?_)
  · obtain ⟨y, rfl, _⟩ := h
    rfl
  · obtain ⟨y, rfl, k⟩ := h
    obtain ⟨f0, d0, A0⟩ := T 0 (by decide)
    obtain ⟨f1, d1, A1⟩ := T 1 (by decide)
    obtain ⟨f2, d2, A2⟩ := T 2 (by decide)
    obtain ⟨f3, d3, A3⟩ := T 3 (by decide)
    obtain ⟨f4, d4, A4⟩ := T 4 (by decide)
    obtain ⟨f5, d5, A5⟩ := T 5 (by decide)
    obtain ⟨f6, d6, A6⟩ := T 6 (by decide)
    obtain ⟨f7, d7, A7⟩ := T 7 (by decide)
    obtain ⟨f8, d8, A8⟩ := T 8 (by decide)
    obtain ⟨f9, d9, A9⟩ := T 9 (by decide)
    obtain ⟨f10, d10, A10⟩ := T 10 (by decide)
    obtain ⟨f11, d11, A11⟩ := T 11 (by decide)
    refine ⟨_, (C8.pss_cut (ps_set (i := 1) scErrs.nd rfl (Or.inl rfl) (pe_lst pa_nil))
        (C8.pss_cut (ps_expr (pe_bm PySem.F.plainAttrs_list PySem.F.slot_list_append PySem.F.type_list_append mt_append (pv 1) (pa_cons (pe_tup (pa_cons (pe_err A0.ox A0.iC A0.tI A0.hf A0.fn A0.bd hr rfl (S.nm 29 (by decide)) (pa_cons (pv 0) pa_nil) A0.b1) (pa_cons (pe_errF (pe_err A0.ox A0.iC A0.tI A0.hf A0.fn A0.bd hr rfl (S.nm 29 (by decide)) (pa_cons (pv 0) pa_nil) A0.b1)) (pa_cons (pe_errF (pe_errK A0.ox A0.iC A0.tI A0.hf A0.fn hr rfl (S.nm 29 (by decide)) (pk_cons (pv 0) pk_nil) A0.b2)) pa_nil)))) pa_nil)))
        (C8.pss_cut (ps_expr (pe_bm PySem.F.plainAttrs_list PySem.F.slot_list_append PySem.F.type_list_append mt_append (pv 1) (pa_cons (pe_tup (pa_cons (pe_err A1.ox A1.iC A1.tI A1.hf A1.fn A1.bd hr rfl (S.nm 30 (by decide)) (pa_cons (pv 0) pa_nil) A1.b1) (pa_cons (pe_errF (pe_err A1.ox A1.iC A1.tI A1.hf A1.fn A1.bd hr rfl (S.nm 30 (by decide)) (pa_cons (pv 0) pa_nil) A1.b1)) (pa_cons (pe_errF (pe_errK A1.ox A1.iC A1.tI A1.hf A1.fn hr rfl (S.nm 30 (by decide)) (pk_cons (pv 0) pk_nil) A1.b2)) pa_nil)))) pa_nil)))
        (C8.pss_cut (ps_expr (pe_bm PySem.F.plainAttrs_list PySem.F.slot_list_append PySem.F.type_list_append mt_append (pv 1) (pa_cons (pe_tup (pa_cons (pe_err A2.ox A2.iC A2.tI A2.hf A2.fn A2.bd hr rfl (S.nm 31 (by decide)) (pa_cons (pv 0) pa_nil) A2.b1) (pa_cons (pe_errF (pe_err A2.ox A2.iC A2.tI A2.hf A2.fn A2.bd hr rfl (S.nm 31 (by decide)) (pa_cons (pv 0) pa_nil) A2.b1)) (pa_cons (pe_errF (pe_errK A2.ox A2.iC A2.tI A2.hf A2.fn hr rfl (S.nm 31 (by decide)) (pk_cons (pv 0) pk_nil) A2.b2)) pa_nil)))) pa_nil)))
        (C8.pss_cut (ps_expr (pe_bm PySem.F.plainAttrs_list PySem.F.slot_list_append PySem.F.type_list_append mt_append (pv 1) (pa_cons (pe_tup (pa_cons (pe_err A3.ox A3.iC A3.tI A3.hf A3.fn A3.bd hr rfl (S.nm 32 (by decide)) (pa_cons (pv 0) pa_nil) A3.b1) (pa_cons (pe_errF (pe_err A3.ox A3.iC A3.tI A3.hf A3.fn A3.bd hr rfl (S.nm 32 (by decide)) (pa_cons (pv 0) pa_nil) A3.b1)) (pa_cons (pe_errF (pe_errK A3.ox A3.iC A3.tI A3.hf A3.fn hr rfl (S.nm 32 (by decide)) (pk_cons (pv 0) pk_nil) A3.b2)) pa_nil)))) pa_nil)))
        (C8.pss_cut (ps_expr (pe_bm PySem.F.plainAttrs_list PySem.F.slot_list_append PySem.F.type_list_append mt_append (pv 1) (pa_cons (pe_tup (pa_cons (pe_err A4.ox A4.iC A4.tI A4.hf A4.fn A4.bd hr rfl (S.nm 33 (by decide)) (pa_cons (pv 0) pa_nil) A4.b1) (pa_cons (pe_errF (pe_err A4.ox A4.iC A4.tI A4.hf A4.fn A4.bd hr rfl (S.nm 33 (by decide)) (pa_cons (pv 0) pa_nil) A4.b1)) (pa_cons (pe_errF (pe_errK A4.ox A4.iC A4.tI A4.hf A4.fn hr rfl (S.nm 33 (by decide)) (pk_cons (pv 0) pk_nil) A4.b2)) pa_nil)))) pa_nil)))
        (C8.pss_cut (ps_expr (pe_bm PySem.F.plainAttrs_list PySem.F.slot_list_append PySem.F.type_list_append mt_append (pv 1) (pa_cons (pe_tup (pa_cons (pe_err A5.ox A5.iC A5.tI A5.hf A5.fn A5.bd hr rfl (S.nm 34 (by decide)) (pa_cons (pv 0) pa_nil) A5.b1) (pa_cons (pe_errF (pe_err A5.ox A5.iC A5.tI A5.hf A5.fn A5.bd hr rfl (S.nm 34 (by decide)) (pa_cons (pv 0) pa_nil) A5.b1)) (pa_cons (pe_errF (pe_errK A5.ox A5.iC A5.tI A5.hf A5.fn hr rfl (S.nm 34 (by decide)) (pk_cons (pv 0) pk_nil) A5.b2)) pa_nil)))) pa_nil)))
        (C8.pss_cut (ps_expr (pe_bm PySem.F.plainAttrs_list PySem.F.slot_list_append PySem.F.type_list_append mt_append (pv 1) (pa_cons (pe_tup (pa_cons (pe_err A6.ox A6.iC A6.tI A6.hf A6.fn A6.bd hr rfl (S.nm 35 (by decide)) (pa_cons (pv 0) pa_nil) A6.b1) (pa_cons (pe_errF (pe_err A6.ox A6.iC A6.tI A6.hf A6.fn A6.bd hr rfl (S.nm 35 (by decide)) (pa_cons (pv 0) pa_nil) A6.b1)) (pa_cons (pe_errF (pe_errK A6.ox A6.iC A6.tI A6.hf A6.fn hr rfl (S.nm 35 (by decide)) (pk_cons (pv 0) pk_nil) A6.b2)) pa_nil)))) pa_nil)))
        (C8.pss_cut (ps_expr (pe_bm PySem.F.plainAttrs_list PySem.F.slot_list_append PySem.F.type_list_append mt_append (pv 1) (pa_cons (pe_tup (pa_cons (pe_err A7.ox A7.iC A7.tI A7.hf A7.fn A7.bd hr rfl (S.nm 36 (by decide)) (pa_cons (pv 0) pa_nil) A7.b1) (pa_cons (pe_errF (pe_err A7.ox A7.iC A7.tI A7.hf A7.fn A7.bd hr rfl (S.nm 36 (by decide)) (pa_cons (pv 0) pa_nil) A7.b1)) (pa_cons (pe_errF (pe_errK A7.ox A7.iC A7.tI A7.hf A7.fn hr rfl (S.nm 36 (by decide)) (pk_cons (pv 0) pk_nil) A7.b2)) pa_nil)))) pa_nil)))
        (C8.pss_cut (ps_expr (pe_bm PySem.F.plainAttrs_list PySem.F.slot_list_append PySem.F.type_list_append mt_append (pv 1) (pa_cons (pe_tup (pa_cons (pe_err A8.ox A8.iC A8.tI A8.hf A8.fn A8.bd hr rfl (S.nm 37 (by decide)) (pa_cons (pv 0) pa_nil) A8.b1) (pa_cons (pe_errF (pe_err A8.ox A8.iC A8.tI A8.hf A8.fn A8.bd hr rfl (S.nm 37 (by decide)) (pa_cons (pv 0) pa_nil) A8.b1)) (pa_cons (pe_errF (pe_errK A8.ox A8.iC A8.tI A8.hf A8.fn hr rfl (S.nm 37 (by decide)) (pk_cons (pv 0) pk_nil) A8.b2)) pa_nil)))) pa_nil)))
        (C8.pss_cut (ps_expr (pe_bm PySem.F.plainAttrs_list PySem.F.slot_list_append PySem.F.type_list_append mt_append (pv 1) (pa_cons (pe_tup (pa_cons (pe_err A9.ox A9.iC A9.tI A9.hf A9.fn A9.bd hr rfl (S.nm 38 (by decide)) (pa_cons (pv 0) pa_nil) A9.b1) (pa_cons (pe_errF (pe_err A9.ox A9.iC A9.tI A9.hf A9.fn A9.bd hr rfl (S.nm 38 (by decide)) (pa_cons (pv 0) pa_nil) A9.b1)) (pa_cons (pe_errF (pe_errK A9.ox A9.iC A9.tI A9.hf A9.fn hr rfl (S.nm 38 (by decide)) (pk_cons (pv 0) pk_nil) A9.b2)) pa_nil)))) pa_nil)))
        (C8.pss_cut (ps_expr (pe_bm PySem.F.plainAttrs_list PySem.F.slot_list_append PySem.F.type_list_append mt_append (pv 1) (pa_cons (pe_tup (pa_cons (pe_err A10.ox A10.iC A10.tI A10.hf A10.fn A10.bd hr rfl (S.nm 39 (by decide)) (pa_cons (pv 0) pa_nil) A10.b1) (pa_cons (pe_errF (pe_err A10.ox A10.iC A10.tI A10.hf A10.fn A10.bd hr rfl (S.nm 39 (by decide)) (pa_cons (pv 0) pa_nil) A10.b1)) (pa_cons (pe_errF (pe_errK A10.ox A10.iC A10.tI A10.hf A10.fn hr rfl (S.nm 39 (by decide)) (pk_cons (pv 0) pk_nil) A10.b2)) pa_nil)))) pa_nil)))
        (C8.pss_cut (ps_expr (pe_bm PySem.F.plainAttrs_list PySem.F.slot_list_append PySem.F.type_list_append mt_append (pv 1) (pa_cons (pe_tup (pa_cons (pe_err A11.ox A11.iC A11.tI A11.hf A11.fn A11.bd hr rfl (S.nm 40 (by decide)) (pa_cons (pv 0) pa_nil) A11.b1) (pa_cons (pe_errF (pe_err A11.ox A11.iC A11.tI A11.hf A11.fn A11.bd hr rfl (S.nm 40 (by decide)) (pa_cons (pv 0) pa_nil) A11.b1)) (pa_cons (pe_errF (pe_errK A11.ox A11.iC A11.tI A11.hf A11.fn hr rfl (S.nm 40 (by decide)) (pk_cons (pv 0) pk_nil) A11.b2)) pa_nil)))) pa_nil)))
        (pss_one (ps_ret (pv 1)))))))))))))))), ?_⟩
    refine ⟨MidE H c y 0, ⟨by decide, fun l h0 => ⟨l, [], rfl, h0, same_new h0, rfl, trivial, upd_same⟩⟩, ?_⟩
    rintro _ H1 ⟨l, ts, rfl, hl, s1, ln, th, g1⟩
    refine ⟨MidE H c y 1, ⟨_, rfl, .inl ⟨rfl, _, SqL.of g1⟩, _, rfl, y, rfl, fun a1 d1 x1 z1 n1 => ⟨_, rfl, y, rfl, fun a2 d2 x2 z2 n2 => ⟨a2, _, y, rfl, newErr_at n2, A0.ask, A0.hd, A0.hf, _, rfl, y, rfl, fun a3 d3 x3 z3 n3 => ⟨a3, _, y, rfl, newErr_at n3, A0.ask, A0.hd, A0.hf, by show 3 ≤ sizeLine; decide, fun t ht => ?_⟩⟩⟩⟩, ?_⟩
    · exact step_three ln rfl (by show 0 < 100; decide) hl s1 th g1 x1 z1 n1 x2 z2 n2 x3 z3 n3 ht
    rintro _ H1 ⟨l, ts, rfl, hl, s1, ln, th, g1⟩
    refine ⟨MidE H c y 2, ⟨_, rfl, .inl ⟨rfl, _, SqL.of g1⟩, _, rfl, y, rfl, fun a1 d1 x1 z1 n1 => ⟨_, rfl, y, rfl, fun a2 d2 x2 z2 n2 => ⟨a2, _, y, rfl, newErr_at n2, A1.ask, A1.hd, A1.hf, _, rfl, y, rfl, fun a3 d3 x3 z3 n3 => ⟨a3, _, y, rfl, newErr_at n3, A1.ask, A1.hd, A1.hf, by show 3 ≤ sizeLine; decide, fun t ht => ?_⟩⟩⟩⟩, ?_⟩
    · exact step_three ln rfl (by show 1 < 100; decide) hl s1 th g1 x1 z1 n1 x2 z2 n2 x3 z3 n3 ht
    rintro _ H1 ⟨l, ts, rfl, hl, s1, ln, th, g1⟩
    refine ⟨MidE H c y 3, ⟨_, rfl, .inl ⟨rfl, _, SqL.of g1⟩, _, rfl, y, rfl, fun a1 d1 x1 z1 n1 => ⟨_, rfl, y, rfl, fun a2 d2 x2 z2 n2 => ⟨a2, _, y, rfl, newErr_at n2, A2.ask, A2.hd, A2.hf, _, rfl, y, rfl, fun a3 d3 x3 z3 n3 => ⟨a3, _, y, rfl, newErr_at n3, A2.ask, A2.hd, A2.hf, by show 3 ≤ sizeLine; decide, fun t ht => ?_⟩⟩⟩⟩, ?_⟩
    · exact step_three ln rfl (by show 2 < 100; decide) hl s1 th g1 x1 z1 n1 x2 z2 n2 x3 z3 n3 ht
    rintro _ H1 ⟨l, ts, rfl, hl, s1, ln, th, g1⟩
    refine ⟨MidE H c y 4, ⟨_, rfl, .inl ⟨rfl, _, SqL.of g1⟩, _, rfl, y, rfl, fun a1 d1 x1 z1 n1 => ⟨_, rfl, y, rfl, fun a2 d2 x2 z2 n2 => ⟨a2, _, y, rfl, newErr_at n2, A3.ask, A3.hd, A3.hf, _, rfl, y, rfl, fun a3 d3 x3 z3 n3 => ⟨a3, _, y, rfl, newErr_at n3, A3.ask, A3.hd, A3.hf, by show 3 ≤ sizeLine; decide, fun t ht => ?_⟩⟩⟩⟩, ?_⟩
    · exact step_three ln rfl (by show 3 < 100; decide) hl s1 th g1 x1 z1 n1 x2 z2 n2 x3 z3 n3 ht
    rintro _ H1 ⟨l, ts, rfl, hl, s1, ln, th, g1⟩
    refine ⟨MidE H c y 5, ⟨_, rfl, .inl ⟨rfl, _, SqL.of g1⟩, _, rfl, y, rfl, fun a1 d1 x1 z1 n1 => ⟨_, rfl, y, rfl, fun a2 d2 x2 z2 n2 => ⟨a2, _, y, rfl, newErr_at n2, A4.ask, A4.hd, A4.hf, _, rfl, y, rfl, fun a3 d3 x3 z3 n3 => ⟨a3, _, y, rfl, newErr_at n3, A4.ask, A4.hd, A4.hf, by show 3 ≤ sizeLine; decide, fun t ht => ?_⟩⟩⟩⟩, ?_⟩
    · exact step_three ln rfl (by show 4 < 100; decide) hl s1 th g1 x1 z1 n1 x2 z2 n2 x3 z3 n3 ht
    rintro _ H1 ⟨l, ts, rfl, hl, s1, ln, th, g1⟩
    refine ⟨MidE H c y 6, ⟨_, rfl, .inl ⟨rfl, _, SqL.of g1⟩, _, rfl, y, rfl, fun a1 d1 x1 z1 n1 => ⟨_, rfl, y, rfl, fun a2 d2 x2 z2 n2 => ⟨a2, _, y, rfl, newErr_at n2, A5.ask, A5.hd, A5.hf, _, rfl, y, rfl, fun a3 d3 x3 z3 n3 => ⟨a3, _, y, rfl, newErr_at n3, A5.ask, A5.hd, A5.hf, by show 3 ≤ sizeLine; decide, fun t ht => ?_⟩⟩⟩⟩, ?_⟩
    · exact step_three ln rfl (by show 5 < 100; decide) hl s1 th g1 x1 z1 n1 x2 z2 n2 x3 z3 n3 ht
    rintro _ H1 ⟨l, ts, rfl, hl, s1, ln, th, g1⟩
    refine ⟨MidE H c y 7, ⟨_, rfl, .inl ⟨rfl, _, SqL.of g1⟩, _, rfl, y, rfl, fun a1 d1 x1 z1 n1 => ⟨_, rfl, y, rfl, fun a2 d2 x2 z2 n2 => ⟨a2, _, y, rfl, newErr_at n2, A6.ask, A6.hd, A6.hf, _, rfl, y, rfl, fun a3 d3 x3 z3 n3 => ⟨a3, _, y, rfl, newErr_at n3, A6.ask, A6.hd, A6.hf, by show 3 ≤ sizeLine; decide, fun t ht => ?_⟩⟩⟩⟩, ?_⟩
    · exact step_three ln rfl (by show 6 < 100; decide) hl s1 th g1 x1 z1 n1 x2 z2 n2 x3 z3 n3 ht
    rintro _ H1 ⟨l, ts, rfl, hl, s1, ln, th, g1⟩
    refine ⟨MidE H c y 8, ⟨_, rfl, .inl ⟨rfl, _, SqL.of g1⟩, _, rfl, y, rfl, fun a1 d1 x1 z1 n1 => ⟨_, rfl, y, rfl, fun a2 d2 x2 z2 n2 => ⟨a2, _, y, rfl, newErr_at n2, A7.ask, A7.hd, A7.hf, _, rfl, y, rfl, fun a3 d3 x3 z3 n3 => ⟨a3, _, y, rfl, newErr_at n3, A7.ask, A7.hd, A7.hf, by show 3 ≤ sizeLine; decide, fun t ht => ?_⟩⟩⟩⟩, ?_⟩
    · exact step_three ln rfl (by show 7 < 100; decide) hl s1 th g1 x1 z1 n1 x2 z2 n2 x3 z3 n3 ht
    rintro _ H1 ⟨l, ts, rfl, hl, s1, ln, th, g1⟩
    refine ⟨MidE H c y 9, ⟨_, rfl, .inl ⟨rfl, _, SqL.of g1⟩, _, rfl, y, rfl, fun a1 d1 x1 z1 n1 => ⟨_, rfl, y, rfl, fun a2 d2 x2 z2 n2 => ⟨a2, _, y, rfl, newErr_at n2, A8.ask, A8.hd, A8.hf, _, rfl, y, rfl, fun a3 d3 x3 z3 n3 => ⟨a3, _, y, rfl, newErr_at n3, A8.ask, A8.hd, A8.hf, by show 3 ≤ sizeLine; decide, fun t ht => ?_⟩⟩⟩⟩, ?_⟩
    · exact step_three ln rfl (by show 8 < 100; decide) hl s1 th g1 x1 z1 n1 x2 z2 n2 x3 z3 n3 ht
    rintro _ H1 ⟨l, ts, rfl, hl, s1, ln, th, g1⟩
    refine ⟨MidE H c y 10, ⟨_, rfl, .inl ⟨rfl, _, SqL.of g1⟩, _, rfl, y, rfl, fun a1 d1 x1 z1 n1 => ⟨_, rfl, y, rfl, fun a2 d2 x2 z2 n2 => ⟨a2, _, y, rfl, newErr_at n2, A9.ask, A9.hd, A9.hf, _, rfl, y, rfl, fun a3 d3 x3 z3 n3 => ⟨a3, _, y, rfl, newErr_at n3, A9.ask, A9.hd, A9.hf, by show 3 ≤ sizeLine; decide, fun t ht => ?_⟩⟩⟩⟩, ?_⟩
    · exact step_three ln rfl (by show 9 < 100; decide) hl s1 th g1 x1 z1 n1 x2 z2 n2 x3 z3 n3 ht
    rintro _ H1 ⟨l, ts, rfl, hl, s1, ln, th, g1⟩
    refine ⟨MidE H c y 11, ⟨_, rfl, .inl ⟨rfl, _, SqL.of g1⟩, _, rfl, y, rfl, fun a1 d1 x1 z1 n1 => ⟨_, rfl, y, rfl, fun a2 d2 x2 z2 n2 => ⟨a2, _, y, rfl, newErr_at n2, A10.ask, A10.hd, A10.hf, _, rfl, y, rfl, fun a3 d3 x3 z3 n3 => ⟨a3, _, y, rfl, newErr_at n3, A10.ask, A10.hd, A10.hf, by show 3 ≤ sizeLine; decide, fun t ht => ?_⟩⟩⟩⟩, ?_⟩
    · exact step_three ln rfl (by show 10 < 100; decide) hl s1 th g1 x1 z1 n1 x2 z2 n2 x3 z3 n3 ht
    rintro _ H1 ⟨l, ts, rfl, hl, s1, ln, th, g1⟩
    refine ⟨MidE H c y 12, ⟨_, rfl, .inl ⟨rfl, _, SqL.of g1⟩, _, rfl, y, rfl, fun a1 d1 x1 z1 n1 => ⟨_, rfl, y, rfl, fun a2 d2 x2 z2 n2 => ⟨a2, _, y, rfl, newErr_at n2, A11.ask, A11.hd, A11.hf, _, rfl, y, rfl, fun a3 d3 x3 z3 n3 => ⟨a3, _, y, rfl, newErr_at n3, A11.ask, A11.hd, A11.hf, by show 3 ≤ sizeLine; decide, fun t ht => ?_⟩⟩⟩⟩, ?_⟩
    · exact step_three ln rfl (by show 11 < 100; decide) hl s1 th g1 x1 z1 n1 x2 z2 n2 x3 z3 n3 ht
    rintro _ H1 ⟨l, ts, rfl, hl, s1, ln, th, g1⟩
    exact ⟨_, rfl, k _ _ _ hl s1 th ln g1⟩
end
end WW
end

section
set_option Elab.async false
set_option linter.all false
set_option maxRecDepth 100000
set_option maxHeartbeats 8000000
namespace WW
open PySem L2 WR WG
section
variable {P : Program} {w : World} {K : PySem.W.Frag} {mg : Str → Option Value} {base : Heap}
/-- [..], told to stand apart from sys.modules -/
def tLstB (t : TA) : TE := fun σ H Q => t σ H fun xs H1 => xs.length ≤ sizeLine ∧ ∀ p, H1 p = none → p ≠ sysModules → Q (.ref p) (upd H1 p (.lst xs))
theorem pe_lstB {X : Cx} {es : List Expr} {t : TA} {pos : Pos} (h : PA X es t) : PE X (.List es pos) (tLstB t) := by
  refine ⟨fun pins s σ H Q I hq => ?_⟩
  refine wpAny_List_spliced (thn (h.run pos pins s σ H _ I hq)
    fun us s1 ⟨xs, H1, I1, r, z, q⟩ => ⟨by rw [← r.length]; exact z, ?_⟩)
  have hf : H1 s1.heap.objs.size = none := I1.hok.fresh (Nat.le_refl _)
  have hb : s1.heap.objs.size ≠ sysModules := Nat.ne_of_gt I1.big
  refine ⟨.ref s1.heap.objs.size, upd H1 s1.heap.objs.size (.lst xs),
    I1.laid (t' := s1.toks) (fun b u e => Heap.get?_push_of_some _ e) (Nat.le_refl _) ?_, rfl, q _ hf hb⟩
  exact ⟨z, us, 0, r, Heap.get?_push_size _ rfl⟩
/-- the values that _law_any draws from -/
inductive EachAt (H : Hp) : V → PyData → Prop
  | non : EachAt H .non .none
  | bl : EachAt H (.bl false) (.bool false)
  | int {i : Int} (h : i = -5 ∨ i = 10 ^ 45) : EachAt H (.int i) (.int i)
  | str {x : Str} (h : x = "" ∨ x = "wide" ∨ x = "two words") : EachAt H (.str x) (.str x)
  | lst0 {p : Addr} (h : H p = some (.lst [])) : EachAt H (.ref p) (.list [])
  | lstT {p t : Addr} (h : H p = some (.lst [.ref t])) (ht : H t = some (.tup [.int 0, .int 2])) : EachAt H (.ref p) (.list [.tuple [.int 0, .int 2]])
  | tup0 {p : Addr} (h : H p = some (.tup [])) : EachAt H (.ref p) (.tuple [])
  | tup4 {p : Addr} (h : H p = some (.tup [.int 4])) : EachAt H (.ref p) (.tuple [.int 4])
  | dic0 {p : Addr} (h : H p = some (.dK [])) : EachAt H (.ref p) (.dict [])
  | dicA {p t : Addr} (h : H p = some (.dK [(Sum.inr "a", .ref t)])) (ht : H t = some (.tup [.int 1])) : EachAt H (.ref p) (.dict [(.str "a", .tuple [.int 1])])
  | lstL {p t : Addr} (h : H p = some (.lst [.ref t])) (ht : H t = some (.lst [.non])) : EachAt H (.ref p) (.list [.list [.none]])
theorem EachAt.same {H H' : Hp} {v : V} {d : PyData} (e : EachAt H v d) (s : Same H H') : EachAt H' v d := by
  cases e with
  | non => exact .non
  | bl => exact .bl
  | int h => exact .int h
  | str h => exact .str h
  | lst0 h => exact .lst0 (s _ _ h)
  | lstT h ht => exact .lstT (s _ _ h) (s _ _ ht)
  | tup0 h => exact .tup0 (s _ _ h)
  | tup4 h => exact .tup4 (s _ _ h)
  | dic0 h => exact .dic0 (s _ _ h)
  | dicA h ht => exact .dicA (s _ _ h) (s _ _ ht)
  | lstL h ht => exact .lstL (s _ _ h) (s _ _ ht)
def goodB (d : PyData) : Bool := (PyData.list [d, d]).showable && (decide ((PyData.list [d, d]).depth ≤ 60) && decide ((PyData.list [d, d]).shown.length ≤ sizeLine))
theorem EachAt.good {H : Hp} {v : V} {d : PyData} (e : EachAt H v d) : goodB d = true := by
  cases e with
  | int h => rcases h with rfl | rfl <;> decide +kernel
  | str h => rcases h with rfl | rfl | rfl <;> decide +kernel
  | _ => decide +kernel
theorem each_rdb {X : Cx} {H : Hp} {v : V} {d : PyData} (e : EachAt H v d) : Rdb X H v d := by
  cases e with
  | non => exact rdb_dp .non (by decide)
  | bl => exact rdb_dp (.bl _) (by decide)
  | int h => exact rdb_dp (.int _) (by simp [PyData.hasDict])
  | str h => exact rdb_dp (.str _) (by simp [PyData.hasDict])
  | lst0 h => exact rdb_dp (.lst (SqL.of h) .nil) (by decide)
  | lstT h ht => exact rdb_dp (.lst (SqL.of h) (.cons (.tup (SqT.of ht) (.cons (.int _) (.cons (.int _) .nil))) .nil)) (by decide)
  | tup0 h => exact rdb_dp (.tup (SqT.of h) .nil) (by decide)
  | tup4 h => exact rdb_dp (.tup (SqT.of h) (.cons (.int _) .nil)) (by decide)
  | lstL h ht => exact rdb_dp (.lst (SqL.of h) (.cons (.lst (SqL.of ht) (.cons .non .nil)) .nil)) (by decide)
  | dic0 h =>
    intro pins σ s I u ru
    cases (show u = Value.ref _ from ru)
    obtain ⟨_, hm, vs, kv, o, es, ep, ho, hc, hd, _, hp, _⟩ := dk_of I.hok h
    cases kv
    have he : es.toList = [] := by
      generalize es.toList = l at hp
      cases hp
      rfl
    refine ⟨[_], Reads.dict (as := []) (bs := []) ho hc.1 hd (by rw [he]; exact ReadsAll.nil) (by rw [he]; exact ReadsAll.nil), fun _ z => ?_⟩
    have z' := List.mem_singleton.mp z
    rw [z', beq_self_eq_true] at hm
    cases hm
  | @dicA p t h ht =>
    intro pins σ s I u ru
    cases (show u = Value.ref _ from ru)
    obtain ⟨-, hm, vs, kv, o, es, ep, ho, hc, hd, -, hp, -⟩ := dk_of I.hok h
    cases kv with
    | cons ha hr =>
      cases hr
      rename_i q
      obtain ⟨k1, v1⟩ := q
      obtain ⟨e1, r1⟩ := ha
      have e1' : (Sum.inr "a" : Key) = k1 := e1
      subst e1'
      obtain ⟨en, he, hk, hv⟩ : ∃ en : DictEntry, es.toList = [en] ∧ keyIs (Sum.inr "a") en.key = true ∧ en.val = v1 := by
        generalize es.toList = l at hp
        cases hp with
        | cons h1 h2 h3 =>
          cases h3
          exact ⟨_, rfl, h1, h2⟩
      rcases keyIs_shape hk with ⟨_, _, e, _⟩ | ⟨x, tk, e, hkey⟩
      · cases e
      · cases e
        obtain ⟨as, rt, _⟩ := rdb_dp (X := X) (H := H) (v := .ref t) (d := .tuple [.int 1]) (.tup (SqT.of ht) (.cons (.int _) .nil)) (by decide) pins σ s I v1 r1
        have as0 : as = [] := by
          cases rt with
          | tuple _ _ _ ra =>
            generalize Array.toList _ = l at ra
            generalize hq : ([PyData.int 1] : List PyData) = ds at ra
            cases ra with
            | nil => rfl
            | cons r2 r3 =>
              cases hq
              cases r3
              cases r2
              rfl
        subst as0
        refine ⟨[p], Reads.dict (as := []) (bs := []) ho hc.1 hd ?_ ?_, fun _ z => ?_⟩
        · rw [he]
          show ReadsAll _ [en.key] [.str "a"] []
          rw [hkey]
          exact ReadsAll.cons (as := []) (bs := []) (Reads.str _ _) ReadsAll.nil
        · rw [he]
          show ReadsAll _ [en.val] [.tuple [.int 1]] []
          rw [hv]
          exact ReadsAll.cons (as := []) (bs := []) rt ReadsAll.nil
        · have z' := List.mem_singleton.mp z
          rw [z', beq_self_eq_true] at hm
          cases hm
/-- the list of the same thing twice -/
theorem pair_rdb {X : Cx} {H : Hp} {v : V} {d : PyData} {l : Addr} (e : EachAt H v d) (hl : H l = some (.lst [v, v])) (hn : l ≠ sysModules) : Rdb X H (.ref l) (.list [d, d]) := by
  intro pins σ s I u ru
  cases (show u = Value.ref l from ru)
  obtain ⟨its, rv, ⟨o, n, ho, hc, _, hd⟩, _⟩ := I.list (SqL.of hl)
  cases rv with
  | @cons _ u1 _ r1 rv1 rt =>
    cases rt with
    | @cons _ u2 _ r2 rv2 rt2 =>
      cases rt2
      obtain ⟨as, q1, m1⟩ := each_rdb e pins σ s I u1 rv1
      obtain ⟨bs, q2, m2⟩ := each_rdb e pins σ s I u2 rv2
      refine ⟨_, Reads.list ho hc hd (ReadsAll.cons q1 (ReadsAll.cons q2 ReadsAll.nil)), fun z hz => ?_⟩
      have hdd : d.hasDict = true := by
        cases e with
        | dic0 h => rfl
        | dicA h ht => rfl
        | _ => simp [PyData.hasDict, PyData.hasDictAll] at z
      rcases List.mem_cons.mp hz with z1 | z1
      · exact hn z1.symm
      · rcases List.mem_append.mp z1 with z2 | z2
        · exact m1 hdd z2
        · rw [List.append_nil] at z2
          exact m2 hdd z2
/-- repr of the list of the same thing twice -/
theorem call_pair {X : Cx} (hgu : X.A.guards = some []) (hu : X.A.units + 64 < cLine) : CallR X (.builtin "repr") (fun xs H Q => ∃ (l : Addr) (v : V) (d : PyData), xs = [.ref l] ∧ H l = some (.lst [v, v]) ∧ l ≠ sysModules ∧ EachAt H v d ∧ Q (.str (PyData.list [d, d]).shown) H) := by
  intro pins s σ H xs us Q I r ⟨l, v, d, ex, hl, hn, e, q⟩
  have g := e.good
  unfold goodB at g
  simp only [Bool.and_eq_true, decide_eq_true_eq] at g
  exact call_repr hgu hu pins s σ H xs us Q I r ⟨l, _, ex, pair_rdb e hl hn, g.1, g.2.1, g.2.2, q⟩
end
end WW
end

section
set_option Elab.async false
set_option linter.all false
set_option maxRecDepth 100000
set_option maxHeartbeats 8000000
namespace WW
open PySem L2 WR WG
section
variable {P : Program} {w : World} {K : PySem.W.Frag} {mg : Str → Option Value} {base : Heap}
/-- the heap without the draw's dict and its first list -/
def hid (d l : Addr) (H : Hp) : Hp := fun b => if b = d ∨ b = l then none else H b
theorem hid_of {d l p : Addr} {H : Hp} {o : HO} (h : H p = some o) (h1 : p ≠ d) (h2 : p ≠ l) : hid d l H p = some o := by
  unfold hid
  rw [if_neg (by intro z; rcases z with z | z; exact h1 z; exact h2 z)]
  exact h
theorem hid_keep {d l : Addr} {H H' : Hp} (k : KeepD H H' d l) : Same (hid d l H) H' := fun b o e => by
  unfold hid at e
  split at e
  · cases e
  · rename_i h
    exact k b o e (fun z => h (.inl z)) (fun z => h (.inr z))
theorem hid_same {d l : Addr} {H H' : Hp} (s : Same H H') : Same (hid d l H) (hid d l H') := fun b o e => by
  unfold hid at e ⊢
  split at e
  · cases e
  · rename_i h
    rw [if_neg h]
    exact s b o e
theorem alloc {H H' : Hp} {p : Addr} {o : HO} (e : upd H p o = H') (h : H p = none) : Same H H' ∧ H' p = some o := by
  subst e
  exact ⟨same_new h, upd_same⟩
def spAny (K : PySem.W.Frag) : Sp := fun vs H Q _ => ∃ (d l c : Addr), vs = [.ref d] ∧ DrawAt H d l c ∧
  ∀ (x : V) (dt : PyData) (H' : Hp), EachAt H' x dt → DrawAt H' d l c → KeepD H H' d l → Q x H'
theorem scAny : FnScope ["draw", "some"] ["draw"] (defScope sAny) := ⟨rfl, rfl, rfl, by decide +kernel, rfl, by decide +kernel, by decide +kernel⟩
theorem ok_any {f fM : Addr} {fd fdM : FuncData} (F : Fun K "_law_any" "_law_any" sAny f fd) (GM : FnOk P w K mg base CX0 3 fM fdM ["draw", "some"] (spPick K)) (kM : PySem.W.keepIn K (.ref fM) = true) (bM : Binds K fdM ["draw", "some"] []) (mM : mg "_law_pick" = some (.ref fM)) : FnOk P w K mg base CX0 4 f fd ["draw"] (spAny K) := by
  refine F.ok scAny (fun vs H Q E h => ?_) (fun cdv A outer s H vs Q E hr h => ?_)
  · obtain ⟨d, l, c, rfl, _⟩ := h
    rfl
  · obtain ⟨d, l, c, rfl, D, k⟩ := h
    refine ⟨_, pss_cons (ps_set (i := 1) scAny.nd rfl (Or.inl rfl) (pe_lst (pa_cons pe_non (pa_cons pe_bl (pa_cons (pe_un un_neg pe_int) (pa_cons (pe_op op_pow pe_int pe_int) (pa_cons pe_str (pa_cons pe_str (pa_cons pe_str
        (pa_cons (pe_lst pa_nil) (pa_cons (pe_lst (pa_cons (pe_tup (pa_cons pe_int (pa_cons pe_int pa_nil))) pa_nil)) (pa_cons (pe_tup pa_nil) (pa_cons (pe_tup (pa_cons pe_int pa_nil))
        (pa_cons pe_dnewK (pa_cons (pe_disp (pps_cons pe_str (pe_tup (pa_cons pe_int pa_nil)) pps_nil) (by rfl) (by rfl) (fun z => by cases z) (by decide)) (pa_cons (pe_lst (pa_cons (pe_lst (pa_cons pe_non pa_nil)) pa_nil)) pa_nil))))))))))))))))
      (pss_one (ps_ret (pe_call GM hr rfl mM kM bM .nil pass0 (pa_cons (pv 0) (pa_cons (pv 1) pa_nil))))), ?_⟩
    refine ⟨_, rfl, _, _, rfl, rfl, ⟨by decide, by decide, by decide⟩, by decide, fun p1 h1 => ?_⟩
    generalize g1 : upd H p1 (.lst []) = H1
    obtain ⟨s1, f1⟩ := alloc g1 h1
    refine ⟨by show 2 ≤ sizeLine; decide, fun t1 h2 => ?_⟩
    generalize g2 : upd H1 t1 (.tup [.int 0, .int 2]) = H2
    obtain ⟨s2, f2⟩ := alloc g2 h2
    refine ⟨by show 1 ≤ sizeLine; decide, fun p2 h3 => ?_⟩
    generalize g3 : upd H2 p2 (.lst [.ref t1]) = H3
    obtain ⟨s3, f3⟩ := alloc g3 h3
    refine ⟨by decide, fun t2 h4 => ?_⟩
    generalize g4 : upd H3 t2 (.tup []) = H4
    obtain ⟨s4, f4⟩ := alloc g4 h4
    refine ⟨by show 1 ≤ sizeLine; decide, fun t3 h5 => ?_⟩
    generalize g5 : upd H4 t3 (.tup [.int 4]) = H5
    obtain ⟨s5, f5⟩ := alloc g5 h5
    intro d1 h6
    generalize g6 : upd H5 d1 (.dK []) = H6
    obtain ⟨s6, f6⟩ := alloc g6 h6
    intro d2 h7
    refine ⟨by show 1 ≤ sizeLine; decide, fun t4 h8 => ⟨?_, [(Sum.inr "a", .ref t4)], rfl, by show 1 ≤ 15; decide, ?_⟩⟩
    · exact keep1 upd_same h8
    have n78 : t4 ≠ d2 := (ne_of_none upd_same h8).symm
    have s8' : Same H6 (upd (upd (upd H6 d2 (.dK [])) t4 (.tup [.int 1])) d2 (.dK (mergeK [] [(Sum.inr "a", .ref t4)]))) := fun b o e => by
      rw [upd_ne (ne_of_none e h7)]
      exact keep1 (keep1 e h7) h8
    have f8' : upd (upd (upd H6 d2 (.dK [])) t4 (.tup [.int 1])) d2 (.dK (mergeK [] [(Sum.inr "a", .ref t4)])) t4 = some (.tup [.int 1]) := by
      rw [upd_ne n78]
      exact upd_same
    have f7' : upd (upd (upd H6 d2 (.dK [])) t4 (.tup [.int 1])) d2 (.dK (mergeK [] [(Sum.inr "a", .ref t4)])) d2 = some (.dK [(Sum.inr "a", .ref t4)]) := upd_same
    generalize upd (upd (upd H6 d2 (.dK [])) t4 (.tup [.int 1])) d2 (.dK (mergeK [] [(Sum.inr "a", .ref t4)])) = H8 at s8' f8' f7' ⊢
    refine ⟨by show 1 ≤ sizeLine; decide, fun p3 h9 => ?_⟩
    generalize g9 : upd H8 p3 (.lst [.non]) = H9
    obtain ⟨s9, f9⟩ := alloc g9 h9
    refine ⟨by show 1 ≤ sizeLine; decide, fun p4 h10 => ?_⟩
    generalize g10 : upd H9 p4 (.lst [.ref p3]) = H10
    obtain ⟨s10, f10⟩ := alloc g10 h10
    refine ⟨by show 14 ≤ sizeLine; decide, fun q h11 => ?_⟩
    obtain ⟨⟨r0, t0, hd⟩, ⟨la, hl, _⟩, _, _⟩ := id D
    have c2 := s1.trans s2
    have c3 := c2.trans s3
    have c4 := c3.trans s4
    have c5 := c4.trans s5
    have c6 := c5.trans s6
    have c8 := c6.trans s8'
    have c9 := c8.trans s9
    have c10 := c9.trans s10
    have s11 : ∀ z, Same H10 (upd H10 q z) := fun z => same_new h11
    have c11 : ∀ z, Same H (upd H10 q z) := fun z => c10.trans (s11 z)
    -- what was made stands apart from the draw
    have ap : ∀ {Hk : Hp} {p : Addr}, Same H Hk → Hk p = none → p ≠ d ∧ p ≠ l := fun {Hk p} sk hp => ⟨(ne_of_none (sk _ _ hd) hp).symm, (ne_of_none (sk _ _ hl) hp).symm⟩
    have a1 := ap (Same.refl H) h1
    have a2 := ap s1 h2
    have a3 := ap c2 h3
    have a4 := ap c3 h4
    have a5 := ap c4 h5
    have a6 := ap c5 h6
    have a7 := ap c6 h7
    have a8 : t4 ≠ d ∧ t4 ≠ l := ap (c6.trans (same_new h7)) h8
    have a9 := ap c8 h9
    have a10 := ap c9 h10
    have a11 := ap c10 h11
    have z10 := fun z => s11 z
    have z9 := fun z => s10.trans (s11 z)
    have z8 := fun z => s9.trans (z9 z)
    have z6 := fun z => s8'.trans (z8 z)
    have z5 := fun z => s6.trans (z6 z)
    have z4 := fun z => s5.trans (z5 z)
    have z3 := fun z => s4.trans (z4 z)
    have z2 := fun z => s3.trans (z3 z)
    have z1 := fun z => s2.trans (z2 z)
    refine ⟨_, rfl, _, rfl, d, l, c, q, [V.non, .bl false, .int (-5), .int (10 ^ 45), .str "", .str "wide", .str "two words", .ref p1, .ref p2, .ref t2, .ref t3, .ref d1, .ref d2, .ref p4], rfl, D.same (c11 _), upd_same, a11.2, by show 0 < 14; decide, by show 14 ≤ 2 ^ 100; decide, fun i x H' hx D2 k2 => ?_⟩
    have kp := hid_keep k2
    have kk : KeepD H H' d l := (Same.keepD d l (c11 _)).trans k2
    match i, hx with
    | 0, hx => cases hx; exact k _ _ _ .non D2 kk
    | 1, hx => cases hx; exact k _ _ _ .bl D2 kk
    | 2, hx => cases hx; exact k _ _ _ (.int (.inl rfl)) D2 kk
    | 3, hx => cases hx; exact k _ _ _ (.int (.inr rfl)) D2 kk
    | 4, hx => cases hx; exact k _ _ _ (.str (.inl rfl)) D2 kk
    | 5, hx => cases hx; exact k _ _ _ (.str (.inr (.inl rfl))) D2 kk
    | 6, hx => cases hx; exact k _ _ _ (.str (.inr (.inr rfl))) D2 kk
    | 7, hx => cases hx; exact k _ _ _ (.lst0 (kp _ _ (hid_of (z1 _ _ _ f1) a1.1 a1.2))) D2 kk
    | 8, hx => cases hx; exact k _ _ _ (.lstT (kp _ _ (hid_of (z3 _ _ _ f3) a3.1 a3.2)) (kp _ _ (hid_of (z2 _ _ _ f2) a2.1 a2.2))) D2 kk
    | 9, hx => cases hx; exact k _ _ _ (.tup0 (kp _ _ (hid_of (z4 _ _ _ f4) a4.1 a4.2))) D2 kk
    | 10, hx => cases hx; exact k _ _ _ (.tup4 (kp _ _ (hid_of (z5 _ _ _ f5) a5.1 a5.2))) D2 kk
    | 11, hx => cases hx; exact k _ _ _ (.dic0 (kp _ _ (hid_of (z6 _ _ _ f6) a6.1 a6.2))) D2 kk
    | 12, hx => cases hx; exact k _ _ _ (.dicA (kp _ _ (hid_of (z8 _ _ _ f7') a7.1 a7.2)) (kp _ _ (hid_of (z8 _ _ _ f8') a8.1 a8.2))) D2 kk
    | 13, hx => cases hx; exact k _ _ _ (.lstL (kp _ _ (hid_of (z10 _ _ _ f10) a10.1 a10.2)) (kp _ _ (hid_of (z9 _ _ _ f9) a9.1 a9.2))) D2 kk
    | n + 14, hx => cases hx
end
end WW
end

section
set_option Elab.async false
set_option linter.all false
set_option maxRecDepth 100000
set_option maxHeartbeats 8000000
namespace WW
open PySem L2 WR WG
section
variable {P : Program} {w : World} {K : PySem.W.Frag} {mg : Str → Option Value} {base : Heap}
theorem call_isE2 {X : Cx} {C : Addr} {n : String} {b : Bool} (T : AskC X.K C) (k : PySem.W.kitOne X.K (.ref C) (.type n) = some b) :
    CallR X (.builtin "isinstance") (fun xs H Q => ∃ a o, xs = [.ref a, .ty n] ∧ ErrAt H a C o ∧ Q (.bl b) H) := by
  intro pins s σ H xs us Q I r ⟨a, o, e, he, q⟩
  exact call_isErr pins s σ H xs us Q I r ⟨a, C, o, .ty n, .type n, b, e, he, .ty n, T, k, q⟩
theorem dpAll_bl {H : Hp} : ∀ bs : List Bool, DpAll K H (bs.map V.bl) (bs.map PyData.bool)
  | [] => .nil
  | _ :: r => .cons (.bl _) (dpAll_bl r)
theorem can_bools : ∀ bs : List Bool, PyData.canLayAll0 (bs.map PyData.bool) = true
  | [] => by simp [PyData.canLayAll0]
  | _ :: r => by simp [PyData.canLayAll0, PyData.canLay0, can_bools r]
theorem depth_bools : ∀ bs : List Bool, PyData.depthAll (bs.map PyData.bool) = 0
  | [] => by simp [PyData.depthAll]
  | _ :: r => by simp [PyData.depthAll, PyData.depth, depth_bools r]
theorem shaped_bools (bs : List Bool) : SeqAt.shaped (.list (bs.map PyData.bool)) = true := by
  simp [SeqAt.shaped, PyData.canLay0, PyData.depth, can_bools, depth_bools]
theorem eqvAll_bools : ∀ bs : List Bool, PyData.eqvAll (bs.map PyData.bool) (bs.map PyData.bool) = true
  | [] => by simp [PyData.eqvAll]
  | a :: r => by simp [PyData.eqvAll, PyData.eqv, eqvAll_bools r]
theorem eqv_bools (bs : List Bool) : PyData.eqv (.list (bs.map PyData.bool)) (.list (bs.map PyData.bool)) = true := by
  rw [← eqvAll_bools bs]; simp [PyData.eqv]
/-- which of the 41 -/
def bits (i n : Nat) : List Bool := (List.range n).map fun j => decide (j = i)
theorem bits_len (i n : Nat) : (bits i n).length = n := by unfold bits; rw [List.length_map, List.length_range]
theorem bits_succ (i n : Nat) : bits i (n + 1) = bits i n ++ [decide (n = i)] := by unfold bits; rw [List.range_succ, List.map_append]; rfl
/-- errors of the classes from i on -/
def ErrsB (H : Hp) (c : Nat → Addr) : Nat → List Addr → Prop
  | _, [] => True
  | i, a :: r => (∃ o, ErrAt H a (c i) o) ∧ ErrsB H c (i + 1) r
theorem ErrsB.same {H H' : Hp} {c : Nat → Addr} (s : Same H H') : ∀ {as : List Addr} {i : Nat}, ErrsB H c i as → ErrsB H' c i as
  | [], _, _ => trivial
  | _ :: _, _, ⟨⟨o, h⟩, r⟩ => ⟨⟨o, h.same s⟩, ErrsB.same s r⟩
theorem ErrsB.put {H : Hp} {c : Nat → Addr} {l : Addr} {xs ys : List V} (g : H l = some (.lst xs)) : ∀ {as : List Addr} {i : Nat}, ErrsB H c i as → ErrsB (upd H l (.lst ys)) c i as
  | [], _, _ => trivial
  | _ :: _, _, ⟨⟨o, h⟩, r⟩ => ⟨⟨o, err_put g h⟩, ErrsB.put g r⟩
theorem errsB_of {H : Hp} {c : Nat → Addr} : ∀ {as : List Addr} {i : Nat}, Bare H c i as → ErrsB H c i as
  | [], _, _ => trivial
  | _ :: _, _, ⟨h, r⟩ => ⟨⟨_, h⟩, errsB_of r⟩
theorem errsB_app {H : Hp} {c : Nat → Addr} : ∀ {as bs : List Addr} {i j : Nat}, j = i + as.length → ErrsB H c i as → ErrsB H c j bs → ErrsB H c i (as ++ bs)
  | [], bs, i, j, e, _, h => by
    have e' : j = i := e
    rw [← e']
    exact h
  | _ :: r, bs, i, j, e, ⟨h, q⟩, hb => ⟨h, errsB_app (by rw [e, List.length_cons]; omega) q hb⟩
theorem errsB_get {H : Hp} {c : Nat → Addr} : ∀ {as : List Addr} {i j : Nat} {a : Addr}, ErrsB H c i as → as[j]? = some a → ∃ o, ErrAt H a (c (i + j)) o
  | [], _, _, _, _, e => by cases e
  | b :: r, i, 0, a, ⟨h, _⟩, e => by
    cases e
    exact h
  | b :: r, i, j + 1, a, ⟨_, q⟩, e => by
    have z := errsB_get (j := j) q e
    rw [show i + 1 + j = i + (j + 1) by omega] at z
    exact z
theorem threes_get {H : Hp} {c : Nat → Addr} {y : V} : ∀ {ts : List Addr} {i j : Nat} {t : Addr}, Threes H c y i ts → ts[j]? = some t → ∃ a f, H t = some (.tup [.ref a, y, y]) ∧ ErrAt H a (c (i + j)) (some (f, y))
  | [], _, _, _, _, e => by cases e
  | b :: r, i, 0, a, ⟨h, _⟩, e => by
    cases e
    exact h
  | b :: r, i, j + 1, a, ⟨_, q⟩, e => by
    have z := threes_get (j := j) q e
    rw [show i + 1 + j = i + (j + 1) by omega] at z
    exact z
theorem get_map_ref {as : List Addr} {i : Nat} {x : V} (h : (as.map V.ref)[i]? = some x) : ∃ a, x = .ref a ∧ as[i]? = some a := by
  rw [List.getElem?_map] at h
  cases e : as[i]? with
  | none => rw [e] at h; cases h
  | some z => rw [e] at h; exact ⟨z, (Option.some.inj h).symm, rfl⟩
/-- an error of one of the 41 classes, by whichever of them: asked as the law asks -/
def rIsAny (K : PySem.W.Frag) (c : Nat → Addr) (t : V) : List V → Hp → VK → Prop := fun xs H Q => ∃ a i o, xs = [.ref a, t] ∧ i < 42 ∧ ErrAt H a (c i) o ∧ Q (.bl true) H
structure Cls2 (K : PySem.W.Frag) (c : Nat → Addr) : Prop where
  ask : ∀ i, i < 42 → AskC K (c i)
  kit : ∀ i, i < 42 → ∀ j, j < 41 → PySem.W.kitOne K (.ref (c i)) (.ref (c j)) = some (decide (j = i))
  kw : ∀ i, i < 42 → PySem.W.kitOne K (.ref (c i)) (.ref (c 41)) = some true
  kv : ∀ i, i < 42 → PySem.W.kitOne K (.ref (c i)) (.type "ValueError") = some true
theorem call_isW {X : Cx} {c : Nat → Addr} (T : Cls2 X.K c) : CallR X (.builtin "isinstance") (rIsAny X.K c (.ref (c 41))) := by
  intro pins s σ H xs us Q I r ⟨a, i, o, e, hi, he, q⟩
  exact call_isE1 (T.ask i hi) (T.kw i hi) pins s σ H xs us Q I r ⟨a, o, e, he, q⟩
theorem call_isV {X : Cx} {c : Nat → Addr} (T : Cls2 X.K c) : CallR X (.builtin "isinstance") (rIsAny X.K c (.ty "ValueError")) := by
  intro pins s σ H xs us Q I r ⟨a, i, o, e, hi, he, q⟩
  exact call_isE2 (T.ask i hi) (T.kv i hi) pins s σ H xs us Q I r ⟨a, o, e, he, q⟩
theorem kind_of {c : Nat → Addr} (T : Cls2 K c) {i : Nat} (hi : i < 42) : Kind K c (c i) (fun j => decide (j = i)) := ⟨T.ask i hi, fun j hj => T.kit i hi j hj⟩
structure LawG (mg : Str → Option Value) : Prop where
  enum : mg "enumerate" = none
  range : mg "range" = none
  isi : mg "isinstance" = none
  repr : mg "repr" = none
  ve : mg "ValueError" = none
def spLaw (K : PySem.W.Frag) : Sp := fun vs H Q _ => ∃ (a : Addr) (ns : List Int), vs = [.ref a] ∧ SqL K H a (ns.map V.int) ∧ ns.length ≤ 63 ∧ ∀ H', Q (.bl true) H'
abbrev nLaw : List Str := ["script", "draw", "words_here", "each", "threes_here", "errors_here", "spot", "error", "base_here", "item", "k"]
theorem scLaw : FnScope nLaw ["script"] (defScope sLaw) := ⟨rfl, rfl, rfl, by decide +kernel, rfl, by decide +kernel, by decide +kernel⟩
theorem ok_law {f fB fP fA fE fN fK : Addr} {fd dB dP dA dE dN dK : FuncData} {c' : Nat → Addr} (F : Fun K "law" "law" sLaw f fd) (S : Cls K mg c') (T : Cls2 K c') (G : LawG mg)
    (GB : FnOk P w K mg base CX0 1 fB dB ["script"] (spBegun K)) (kB : PySem.W.keepIn K (.ref fB) = true) (bB : Binds K dB ["script"] []) (mB : mg "_law_begun" = some (.ref fB))
    (GP : FnOk P w K mg base CX0 3 fP dP ["draw", "some"] (spPick K)) (kP : PySem.W.keepIn K (.ref fP) = true) (bP : Binds K dP ["draw", "some"] []) (mP : mg "_law_pick" = some (.ref fP))
    (GA : FnOk P w K mg base CX0 4 fA dA ["draw"] (spAny K)) (kA : PySem.W.keepIn K (.ref fA) = true) (bA : Binds K dA ["draw"] []) (mA : mg "_law_any" = some (.ref fA))
    (GE : FnOk P w K mg base CX0 3 fE dE ["each"] (spErrs K c')) (kE : PySem.W.keepIn K (.ref fE) = true) (bE : Binds K dE ["each"] []) (mE : mg "_law_errors_of" = some (.ref fE))
    (GN : FnOk P w K mg base CX0 1 fN dN ["words_here"] (spPlain K c')) (kN : PySem.W.keepIn K (.ref fN) = true) (bN : Binds K dN ["words_here"] []) (mN : mg "_law_plain_errors" = some (.ref fN))
    (GK : FnOk P w K mg base CX0 1 fK dK ["error"] (spKinds K c')) (kK : PySem.W.keepIn K (.ref fK) = true) (bK : Binds K dK ["error"] []) (mK : mg "_law_kinds" = some (.ref fK)) :
    FnG P w K mg base CX0 5 f fd ["script"] (spLaw K) := by
  refine okG F scLaw (fun vs H Q E h => ?_) (fun cdv A outer s H vs Q E hr hgu h => ?_)
  · obtain ⟨a, ns, rfl, _⟩ := h
    rfl
  · obtain ⟨a, ns, rfl, hS, hn, k⟩ := h
    have hr1 := hr.mono (show 1 ≤ 4 by decide)
    have hr3 := hr.mono (show 3 ≤ 4 by decide)
    have hu := hu_of hr
    refine ⟨_, C8.pss_cut (ps_set (i := 1) scLaw.nd rfl (Or.inl rfl) (pe_call GB hr1 rfl mB kB bB .nil pass0 (pa_cons (pv 0) pa_nil)))
      (C8.pss_cut (ps_asg (pe_tup (pa_cons (pe_call GP hr3 rfl mP kP bP .nil pass0 (pa_cons (pv 1) (pa_cons (pe_lst (pa_cons pe_str (pa_cons pe_str (pa_cons pe_str pa_nil)))) pa_nil))) (pa_cons (pe_call GA hr rfl mA kA bA .nil pass0 (pa_cons (pv 1) pa_nil)) pa_nil)))
        (pg_tup (by rfl) (pgs_cons (pg_name (i := 2) scLaw.nd rfl (Or.inl rfl)) (pgs_cons (pg_name (i := 3) scLaw.nd rfl (Or.inr rfl)) pgs_nil))))
      (C8.pss_cut (ps_set (i := 4) scLaw.nd rfl (Or.inl rfl) (pe_call GE hr3 rfl mE kE bE .nil pass0 (pa_cons (pv 3) pa_nil)))
      (C8.pss_cut (ps_set (i := 5) scLaw.nd rfl (Or.inl rfl) (pe_op op_cat (pe_call GN hr1 rfl mN kN bN .nil pass0 (pa_cons (pv 2) pa_nil))
        (pe_lc (own := [("item", 9)]) (g := gName 9) (tt := tYes) rfl scLaw.nd (pi_list (pv 4)) (blkOk_by (N := nLaw) (sc := defScope sLaw) (by decide +kernel)) (fun _ _ _ _ _ => pg_name (i := 9) scLaw.nd rfl (Or.inl rfl)) (fun _ _ _ _ _ => pts_nil)
          (fun _ _ _ _ _ => pe_ix (r := rIxT K) ix_tup (pv 9) pe_int (fun _ _ => rfl)))))
      (C8.pss_cut (ps_for PassesOwn.never rfl (pi_enum (by rfl) G.enum (pa_cons (pv 5) pa_nil)) (pg_tup rfl (pgs_cons (pg_name (i := 6) scLaw.nd rfl (Or.inr rfl)) (pgs_cons (pg_name (i := 7) scLaw.nd rfl (Or.inl rfl)) pgs_nil)))
        (C8.pss_cut (ps_if (pt_cmpR (op_neD hr.units) (pe_call GK hr1 rfl mK kK bK .nil pass0 (pa_cons (pv 7) pa_nil))
            (pe_lc (own := [("k", 10)]) (g := gName 10) (tt := tYes) rfl scLaw.nd (pi_range1 (by rfl) G.range (pa_cons pe_int pa_nil)) (blkOk_by (N := nLaw) (sc := defScope sLaw) (by decide +kernel)) (fun _ _ _ _ _ => pg_name (i := 10) scLaw.nd rfl (Or.inl rfl)) (fun _ _ _ _ _ => pts_nil)
              (fun _ _ _ _ _ => pe_cmpR op_eq (pv 10) (pv 6) (nomark _))) (nomark _)) (pss_one (ps_ret pe_bl)) pss_nil)
        (pss_one (ps_if (PW.pt (pw_or (pt_not (pt_val (pe_callB (call_isW T) (by rfl) G.isi (by decide +kernel) (pa_cons (pv 7) (pa_cons (pe_glob (v := .ref (c' 41)) rfl (S.nm 41 (by decide)) rfl) pa_nil)))))
            (pw_or1 (pt_not (pt_val (pe_callB (call_isV T) (by rfl) G.isi (by decide +kernel) (pa_cons (pv 7) (pa_cons (pe_bltn (v := .ty "ValueError") (by rfl) G.ve boot_ValueError rfl) pa_nil)))))))) (pss_one (ps_ret pe_bl)) pss_nil))))
      (C8.pss_cut (ps_if (pt_cmpR (op_neD hr.units) (pe_lc (own := [("item", 9)]) (g := gName 9) rfl scLaw.nd (pi_list (pv 4)) (blkOk_by (N := nLaw) (sc := defScope sLaw) (by decide +kernel)) (fun _ _ _ _ _ => pg_name (i := 9) scLaw.nd rfl (Or.inl rfl))
          (fun _ _ _ _ _ => pts_one (pt_cmpR op_ne (pe_callB (call_pair hgu hr.units) (by rfl) G.repr (by decide +kernel) (pa_cons (pe_lstB (pa_cons (pe_ix (r := rIxT K) ix_tup (pv 9) pe_int (fun _ _ => rfl)) (pa_cons (pe_ix (r := rIxT K) ix_tup (pv 9) pe_int (fun _ _ => rfl)) pa_nil))) pa_nil))
            (pe_callB (call_pair hgu hr.units) (by rfl) G.repr (by decide +kernel) (pa_cons (pe_lstB (pa_cons (pv 3) (pa_cons (pv 3) pa_nil))) pa_nil)) (nomark _)))
          (fun _ _ _ _ _ => pe_int)) (pe_lst pa_nil) (nomark _)) (pss_one (ps_ret pe_bl)) pss_nil)
      (C8.pss_cut (ps_set (i := 8) scLaw.nd rfl (Or.inl rfl) (pe_exc1 PySem.F.excBase_ValueError (S.ex 41 (by decide)) (S.nm 41 (by decide)) (S.kp 41 (by decide)) rfl pe_str))
      (pss_one (ps_ret (pe_and (pe_cmpR op_notIn_seq pe_bl (pe_call GK hr1 rfl mK kK bK .nil pass0 (pa_cons (pv 8) pa_nil)) (by rfl)) (pe_one (pe_callB (call_isV T) (by rfl) G.isi (by decide +kernel) (pa_cons (pv 8) (pa_cons (pe_bltn (v := .ty "ValueError") (by rfl) G.ve boot_ValueError rfl) pa_nil))))))))))))), ?_⟩
    let st : Addr → V → V → Option V → Option V → Option V → Option V → L2.St := fun d w x t e sp er => [some (.ref a), some (.ref d), some w, some x, t, e, sp, er, none, none, none]
    -- draw = _law_begun(script)
    refine ⟨fun σ' H' => ∃ d l c, σ' = [some (.ref a), some (.ref d), none, none, none, none, none, none, none, none, none] ∧ DrawAt H' d l c, ⟨_, rfl, a, ns, rfl, hS, hn, fun d l c H1 _ _ _ D _ => ⟨d, l, c, rfl, D⟩⟩, ?_⟩
    rintro _ H1 ⟨d, l, c, rfl, D⟩
    -- words_here, each = ..
    refine ⟨fun σ' H' => ∃ w x dt, σ' = st d w x none none none none ∧ EachAt H' x dt, ⟨_, rfl, by show 3 ≤ sizeLine; decide, fun p hp => ⟨d, l, c, p, _, rfl, D.same (same_new hp), upd_same, ?_, by show 0 < 3; decide, by show 3 ≤ 2 ^ 100; decide, fun i w H2 hx D2 k2 =>
      ⟨_, rfl, d, l, c, rfl, D2, fun x dt H3 e D3 k3 => ⟨by show 2 ≤ sizeLine; decide, fun t ht => ⟨t, _, rfl, SqT.of upd_same, rfl, ?_⟩⟩⟩⟩⟩, ?_⟩
    · obtain ⟨_, ⟨la, hl, _⟩, _, _⟩ := D
      exact (ne_of_none hl hp).symm
    · exact ⟨_, _, rfl, _, _, rfl, rfl, w, x, dt, rfl, e.same (same_new ht)⟩
    rintro _ H2 ⟨w, x, dt, rfl, e⟩
    -- threes_here = _law_errors_of(each)
    refine ⟨fun σ' H' => ∃ p ts, σ' = st d w x (some (.ref p)) none none none ∧ EachAt H' x dt ∧ Threes H' c' x 29 ts ∧ ts.length = 12 ∧ H' p = some (.lst (ts.map V.ref)), ⟨_, rfl, x, rfl, fun p ts H3 _ s3 th tl hp => ⟨p, ts, rfl, e.same s3, th, tl, hp⟩⟩, ?_⟩
    rintro _ H3 ⟨p, ts, rfl, e3, th, tl, hp⟩
    -- errors_here = ..
    refine ⟨fun σ' H' => ∃ q es, σ' = st d w x (some (.ref p)) (some (.ref q)) none none ∧ EachAt H' x dt ∧ Threes H' c' x 29 ts ∧ H' p = some (.lst (ts.map V.ref)) ∧ ErrsB H' c' 0 es ∧ es.length = 41 ∧ H' q = some (.lst (es.map V.ref)),
      ⟨_, rfl, w, rfl, fun p2 as H4 np s4 ba ln g2 => ⟨_, rfl, p, rfl, ⟨_, SqL.of (s4 _ _ hp)⟩, fun D hD => lc_list (K := K) (a := p) (xs := ts.map V.ref)
        (fun i H5 => ∃ as2, H5 D = some (.lst (as2.map V.ref)) ∧ as2.length = i ∧ ErrsB H5 c' 29 as2 ∧ Same H4 H5) ⟨[], upd_same, rfl, trivial, same_new hD⟩ (fun i H5 _ ⟨_, _, _, _, s5⟩ => SqL.of (s5 _ _ (s4 _ _ hp))) ?_ ?_⟩⟩, ?_⟩
    · rintro i y H5 hy ⟨as2, gD, l2, eb, s5⟩
      obtain ⟨t, rfl, ht⟩ := get_map_ref hy
      obtain ⟨a2, f2, h6, e6⟩ := threes_get (th.same (s4.trans s5)) ht
      refine ⟨rfl, ?_⟩
      simp only [tYes, if_true]
      refine ⟨_, rfl, t, _, _, _, rfl, rfl, SqT.of h6, atI_nat (j := 0) rfl, _, gD, by rw [List.length_map, l2]; exact small1000 (by have := (List.getElem?_eq_some_iff.mp ht).1; omega), as2 ++ [a2], ?_, ?_, ?_, ?_⟩
      · rw [List.map_append]
        exact upd_same
      · rw [List.length_append, l2]
        rfl
      · refine errsB_app (j := 29 + i) (by rw [l2]) (eb.put gD) ⟨⟨_, err_put gD e6⟩, trivial⟩
      · intro b o z
        rw [upd_ne (ne_of_none z hD)]
        exact s5 _ _ z
    · rintro H5 ⟨as2, gD, l2, eb, s5⟩
      rw [List.length_map, tl] at l2
      have s45 := s4.trans s5
      refine ⟨_, _, _, _, rfl, rfl, s5 _ _ g2, gD, by rw [List.length_map, List.length_map, ln, l2]; decide, fun q hq => ⟨q, as ++ as2, rfl, e3.same (s45.trans (same_new hq)), th.same (s45.trans (same_new hq)), keep1 (s45 _ _ hp) hq, ?_, by rw [List.length_append, ln, l2], by rw [List.map_append]; exact upd_same⟩⟩
      exact errsB_app (j := 29) (by rw [ln]) ((errsB_of ba).same (s5.trans (same_new hq))) (eb.same (same_new hq))
    rintro _ H4 ⟨q, es, rfl, e4, th4, hp4, eb, el, hq⟩
    -- for spot, error in enumerate(errors_here)
    refine ⟨fun σ' H' => ∃ sp er, σ' = st d w x (some (.ref p)) (some (.ref q)) sp er ∧ Same H4 H', ⟨_, rfl, q, _, rfl, SqL.of hq, for_it (walk_enum (K := K) (a := q) (xs := es.map V.ref))
      (fun i σ' H' => ∃ sp er, σ' = st d w x (some (.ref p)) (some (.ref q)) sp er ∧ Same H4 H') ⟨_, _, rfl, Same.refl _⟩ (fun i σ' H' _ ⟨_, _, _, s5⟩ => SqL.of (s5 _ _ hq)) ?_ ?_⟩, ?_⟩
    · rintro i y _ H5 H6 hi ⟨sp, er, rfl, s5⟩ ⟨T6, x6, y6, rfl, n6, rfl, ex6, ey6⟩
      cases ex6
      obtain ⟨ae, rfl, hae⟩ := get_map_ref ey6
      rw [List.length_map, el] at hi
      have s6 : ∀ z, Same H4 (upd H5 T6 z) := fun z => s5.trans (same_new n6)
      obtain ⟨oe, ee⟩ := errsB_get eb hae
      rw [Nat.zero_add] at ee
      refine ⟨T6, _, rfl, SqT.of upd_same, rfl, _, _, rfl, _, _, rfl, rfl, ?_⟩
      refine ⟨fun σ' H' => σ' = st d w x (some (.ref p)) (some (.ref q)) (some (.int i)) (some (.ref ae)) ∧ Same H4 H', ⟨_, rfl, ae, c' i, oe, _, rfl, ee.same (s6 _), kind_of T (by omega), fun pk H7 nk s7 gk => ⟨41, rfl, by decide, by decide, fun D hD => lc_range (lo := 0) (n := 41)
        (fun j H8 => H8 D = some (.lst ((bits i j).map V.bl)) ∧ Same H7 H8) ⟨upd_same, same_new hD⟩ ?_ ?_⟩⟩, ?_⟩
      · rintro j H8 hj ⟨gD, s8⟩
        refine ⟨rfl, ?_⟩
        simp only [tYes, if_true]
        refine ⟨_, rfl, _, rfl, rfl, _, gD, by rw [List.length_map, bits_len]; exact small1000 (by omega), ?_, fun b o z => by rw [upd_ne (ne_of_none z hD)]; exact s8 _ _ z⟩
        rw [bits_succ, List.map_append, upd_same]
        have e2 : decide (V.int (0 + (j : Int)) = V.int (i : Int)) = decide (j = i) := by
          by_cases hji : j = i
          · subst hji
            rw [decide_eq_true rfl]
            exact decide_eq_true (by rw [Int.zero_add])
          · rw [decide_eq_false hji]
            refine decide_eq_false fun z => hji ?_
            have z' := V.int.inj z
            omega
        rw [e2]
        rfl
      · rintro H8 ⟨gD, s8⟩
        have e1 : ((List.range 41).map fun j => V.bl (decide (j = i))) = (bits i 41).map V.bl := by
          unfold bits
          rw [List.map_map]
          rfl
        rw [e1] at gk
        refine ⟨_, _, .lst (SqL.of (s8 _ _ gk)) (dpAll_bl _), .lst (SqL.of gD) (dpAll_bl _), shaped_bools _, shaped_bools _, _, rfl, ?_⟩
        rw [eqv_bools]
        exact iteF ⟨rfl, (s6 _).trans (s7.trans s8)⟩
      · rintro _ H7 ⟨rfl, s7⟩
        have e7 := ee.same s7
        refine ⟨_, rfl, ae, i, oe, rfl, by omega, e7, true, rfl, ?_⟩
        refine iteF ?_
        refine ⟨_, rfl, ae, i, oe, rfl, by omega, e7, true, rfl, ?_⟩
        exact iteF ⟨_, _, rfl, s7⟩
    · rintro _ H5 ⟨sp, er, rfl, s5⟩
      exact ⟨sp, er, rfl, s5⟩
    rintro _ H5 ⟨sp, er, rfl, s5⟩
    have e5 := e4.same s5
    have th5 := th4.same s5
    have hp5 := s5 _ _ hp4
    -- the attributes
    refine ⟨fun σ' H' => ∃ sp er, σ' = st d w x (some (.ref p)) (some (.ref q)) sp er, ⟨_, rfl, p, rfl, ⟨_, SqL.of hp5⟩, fun D hD => lc_list (K := K) (a := p) (xs := ts.map V.ref)
      (fun i H6 => H6 D = some (.lst []) ∧ Same H5 H6) ⟨upd_same, same_new hD⟩ (fun i H6 _ ⟨_, s6⟩ => SqL.of (s6 _ _ hp5)) ?_ ?_⟩, ?_⟩
    · rintro i y H6 hy ⟨gD, s6⟩
      obtain ⟨t, rfl, ht⟩ := get_map_ref hy
      obtain ⟨a2, f2, h7, e7⟩ := threes_get (th5.same s6) ht
      refine ⟨rfl, ?_⟩
      refine ⟨_, rfl, t, _, 1, _, rfl, rfl, SqT.of h7, atI_nat (j := 1) rfl, _, rfl, t, _, 2, _, rfl, rfl, SqT.of h7, atI_nat (j := 2) rfl, by show 2 ≤ sizeLine; decide, fun l1 n1 m1 => ⟨l1, x, dt, rfl, upd_same, m1, e5.same (s6.trans (same_new n1)), ?_⟩⟩
      refine ⟨_, rfl, _, rfl, by show 2 ≤ sizeLine; decide, fun l2 n2 m2 => ⟨l2, x, dt, rfl, upd_same, m2, e5.same ((s6.trans (same_new n1)).trans (same_new n2)), rfl, _, rfl, ?_⟩⟩
      exact iteNS rfl ⟨keep1 (keep1 gD n1) n2, (s6.trans (same_new n1)).trans (same_new n2)⟩
    · rintro H6 ⟨gD, s6⟩
      refine ⟨by decide, fun z hz => ⟨.list [], .list [], .lst (SqL.of (keep1 gD hz)) .nil, .lst (SqL.of upd_same) .nil, by decide, by decide, _, rfl, ?_⟩⟩
      exact iteF ⟨sp, er, rfl⟩
    rintro _ H6 ⟨sp, er, rfl⟩
    -- base_here = WaitError('w')
    refine ⟨fun σ' H' => ∃ b, σ' = [some (.ref a), some (.ref d), some w, some x, some (.ref p), some (.ref q), sp, er, some (.ref b), none, none] ∧ ErrAt H' b (c' 41) none, fun b hb => ⟨b, rfl, .bare upd_same⟩, ?_⟩
    rintro _ H7 ⟨b, rfl, eb7⟩
    refine ⟨_, rfl, b, c' 41, none, _, rfl, eb7, kind_of T (by decide), fun pk H8 nk s8 gk => ⟨pk, _, rfl, .inl (SqL.of gk), rfl, by decide, true, rfl, ?_⟩⟩
    exact iteT ⟨_, rfl, b, 41, none, rfl, by decide, eb7.same s8, k H8⟩
end
end WW
end

section
set_option Elab.async false
set_option linter.all false
set_option maxRecDepth 100000
set_option maxHeartbeats 8000000
namespace WW
open PySem L2 WR WG
/-! ### what the top has written -/
def askB (K : PySem.W.Frag) (C : Addr) : Bool := (PySem.W.clsIn K C).isSome && (decide (PySem.W.findIn K (.ref C) "__getattribute__" = some (some (.builtin "BaseException.__getattribute__"))) &&
  (decide (PySem.W.findIn K (.ref C) "__getattr__" = some none) && (decide (PySem.W.subIn K (.ref C) (.type "BaseException") = some true) &&
  (decide (PySem.W.findIn K (.ref C) "__class__" = some (some (.builtin "object.__class__"))) && (decide (PySem.W.specialIn K (.builtin "object.__class__") "__get__" = some (some (.builtin "getset_descriptor.__get__"))) &&
  (decide (PySem.W.takesIn K (.builtin "object.__class__") = some true) && decide (PySem.W.mroIn K C (.type "object") = some true)))))))
theorem askB_ok {K : PySem.W.Frag} {C : Addr} (h : askB K C = true) : AskC K C := by
  unfold askB at h
  simp only [Bool.and_eq_true, decide_eq_true_eq] at h
  obtain ⟨h1, h2, h3, h4, h5, h6, h7, h8⟩ := h
  exact ⟨h1, h2, h3, h4, h5, h6, h7, h8⟩
def cAt (cs : List Addr) (i : Nat) : Addr := cs.getD i 0
def allB (n : Nat) (f : Nat → Bool) : Bool := (List.range n).all f
theorem allB_ok {n : Nat} {f : Nat → Bool} (h : allB n f = true) {i : Nat} (hi : i < n) : f i = true := List.all_eq_true.mp h i (List.mem_range.mpr hi)
def kpB (K : PySem.W.Frag) (cs : List Addr) : Bool := allB 42 fun i => PySem.W.keepIn K (.ref (cAt cs i))
def exB (K : PySem.W.Frag) (cs : List Addr) : Bool := allB 42 fun i => decide (29 ≤ i) && decide (i ≠ 41) || PySem.W.excIn K (cAt cs i) [.type "ValueError", .type "Exception", .type "BaseException", .type "object"] "ValueError.__new__"
def aksB (K : PySem.W.Frag) (cs : List Addr) : Bool := allB 42 fun i => askB K (cAt cs i)
def kitB2 (K : PySem.W.Frag) (cs : List Addr) : Bool := allB 42 fun i => allB 41 fun j => decide (PySem.W.kitOne K (.ref (cAt cs i)) (.ref (cAt cs j)) = some (decide (j = i)))
def kwB (K : PySem.W.Frag) (cs : List Addr) : Bool := allB 42 fun i => decide (PySem.W.kitOne K (.ref (cAt cs i)) (.ref (cAt cs 41)) = some true) && decide (PySem.W.kitOne K (.ref (cAt cs i)) (.type "ValueError") = some true)
theorem cls2_of {K : PySem.W.Frag} {cs : List Addr} (h1 : aksB K cs = true) (h2 : kitB2 K cs = true) (h3 : kwB K cs = true) : Cls2 K (cAt cs) where
  ask := fun i hi => askB_ok (allB_ok h1 hi)
  kit := fun i hi j hj => of_decide_eq_true (allB_ok (allB_ok h2 hi) hj)
  kw := fun i hi => of_decide_eq_true (Bool.and_eq_true_iff.mp (allB_ok h3 hi)).1
  kv := fun i hi => of_decide_eq_true (Bool.and_eq_true_iff.mp (allB_ok h3 hi)).2
theorem ex_of {K : PySem.W.Frag} {cs : List Addr} (h : exB K cs = true) : ∀ i, i < 29 ∨ i = 41 → PySem.W.excIn K (cAt cs i) [.type "ValueError", .type "Exception", .type "BaseException", .type "object"] "ValueError.__new__" = true := by
  intro i hi
  have z := allB_ok h (i := i) (by omega)
  rcases Bool.or_eq_true_iff.mp z with q | q
  · obtain ⟨q1, q2⟩ := Bool.and_eq_true_iff.mp q
    have q1' := of_decide_eq_true q1
    have q2' := of_decide_eq_true q2
    omega
  · exact q
/-- what is asked of a class with an attribute, and of its __init__ -/
structure AttrT (K : PySem.W.Frag) (C fI : Addr) (f : Str) : Prop where
  cls : ∃ nm q N bs bm sn sub ab col dd k0 k1 k2 k3 k5, K.lookup C = some (excClassObj nm q C N bs bm true sn sub ab col dd k0 k1 k2 k3 k5 "ValueError.__new__") ∧ PySem.HandSPX.refsVE bm = true
  sa : PySem.W.findIn K (.ref C) "__setattr__" = some (some (.builtin "object.__setattr__"))
  exC : PySem.W.subIn K (.ref C) (.type "BaseException") = some true
  tyC : PySem.W.typeIn K (.ref C) = some (.type "type")
  kC : PySem.W.keepIn K (.ref C) = true
  iC : PySem.W.findIn K (.ref C) "__init__" = some (some (.ref fI))
  tI : PySem.W.typeIn K (.ref fI) = some (.type "function")
  hf : PySem.W.findIn K (.ref C) f = some none
  hd : PySem.W.hasDictIn K C = true
theorem all_mk {l : PySem.W.OpenLaw} {w : World} {K : PySem.W.Frag} {h : Heap} {mg : Str → Option Value} {fa : Addr} (X : K.In h) (G : h.Ns mainGlobals mg) (hfa : mg "law" = some (.ref fa))
    {c0 c1 c2 c3 c4 c5 c6 c7 c8 c9 c10 c11 c12 c13 c14 c15 c16 c17 c18 c19 c20 c21 c22 c23 c24 c25 c26 c27 c28 c29 c30 c31 c32 c33 c34 c35 c36 c37 c38 c39 c40 c41 : Addr}
    (n0 : PySem.W.nsIn K mainGlobals "BadRows" = some (some (.ref c0)))
    (n1 : PySem.W.nsIn K mainGlobals "BadPromises" = some (some (.ref c1)))
    (n2 : PySem.W.nsIn K mainGlobals "NotTold" = some (some (.ref c2)))
    (n3 : PySem.W.nsIn K mainGlobals "BadParcels" = some (some (.ref c3)))
    (n4 : PySem.W.nsIn K mainGlobals "NoEnd" = some (some (.ref c4)))
    (n5 : PySem.W.nsIn K mainGlobals "BadStations" = some (some (.ref c5)))
    (n6 : PySem.W.nsIn K mainGlobals "BadRow" = some (some (.ref c6)))
    (n7 : PySem.W.nsIn K mainGlobals "BadRun" = some (some (.ref c7)))
    (n8 : PySem.W.nsIn K mainGlobals "BadBundle" = some (some (.ref c8)))
    (n9 : PySem.W.nsIn K mainGlobals "BadServices" = some (some (.ref c9)))
    (n10 : PySem.W.nsIn K mainGlobals "BadMeter" = some (some (.ref c10)))
    (n11 : PySem.W.nsIn K mainGlobals "BadTimetable" = some (some (.ref c11)))
    (n12 : PySem.W.nsIn K mainGlobals "BadGates" = some (some (.ref c12)))
    (n13 : PySem.W.nsIn K mainGlobals "BadBookings" = some (some (.ref c13)))
    (n14 : PySem.W.nsIn K mainGlobals "BadBooking" = some (some (.ref c14)))
    (n15 : PySem.W.nsIn K mainGlobals "BadWays" = some (some (.ref c15)))
    (n16 : PySem.W.nsIn K mainGlobals "BadDeadlines" = some (some (.ref c16)))
    (n17 : PySem.W.nsIn K mainGlobals "BadPromise" = some (some (.ref c17)))
    (n18 : PySem.W.nsIn K mainGlobals "BadPages" = some (some (.ref c18)))
    (n19 : PySem.W.nsIn K mainGlobals "BadKeeper" = some (some (.ref c19)))
    (n20 : PySem.W.nsIn K mainGlobals "NotNow" = some (some (.ref c20)))
    (n21 : PySem.W.nsIn K mainGlobals "BadStop" = some (some (.ref c21)))
    (n22 : PySem.W.nsIn K mainGlobals "BadFlow" = some (some (.ref c22)))
    (n23 : PySem.W.nsIn K mainGlobals "BadServer" = some (some (.ref c23)))
    (n24 : PySem.W.nsIn K mainGlobals "BadChange" = some (some (.ref c24)))
    (n25 : PySem.W.nsIn K mainGlobals "BadLimits" = some (some (.ref c25)))
    (n26 : PySem.W.nsIn K mainGlobals "BadSession" = some (some (.ref c26)))
    (n27 : PySem.W.nsIn K mainGlobals "BadDeed" = some (some (.ref c27)))
    (n28 : PySem.W.nsIn K mainGlobals "BadNames" = some (some (.ref c28)))
    (n29 : PySem.W.nsIn K mainGlobals "BadNumber" = some (some (.ref c29)))
    (n30 : PySem.W.nsIn K mainGlobals "BadCurve" = some (some (.ref c30)))
    (n31 : PySem.W.nsIn K mainGlobals "TooMany" = some (some (.ref c31)))
    (n32 : PySem.W.nsIn K mainGlobals "BadStation" = some (some (.ref c32)))
    (n33 : PySem.W.nsIn K mainGlobals "BadTraffic" = some (some (.ref c33)))
    (n34 : PySem.W.nsIn K mainGlobals "BadSystem" = some (some (.ref c34)))
    (n35 : PySem.W.nsIn K mainGlobals "NotKept" = some (some (.ref c35)))
    (n36 : PySem.W.nsIn K mainGlobals "BadNet" = some (some (.ref c36)))
    (n37 : PySem.W.nsIn K mainGlobals "BadPlay" = some (some (.ref c37)))
    (n38 : PySem.W.nsIn K mainGlobals "NotLet" = some (some (.ref c38)))
    (n39 : PySem.W.nsIn K mainGlobals "BadLine" = some (some (.ref c39)))
    (n40 : PySem.W.nsIn K mainGlobals "BadText" = some (some (.ref c40)))
    (n41 : PySem.W.nsIn K mainGlobals "WaitError" = some (some (.ref c41)))
    (B1 : kpB K [c0, c1, c2, c3, c4, c5, c6, c7, c8, c9, c10, c11, c12, c13, c14, c15, c16, c17, c18, c19, c20, c21, c22, c23, c24, c25, c26, c27, c28, c29, c30, c31, c32, c33, c34, c35, c36, c37, c38, c39, c40, c41] = true) (B2 : exB K [c0, c1, c2, c3, c4, c5, c6, c7, c8, c9, c10, c11, c12, c13, c14, c15, c16, c17, c18, c19, c20, c21, c22, c23, c24, c25, c26, c27, c28, c29, c30, c31, c32, c33, c34, c35, c36, c37, c38, c39, c40, c41] = true) (B3 : aksB K [c0, c1, c2, c3, c4, c5, c6, c7, c8, c9, c10, c11, c12, c13, c14, c15, c16, c17, c18, c19, c20, c21, c22, c23, c24, c25, c26, c27, c28, c29, c30, c31, c32, c33, c34, c35, c36, c37, c38, c39, c40, c41] = true) (B4 : kitB2 K [c0, c1, c2, c3, c4, c5, c6, c7, c8, c9, c10, c11, c12, c13, c14, c15, c16, c17, c18, c19, c20, c21, c22, c23, c24, c25, c26, c27, c28, c29, c30, c31, c32, c33, c34, c35, c36, c37, c38, c39, c40, c41] = true) (B5 : kwB K [c0, c1, c2, c3, c4, c5, c6, c7, c8, c9, c10, c11, c12, c13, c14, c15, c16, c17, c18, c19, c20, c21, c22, c23, c24, c25, c26, c27, c28, c29, c30, c31, c32, c33, c34, c35, c36, c37, c38, c39, c40, c41] = true)
    {f0 : Addr} (t0 : AttrT K c29 f0 "part")
    {f1 : Addr} (t1 : AttrT K c30 f1 "part")
    {f2 : Addr} (t2 : AttrT K c31 f2 "most")
    {f3 : Addr} (t3 : AttrT K c32 f3 "part")
    {f4 : Addr} (t4 : AttrT K c33 f4 "part")
    {f5 : Addr} (t5 : AttrT K c34 f5 "part")
    {f6 : Addr} (t6 : AttrT K c35 f6 "breach")
    {f7 : Addr} (t7 : AttrT K c36 f7 "part")
    {f8 : Addr} (t8 : AttrT K c37 f8 "part")
    {f9 : Addr} (t9 : AttrT K c38 f9 "why")
    {f10 : Addr} (t10 : AttrT K c39 f10 "number")
    {f11 : Addr} (t11 : AttrT K c40 f11 "at")
    {od0 an0 : Option Addr} {sl0 : Array (Option Value)} {oc0 kV0 dc0 pm0 cd0 ct0 : Value} (l0 : K.lookup f0 = some ⟨oc0, od0, .func (PySem.W.fnOf "__init__" "BadNumber.__init__" (defArgs sI_BadNumber) (defBody sI_BadNumber) (defScope sI_BadNumber) .none kV0 dc0 pm0 an0 cd0 ct0), sl0⟩) (x0 : PySem.W.codeIn K cd0 "BadNumber.__init__" = true) (k0 : PySem.W.keepIn K (.ref f0) = true)
    {od1 an1 : Option Addr} {sl1 : Array (Option Value)} {oc1 kV1 dc1 pm1 cd1 ct1 : Value} (l1 : K.lookup f1 = some ⟨oc1, od1, .func (PySem.W.fnOf "__init__" "BadCurve.__init__" (defArgs sI_BadCurve) (defBody sI_BadCurve) (defScope sI_BadCurve) .none kV1 dc1 pm1 an1 cd1 ct1), sl1⟩) (x1 : PySem.W.codeIn K cd1 "BadCurve.__init__" = true) (k1 : PySem.W.keepIn K (.ref f1) = true)
    {od2 an2 : Option Addr} {sl2 : Array (Option Value)} {oc2 kV2 dc2 pm2 cd2 ct2 : Value} (l2 : K.lookup f2 = some ⟨oc2, od2, .func (PySem.W.fnOf "__init__" "TooMany.__init__" (defArgs sI_TooMany) (defBody sI_TooMany) (defScope sI_TooMany) .none kV2 dc2 pm2 an2 cd2 ct2), sl2⟩) (x2 : PySem.W.codeIn K cd2 "TooMany.__init__" = true) (k2 : PySem.W.keepIn K (.ref f2) = true)
    {od3 an3 : Option Addr} {sl3 : Array (Option Value)} {oc3 kV3 dc3 pm3 cd3 ct3 : Value} (l3 : K.lookup f3 = some ⟨oc3, od3, .func (PySem.W.fnOf "__init__" "BadStation.__init__" (defArgs sI_BadStation) (defBody sI_BadStation) (defScope sI_BadStation) .none kV3 dc3 pm3 an3 cd3 ct3), sl3⟩) (x3 : PySem.W.codeIn K cd3 "BadStation.__init__" = true) (k3 : PySem.W.keepIn K (.ref f3) = true)
    {od4 an4 : Option Addr} {sl4 : Array (Option Value)} {oc4 kV4 dc4 pm4 cd4 ct4 : Value} (l4 : K.lookup f4 = some ⟨oc4, od4, .func (PySem.W.fnOf "__init__" "BadTraffic.__init__" (defArgs sI_BadTraffic) (defBody sI_BadTraffic) (defScope sI_BadTraffic) .none kV4 dc4 pm4 an4 cd4 ct4), sl4⟩) (x4 : PySem.W.codeIn K cd4 "BadTraffic.__init__" = true) (k4 : PySem.W.keepIn K (.ref f4) = true)
    {od5 an5 : Option Addr} {sl5 : Array (Option Value)} {oc5 kV5 dc5 pm5 cd5 ct5 : Value} (l5 : K.lookup f5 = some ⟨oc5, od5, .func (PySem.W.fnOf "__init__" "BadSystem.__init__" (defArgs sI_BadSystem) (defBody sI_BadSystem) (defScope sI_BadSystem) .none kV5 dc5 pm5 an5 cd5 ct5), sl5⟩) (x5 : PySem.W.codeIn K cd5 "BadSystem.__init__" = true) (k5 : PySem.W.keepIn K (.ref f5) = true)
    {od6 an6 : Option Addr} {sl6 : Array (Option Value)} {oc6 kV6 dc6 pm6 cd6 ct6 : Value} (l6 : K.lookup f6 = some ⟨oc6, od6, .func (PySem.W.fnOf "__init__" "NotKept.__init__" (defArgs sI_NotKept) (defBody sI_NotKept) (defScope sI_NotKept) .none kV6 dc6 pm6 an6 cd6 ct6), sl6⟩) (x6 : PySem.W.codeIn K cd6 "NotKept.__init__" = true) (k6 : PySem.W.keepIn K (.ref f6) = true)
    {od7 an7 : Option Addr} {sl7 : Array (Option Value)} {oc7 kV7 dc7 pm7 cd7 ct7 : Value} (l7 : K.lookup f7 = some ⟨oc7, od7, .func (PySem.W.fnOf "__init__" "BadNet.__init__" (defArgs sI_BadNet) (defBody sI_BadNet) (defScope sI_BadNet) .none kV7 dc7 pm7 an7 cd7 ct7), sl7⟩) (x7 : PySem.W.codeIn K cd7 "BadNet.__init__" = true) (k7 : PySem.W.keepIn K (.ref f7) = true)
    {od8 an8 : Option Addr} {sl8 : Array (Option Value)} {oc8 kV8 dc8 pm8 cd8 ct8 : Value} (l8 : K.lookup f8 = some ⟨oc8, od8, .func (PySem.W.fnOf "__init__" "BadPlay.__init__" (defArgs sI_BadPlay) (defBody sI_BadPlay) (defScope sI_BadPlay) .none kV8 dc8 pm8 an8 cd8 ct8), sl8⟩) (x8 : PySem.W.codeIn K cd8 "BadPlay.__init__" = true) (k8 : PySem.W.keepIn K (.ref f8) = true)
    {od9 an9 : Option Addr} {sl9 : Array (Option Value)} {oc9 kV9 dc9 pm9 cd9 ct9 : Value} (l9 : K.lookup f9 = some ⟨oc9, od9, .func (PySem.W.fnOf "__init__" "NotLet.__init__" (defArgs sI_NotLet) (defBody sI_NotLet) (defScope sI_NotLet) .none kV9 dc9 pm9 an9 cd9 ct9), sl9⟩) (x9 : PySem.W.codeIn K cd9 "NotLet.__init__" = true) (k9 : PySem.W.keepIn K (.ref f9) = true)
    {od10 an10 : Option Addr} {sl10 : Array (Option Value)} {oc10 kV10 dc10 pm10 cd10 ct10 : Value} (l10 : K.lookup f10 = some ⟨oc10, od10, .func (PySem.W.fnOf "__init__" "BadLine.__init__" (defArgs sI_BadLine) (defBody sI_BadLine) (defScope sI_BadLine) .none kV10 dc10 pm10 an10 cd10 ct10), sl10⟩) (x10 : PySem.W.codeIn K cd10 "BadLine.__init__" = true) (k10 : PySem.W.keepIn K (.ref f10) = true)
    {od11 an11 : Option Addr} {sl11 : Array (Option Value)} {oc11 kV11 dc11 pm11 cd11 ct11 : Value} (l11 : K.lookup f11 = some ⟨oc11, od11, .func (PySem.W.fnOf "__init__" "BadText.__init__" (defArgs sI_BadText) (defBody sI_BadText) (defScope sI_BadText) .none kV11 dc11 pm11 an11 cd11 ct11), sl11⟩) (x11 : PySem.W.codeIn K cd11 "BadText.__init__" = true) (k11 : PySem.W.keepIn K (.ref f11) = true)
    {g0 : Addr} (a0 : PySem.W.nsIn K mainGlobals "_law_begun" = some (some (.ref g0)))
    {od12 an12 : Option Addr} {sl12 : Array (Option Value)} {oc12 kV12 dc12 pm12 cd12 ct12 : Value} (l12 : K.lookup g0 = some ⟨oc12, od12, .func (PySem.W.fnOf "_law_begun" "_law_begun" (defArgs sBegun) (defBody sBegun) (defScope sBegun) .none kV12 dc12 pm12 an12 cd12 ct12), sl12⟩) (x12 : PySem.W.codeIn K cd12 "_law_begun" = true) (k12 : PySem.W.keepIn K (.ref g0) = true)
    {g1 : Addr} (a1 : PySem.W.nsIn K mainGlobals "_law_mixed" = some (some (.ref g1)))
    {od13 an13 : Option Addr} {sl13 : Array (Option Value)} {oc13 kV13 dc13 pm13 cd13 ct13 : Value} (l13 : K.lookup g1 = some ⟨oc13, od13, .func (PySem.W.fnOf "_law_mixed" "_law_mixed" (defArgs sMixed) (defBody sMixed) (defScope sMixed) .none kV13 dc13 pm13 an13 cd13 ct13), sl13⟩) (x13 : PySem.W.codeIn K cd13 "_law_mixed" = true) (k13 : PySem.W.keepIn K (.ref g1) = true)
    {g2 : Addr} (a2 : PySem.W.nsIn K mainGlobals "_law_take" = some (some (.ref g2)))
    {od14 an14 : Option Addr} {sl14 : Array (Option Value)} {oc14 kV14 dc14 pm14 cd14 ct14 : Value} (l14 : K.lookup g2 = some ⟨oc14, od14, .func (PySem.W.fnOf "_law_take" "_law_take" (defArgs sTake) (defBody sTake) (defScope sTake) .none kV14 dc14 pm14 an14 cd14 ct14), sl14⟩) (x14 : PySem.W.codeIn K cd14 "_law_take" = true) (k14 : PySem.W.keepIn K (.ref g2) = true)
    {g3 : Addr} (a3 : PySem.W.nsIn K mainGlobals "_law_pick" = some (some (.ref g3)))
    {od15 an15 : Option Addr} {sl15 : Array (Option Value)} {oc15 kV15 dc15 pm15 cd15 ct15 : Value} (l15 : K.lookup g3 = some ⟨oc15, od15, .func (PySem.W.fnOf "_law_pick" "_law_pick" (defArgs sPick) (defBody sPick) (defScope sPick) .none kV15 dc15 pm15 an15 cd15 ct15), sl15⟩) (x15 : PySem.W.codeIn K cd15 "_law_pick" = true) (k15 : PySem.W.keepIn K (.ref g3) = true)
    {g4 : Addr} (a4 : PySem.W.nsIn K mainGlobals "_law_any" = some (some (.ref g4)))
    {od16 an16 : Option Addr} {sl16 : Array (Option Value)} {oc16 kV16 dc16 pm16 cd16 ct16 : Value} (l16 : K.lookup g4 = some ⟨oc16, od16, .func (PySem.W.fnOf "_law_any" "_law_any" (defArgs sAny) (defBody sAny) (defScope sAny) .none kV16 dc16 pm16 an16 cd16 ct16), sl16⟩) (x16 : PySem.W.codeIn K cd16 "_law_any" = true) (k16 : PySem.W.keepIn K (.ref g4) = true)
    {g5 : Addr} (a5 : PySem.W.nsIn K mainGlobals "_law_kinds" = some (some (.ref g5)))
    {od17 an17 : Option Addr} {sl17 : Array (Option Value)} {oc17 kV17 dc17 pm17 cd17 ct17 : Value} (l17 : K.lookup g5 = some ⟨oc17, od17, .func (PySem.W.fnOf "_law_kinds" "_law_kinds" (defArgs sKinds) (defBody sKinds) (defScope sKinds) .none kV17 dc17 pm17 an17 cd17 ct17), sl17⟩) (x17 : PySem.W.codeIn K cd17 "_law_kinds" = true) (k17 : PySem.W.keepIn K (.ref g5) = true)
    {g6 : Addr} (a6 : PySem.W.nsIn K mainGlobals "_law_plain_errors" = some (some (.ref g6)))
    {od18 an18 : Option Addr} {sl18 : Array (Option Value)} {oc18 kV18 dc18 pm18 cd18 ct18 : Value} (l18 : K.lookup g6 = some ⟨oc18, od18, .func (PySem.W.fnOf "_law_plain_errors" "_law_plain_errors" (defArgs sPlain) (defBody sPlain) (defScope sPlain) .none kV18 dc18 pm18 an18 cd18 ct18), sl18⟩) (x18 : PySem.W.codeIn K cd18 "_law_plain_errors" = true) (k18 : PySem.W.keepIn K (.ref g6) = true)
    {g7 : Addr} (a7 : PySem.W.nsIn K mainGlobals "_law_errors_of" = some (some (.ref g7)))
    {od19 an19 : Option Addr} {sl19 : Array (Option Value)} {oc19 kV19 dc19 pm19 cd19 ct19 : Value} (l19 : K.lookup g7 = some ⟨oc19, od19, .func (PySem.W.fnOf "_law_errors_of" "_law_errors_of" (defArgs sErrs) (defBody sErrs) (defScope sErrs) .none kV19 dc19 pm19 an19 cd19 ct19), sl19⟩) (x19 : PySem.W.codeIn K cd19 "_law_errors_of" = true) (k19 : PySem.W.keepIn K (.ref g7) = true)
    {g8 : Addr} (a8 : PySem.W.nsIn K mainGlobals "law" = some (some (.ref g8)))
    {od20 an20 : Option Addr} {sl20 : Array (Option Value)} {oc20 kV20 dc20 pm20 cd20 ct20 : Value} (l20 : K.lookup g8 = some ⟨oc20, od20, .func (PySem.W.fnOf "law" "law" (defArgs sLaw) (defBody sLaw) (defScope sLaw) .none kV20 dc20 pm20 an20 cd20 ct20), sl20⟩) (x20 : PySem.W.codeIn K cd20 "law" = true) (k20 : PySem.W.keepIn K (.ref g8) = true)
    (z0 : PySem.W.nsIn K mainGlobals "abs" = some none)
    (z1 : PySem.W.nsIn K mainGlobals "int" = some none)
    (z2 : PySem.W.nsIn K mainGlobals "len" = some none)
    (z3 : PySem.W.nsIn K mainGlobals "isinstance" = some none)
    (z4 : PySem.W.nsIn K mainGlobals "enumerate" = some none)
    (z5 : PySem.W.nsIn K mainGlobals "range" = some none)
    (z6 : PySem.W.nsIn K mainGlobals "repr" = some none)
    (z7 : PySem.W.nsIn K mainGlobals "ValueError" = some none)
    : ∃ fd : FuncData, (∀ (s : Shared) (v : Value), BindsTo s fd ⟨[v], []⟩ [("script", v)]) ∧ ∀ base : Heap, K.In base → base.Ns mainGlobals mg → FnG l.prog w K mg base CX0 5 fa fd ["script"] (spLaw K) := by
  have e := hfa.symm.trans (PySem.W.mg_of X G a8)
  cases e
  have S : Cls K mg (cAt [c0, c1, c2, c3, c4, c5, c6, c7, c8, c9, c10, c11, c12, c13, c14, c15, c16, c17, c18, c19, c20, c21, c22, c23, c24, c25, c26, c27, c28, c29, c30, c31, c32, c33, c34, c35, c36, c37, c38, c39, c40, c41]) := by
    refine ⟨fun i hi => ?_, fun i hi => allB_ok B1 hi, ex_of B2⟩
    match i, hi with
    | 0, _ => exact PySem.W.mg_of X G n0
    | 1, _ => exact PySem.W.mg_of X G n1
    | 2, _ => exact PySem.W.mg_of X G n2
    | 3, _ => exact PySem.W.mg_of X G n3
    | 4, _ => exact PySem.W.mg_of X G n4
    | 5, _ => exact PySem.W.mg_of X G n5
    | 6, _ => exact PySem.W.mg_of X G n6
    | 7, _ => exact PySem.W.mg_of X G n7
    | 8, _ => exact PySem.W.mg_of X G n8
    | 9, _ => exact PySem.W.mg_of X G n9
    | 10, _ => exact PySem.W.mg_of X G n10
    | 11, _ => exact PySem.W.mg_of X G n11
    | 12, _ => exact PySem.W.mg_of X G n12
    | 13, _ => exact PySem.W.mg_of X G n13
    | 14, _ => exact PySem.W.mg_of X G n14
    | 15, _ => exact PySem.W.mg_of X G n15
    | 16, _ => exact PySem.W.mg_of X G n16
    | 17, _ => exact PySem.W.mg_of X G n17
    | 18, _ => exact PySem.W.mg_of X G n18
    | 19, _ => exact PySem.W.mg_of X G n19
    | 20, _ => exact PySem.W.mg_of X G n20
    | 21, _ => exact PySem.W.mg_of X G n21
    | 22, _ => exact PySem.W.mg_of X G n22
    | 23, _ => exact PySem.W.mg_of X G n23
    | 24, _ => exact PySem.W.mg_of X G n24
    | 25, _ => exact PySem.W.mg_of X G n25
    | 26, _ => exact PySem.W.mg_of X G n26
    | 27, _ => exact PySem.W.mg_of X G n27
    | 28, _ => exact PySem.W.mg_of X G n28
    | 29, _ => exact PySem.W.mg_of X G n29
    | 30, _ => exact PySem.W.mg_of X G n30
    | 31, _ => exact PySem.W.mg_of X G n31
    | 32, _ => exact PySem.W.mg_of X G n32
    | 33, _ => exact PySem.W.mg_of X G n33
    | 34, _ => exact PySem.W.mg_of X G n34
    | 35, _ => exact PySem.W.mg_of X G n35
    | 36, _ => exact PySem.W.mg_of X G n36
    | 37, _ => exact PySem.W.mg_of X G n37
    | 38, _ => exact PySem.W.mg_of X G n38
    | 39, _ => exact PySem.W.mg_of X G n39
    | 40, _ => exact PySem.W.mg_of X G n40
    | 41, _ => exact PySem.W.mg_of X G n41
    | n + 42, hi => omega
  have T := cls2_of B3 B4 B5
  have F0 := fun_mk (st := sI_BadNumber) l0 x0 k0
  have F1 := fun_mk (st := sI_BadCurve) l1 x1 k1
  have F2 := fun_mk (st := sI_TooMany) l2 x2 k2
  have F3 := fun_mk (st := sI_BadStation) l3 x3 k3
  have F4 := fun_mk (st := sI_BadTraffic) l4 x4 k4
  have F5 := fun_mk (st := sI_BadSystem) l5 x5 k5
  have F6 := fun_mk (st := sI_NotKept) l6 x6 k6
  have F7 := fun_mk (st := sI_BadNet) l7 x7 k7
  have F8 := fun_mk (st := sI_BadPlay) l8 x8 k8
  have F9 := fun_mk (st := sI_NotLet) l9 x9 k9
  have F10 := fun_mk (st := sI_BadLine) l10 x10 k10
  have F11 := fun_mk (st := sI_BadText) l11 x11 k11
  have F12 := fun_mk (st := sBegun) l12 x12 k12
  have F13 := fun_mk (st := sMixed) l13 x13 k13
  have F14 := fun_mk (st := sTake) l14 x14 k14
  have F15 := fun_mk (st := sPick) l15 x15 k15
  have F16 := fun_mk (st := sAny) l16 x16 k16
  have F17 := fun_mk (st := sKinds) l17 x17 k17
  have F18 := fun_mk (st := sPlain) l18 x18 k18
  have F19 := fun_mk (st := sErrs) l19 x19 k19
  have F20 := fun_mk (st := sLaw) l20 x20 k20
  have b0 := F0.binds (ps := [("self" : Str), "part"]) fun _ _ _ _ _ _ us hl => match us, hl with | [_, _], _ => rfl
  have b1 := F1.binds (ps := [("self" : Str), "part"]) fun _ _ _ _ _ _ us hl => match us, hl with | [_, _], _ => rfl
  have b2 := F2.binds (ps := [("self" : Str), "most"]) fun _ _ _ _ _ _ us hl => match us, hl with | [_, _], _ => rfl
  have b3 := F3.binds (ps := [("self" : Str), "part"]) fun _ _ _ _ _ _ us hl => match us, hl with | [_, _], _ => rfl
  have b4 := F4.binds (ps := [("self" : Str), "part"]) fun _ _ _ _ _ _ us hl => match us, hl with | [_, _], _ => rfl
  have b5 := F5.binds (ps := [("self" : Str), "part"]) fun _ _ _ _ _ _ us hl => match us, hl with | [_, _], _ => rfl
  have b6 := F6.binds (ps := [("self" : Str), "breach"]) fun _ _ _ _ _ _ us hl => match us, hl with | [_, _], _ => rfl
  have b7 := F7.binds (ps := [("self" : Str), "part"]) fun _ _ _ _ _ _ us hl => match us, hl with | [_, _], _ => rfl
  have b8 := F8.binds (ps := [("self" : Str), "part"]) fun _ _ _ _ _ _ us hl => match us, hl with | [_, _], _ => rfl
  have b9 := F9.binds (ps := [("self" : Str), "why"]) fun _ _ _ _ _ _ us hl => match us, hl with | [_, _], _ => rfl
  have b10 := F10.binds (ps := [("self" : Str), "number"]) fun _ _ _ _ _ _ us hl => match us, hl with | [_, _], _ => rfl
  have b11 := F11.binds (ps := [("self" : Str), "at"]) fun _ _ _ _ _ _ us hl => match us, hl with | [_, _], _ => rfl
  have b12 := F12.binds (ps := ["script"]) fun _ _ _ _ _ _ us hl => match us, hl with | [_], _ => rfl
  have b13 := F13.binds (ps := ["draw"]) fun _ _ _ _ _ _ us hl => match us, hl with | [_], _ => rfl
  have b14 := F14.binds (ps := ["draw", "amount"]) fun _ _ _ _ _ _ us hl => match us, hl with | [_, _], _ => rfl
  have b15 := F15.binds (ps := ["draw", "some"]) fun _ _ _ _ _ _ us hl => match us, hl with | [_, _], _ => rfl
  have b16 := F16.binds (ps := ["draw"]) fun _ _ _ _ _ _ us hl => match us, hl with | [_], _ => rfl
  have b17 := F17.binds (ps := ["error"]) fun _ _ _ _ _ _ us hl => match us, hl with | [_], _ => rfl
  have b18 := F18.binds (ps := ["words_here"]) fun _ _ _ _ _ _ us hl => match us, hl with | [_], _ => rfl
  have b19 := F19.binds (ps := ["each"]) fun _ _ _ _ _ _ us hl => match us, hl with | [_], _ => rfl
  have PG : PreG mg := ⟨PySem.W.mg_none_of X G z0, PySem.W.mg_none_of X G z1, PySem.W.mg_none_of X G z2⟩
  have LG : LawG mg := ⟨PySem.W.mg_none_of X G z4, PySem.W.mg_none_of X G z5, PySem.W.mg_none_of X G z3, PySem.W.mg_none_of X G z6, PySem.W.mg_none_of X G z7⟩
  refine ⟨PySem.W.fnOf "law" "law" (defArgs sLaw) (defBody sLaw) (defScope sLaw) .none kV20 dc20 pm20 an20 cd20 ct20, fun s v => .of_eq rfl, fun base _ _ => ?_⟩
  have at12 : ∀ i, i < 12 → ∃ fI fd, AttrC l.prog w K mg base (cAt [c0, c1, c2, c3, c4, c5, c6, c7, c8, c9, c10, c11, c12, c13, c14, c15, c16, c17, c18, c19, c20, c21, c22, c23, c24, c25, c26, c27, c28, c29, c30, c31, c32, c33, c34, c35, c36, c37, c38, c39, c40, c41] (29 + i)) fI fd (attrOf i) := by
    intro i hi
    match i, hi with
    | 0, _ => exact ⟨_, _, ⟨⟨t0.cls, t0.sa, t0.exC, t0.tyC, t0.kC⟩, t0.iC, t0.tI, t0.hf, t0.hd, T.ask 29 (by decide), oi_BadNumber F0, b0, fun s v u => .of_eq rfl, fun s v u => .of_eq rfl⟩⟩
    | 1, _ => exact ⟨_, _, ⟨⟨t1.cls, t1.sa, t1.exC, t1.tyC, t1.kC⟩, t1.iC, t1.tI, t1.hf, t1.hd, T.ask 30 (by decide), oi_BadCurve F1, b1, fun s v u => .of_eq rfl, fun s v u => .of_eq rfl⟩⟩
    | 2, _ => exact ⟨_, _, ⟨⟨t2.cls, t2.sa, t2.exC, t2.tyC, t2.kC⟩, t2.iC, t2.tI, t2.hf, t2.hd, T.ask 31 (by decide), oi_TooMany F2, b2, fun s v u => .of_eq rfl, fun s v u => .of_eq rfl⟩⟩
    | 3, _ => exact ⟨_, _, ⟨⟨t3.cls, t3.sa, t3.exC, t3.tyC, t3.kC⟩, t3.iC, t3.tI, t3.hf, t3.hd, T.ask 32 (by decide), oi_BadStation F3, b3, fun s v u => .of_eq rfl, fun s v u => .of_eq rfl⟩⟩
    | 4, _ => exact ⟨_, _, ⟨⟨t4.cls, t4.sa, t4.exC, t4.tyC, t4.kC⟩, t4.iC, t4.tI, t4.hf, t4.hd, T.ask 33 (by decide), oi_BadTraffic F4, b4, fun s v u => .of_eq rfl, fun s v u => .of_eq rfl⟩⟩
    | 5, _ => exact ⟨_, _, ⟨⟨t5.cls, t5.sa, t5.exC, t5.tyC, t5.kC⟩, t5.iC, t5.tI, t5.hf, t5.hd, T.ask 34 (by decide), oi_BadSystem F5, b5, fun s v u => .of_eq rfl, fun s v u => .of_eq rfl⟩⟩
    | 6, _ => exact ⟨_, _, ⟨⟨t6.cls, t6.sa, t6.exC, t6.tyC, t6.kC⟩, t6.iC, t6.tI, t6.hf, t6.hd, T.ask 35 (by decide), oi_NotKept F6, b6, fun s v u => .of_eq rfl, fun s v u => .of_eq rfl⟩⟩
    | 7, _ => exact ⟨_, _, ⟨⟨t7.cls, t7.sa, t7.exC, t7.tyC, t7.kC⟩, t7.iC, t7.tI, t7.hf, t7.hd, T.ask 36 (by decide), oi_BadNet F7, b7, fun s v u => .of_eq rfl, fun s v u => .of_eq rfl⟩⟩
    | 8, _ => exact ⟨_, _, ⟨⟨t8.cls, t8.sa, t8.exC, t8.tyC, t8.kC⟩, t8.iC, t8.tI, t8.hf, t8.hd, T.ask 37 (by decide), oi_BadPlay F8, b8, fun s v u => .of_eq rfl, fun s v u => .of_eq rfl⟩⟩
    | 9, _ => exact ⟨_, _, ⟨⟨t9.cls, t9.sa, t9.exC, t9.tyC, t9.kC⟩, t9.iC, t9.tI, t9.hf, t9.hd, T.ask 38 (by decide), oi_NotLet F9, b9, fun s v u => .of_eq rfl, fun s v u => .of_eq rfl⟩⟩
    | 10, _ => exact ⟨_, _, ⟨⟨t10.cls, t10.sa, t10.exC, t10.tyC, t10.kC⟩, t10.iC, t10.tI, t10.hf, t10.hd, T.ask 39 (by decide), oi_BadLine F10, b10, fun s v u => .of_eq rfl, fun s v u => .of_eq rfl⟩⟩
    | 11, _ => exact ⟨_, _, ⟨⟨t11.cls, t11.sa, t11.exC, t11.tyC, t11.kC⟩, t11.iC, t11.tI, t11.hf, t11.hd, T.ask 40 (by decide), oi_BadText F11, b11, fun s v u => .of_eq rfl, fun s v u => .of_eq rfl⟩⟩
    | n + 12, hi => omega
  have GB := ok_begun (P := l.prog) (w := w) (base := base) F12 PG
  have GM := ok_mixed (P := l.prog) (w := w) (base := base) F13 PG
  have GT := ok_take (P := l.prog) (w := w) (base := base) F14 PG GM k13 b13 (PySem.W.mg_of X G a1)
  have GP := ok_pick (P := l.prog) (w := w) (base := base) F15 PG GT k14 b14 (PySem.W.mg_of X G a2)
  have GA := ok_any (P := l.prog) (w := w) (base := base) F16 GP k15 b15 (PySem.W.mg_of X G a3)
  have GK := ok_kinds (P := l.prog) (w := w) (base := base) F17 S (PySem.W.mg_none_of X G z3)
  have GN := ok_plain (P := l.prog) (w := w) (base := base) F18 S
  have GE := ok_errs (P := l.prog) (w := w) (base := base) F19 S at12
  exact ok_law F20 S T LG GB k12 b12 (PySem.W.mg_of X G a0) GP k15 b15 (PySem.W.mg_of X G a3) GA k16 b16 (PySem.W.mg_of X G a4) GE k19 b19 (PySem.W.mg_of X G a7) GN k18 b18 (PySem.W.mg_of X G a6) GK k17 b17 (PySem.W.mg_of X G a5)
end WW
end

section
set_option Elab.async false
set_option linter.all false
set_option maxRecDepth 100000
set_option maxHeartbeats 8000000
/-! the head's facts, read over the few objects that the law comes to -/
namespace WK
open PySem L2
/-- the addresses of globals, classes, their namespaces, the functions, their code -/
def asK (g : Addr → Option Obj) (cs ms fs : List Str) : List Addr :=
  let G : List Addr := [mainGlobals]
  let K0 := He.frG g G
  let C := cs.map (He.ga K0)
  let K1 := He.frG g C
  let N := C.filterMap fun c => (PySem.W.clsIn K1 c).map fun cd => cd.ns
  let K2 := He.frG g (G ++ C ++ N)
  let F := ms.map (fun m => He.ma K2 (He.ga K0 m) "__init__") ++ fs.map (He.ga K0)
  let K3 := He.frG g F
  let D := F.filterMap fun f => match K3.lookup f with
    | some ⟨_, _, .func fd, _⟩ => (match fd.code with
      | .ref c => some c
      | _ => none)
    | _ => none
  G ++ C ++ N ++ F ++ D
abbrev frK (cs ms fs : List Str) (g : Addr → Option Obj) : PySem.W.Frag := He.frG g (asK g cs ms fs)
def obsK (cs ms fs : List Str) (fa : List He.Fa) (fn : List He.DefD) (B : PySem.W.Frag → Bool) (g : Addr → Option Obj) : He.AlD × Bool :=
  (He.obsD fa fn (frK cs ms fs g), B (frK cs ms fs g))
def hookK (cs ms fs : List Str) (fa : List He.Fa) (fn : List He.DefD) (B : PySem.W.Frag → Bool) : PySem.W.Hook where
  α := He.AlD × Bool
  obs s := obsK cs ms fs fa fn B s.heap.get?
  val _ := (He.valD fn, true)
  says _ h := ∃ K, PySem.W.Frag.In K h ∧ He.SaysD fa fn K ∧ B K = true
  of _ s e := ⟨_, He.frG_in, (Prod.mk.injEq .. ▸ e : _ ∧ _).1, (Prod.mk.injEq .. ▸ e : _ ∧ _).2⟩
  keeps _ _ _ := fun ⟨K, X, c⟩ k => ⟨K, fun a o e => k a o (X a o e), c⟩
theorem obsK_eq {cs ms fs : List Str} {fa : List He.Fa} {fn : List He.DefD} {B : PySem.W.Frag → Bool} {g : Addr → Option Obj} {s : Shared} (h : ∀ a, g a = s.heap.get? a) :
    obsK cs ms fs fa fn B g = (hookK cs ms fs fa fn B).obs s := by
  have e : g = s.heap.get? := funext h
  rw [e]
  rfl
theorem fun3 {K : PySem.W.Frag} {x q : Str} {p : Arguments} {b : List Stmt} {sc : Scope} {f : Addr} {fd : FuncData} (F : FunD K x q p b sc [] [] f fd) :
    ∃ (od an : Option Addr) (sl : Array (Option Value)) (oc kV dc pm cd ct : Value),
      K.lookup f = some ⟨oc, od, .func (PySem.W.fnOf x q p b sc .none kV dc pm an cd ct), sl⟩ ∧ PySem.W.codeIn K cd q = true ∧ PySem.W.keepIn K (.ref f) = true := by
  obtain ⟨⟨oc, od, dV, kV, doc, pm, an, cd, ct, sl, rfl, hl, hc, hd, -⟩, kp⟩ := F
  rcases hd with ⟨-, rfl⟩ | ⟨h, -⟩
  · exact ⟨od, an, sl, oc, kV, doc, pm, cd, ct, hl, hc, kp⟩
  · exact absurd rfl h
theorem glo_ns {K : PySem.W.Frag} {x : Str} (h : He.Fa.ok K (.glo x) = true) : PySem.W.nsIn K mainGlobals x = some (some (.ref (He.ga K x))) := He.eqO_ok h
theorem free_ns {K : PySem.W.Frag} {x : Str} (h : He.Fa.ok K (.free x) = true) : PySem.W.nsIn K mainGlobals x = some none := He.eqO_ok h
/-- a class with an attribute -/
def clsB (K : PySem.W.Frag) (C : Addr) : Bool := match K.lookup C with
  | some ⟨.type "type", _, .cls cd, sl⟩ => (match cd.mro, sl.toList with
    | .ref C' :: bm, [_, _, _, _, some (.builtin n), _] => C' == C && n == "ValueError.__new__" && !cd.hasDel && cd.hasDict && PySem.HandSPX.refsVE bm
    | _, _ => false)
  | _ => false
theorem clsB_ok {K : PySem.W.Frag} {C : Addr} (h : clsB K C = true) :
    ∃ nm q N bs bm sn sub ab col dd k0 k1 k2 k3 k5, K.lookup C = some (excClassObj nm q C N bs bm true sn sub ab col dd k0 k1 k2 k3 k5 "ValueError.__new__") ∧ PySem.HandSPX.refsVE bm = true := by
  unfold clsB at h
  split at h
  · rename_i dd cd sl hl
    split at h
    · rename_i C' bm k0 k1 k2 k3 n k5 hm hs
      simp only [Bool.and_eq_true, beq_iff_eq, Bool.not_eq_true'] at h
      obtain ⟨⟨⟨⟨rfl, rfl⟩, hd⟩, hx⟩, hr⟩ := h
      obtain ⟨nm, bs, mro, N, q, hdct, sn, sub, ab, col, hasDel⟩ := cd
      obtain ⟨sl⟩ := sl
      dsimp only at hm hs hd hx
      subst hm hd hx hs
      exact ⟨nm, q, N, bs, bm, sn, sub, ab, col, dd, k0, k1, k2, k3, k5, hl, hr⟩
    · cases h
  · cases h
def attrB (K : PySem.W.Frag) (C fI : Addr) (f : Str) : Bool := clsB K C && (decide (PySem.W.findIn K (.ref C) "__setattr__" = some (some (.builtin "object.__setattr__"))) &&
  (decide (PySem.W.subIn K (.ref C) (.type "BaseException") = some true) && (decide (PySem.W.typeIn K (.ref C) = some (.type "type")) && (PySem.W.keepIn K (.ref C) &&
  (decide (PySem.W.findIn K (.ref C) "__init__" = some (some (.ref fI))) && (decide (PySem.W.typeIn K (.ref fI) = some (.type "function")) &&
  (decide (PySem.W.findIn K (.ref C) f = some none) && PySem.W.hasDictIn K C)))))))
theorem attrB_ok {K : PySem.W.Frag} {C fI : Addr} {f : Str} (h : attrB K C fI f = true) : WW.AttrT K C fI f := by
  unfold attrB at h
  simp only [Bool.and_eq_true, decide_eq_true_eq] at h
  obtain ⟨h1, h2, h3, h4, h5, h6, h7, h8, h9⟩ := h
  exact ⟨clsB_ok h1, h2, h3, h4, h5, h6, h7, h8, h9⟩
/-- WG.walkG, K from the hook -/
theorem walkGE {l : PySem.W.OpenLaw} {n k : Nat} {q : Program} {loose : List Str} {XP : (Str → Option Value) → Heap → Prop} {YP : World → Heap → Prop}
    {d : DefRec} {x : Str}
    (hn : l.most = some n) (hn2 : n ≤ sizeLine) (hdf : d.params.defaults = []) (hr : Room k callerA)
    (F : ∀ (w : World) (mg : Str → Option Value) (fa : Addr) (h : Heap), YP w h → h.Ns mainGlobals mg → mg d.name = some (.ref fa) →
      ∃ (K : PySem.W.Frag) (fd : FuncData) (sp : Sp), K.In h ∧ (∀ (s : Shared) (u : Value), BindsTo s fd ⟨[u], []⟩ [(x, u)]) ∧
        (∀ (H : Hp) (a : Addr) (ns : List Int), ns.length ≤ n → Only H → SqL K H a (ns.map V.int) → sp [.ref a] H (fun v _ => v = .bl true) fun _ _ _ => False) ∧
        ∀ base : Heap, K.In base → base.Ns mainGlobals mg → WG.FnG l.prog w K mg base CX0 k fa fd [x] sp) :
    PySem.W.WalkO q loose XP YP l.row.toRowW d [] (fun f vs => PySem.call f vs) := by
  refine Att.attach_call hn hdf fun w s₀ s₁ mg mb fa o pm cd doc a vs ns G Y ho hd hcd hmg hobj hints hlen hg => ?_
  obtain ⟨K, fd, sp, KX, hb, hsp, hF⟩ := F w mg fa _ Y G.T.g hmg
  exact WG.law_end KX G.T.g G.T.b G.T.builtins G.T.nolimit hg hobj hints
    (Nat.le_trans hlen hn2) hr hF hb fun H hO hS => hsp H a ns hlen hO hS
end WK
end

section
set_option Elab.async false
set_option linter.all false
set_option maxRecDepth 100000
set_option maxHeartbeats 0
namespace WK
open PySem L2 WW
def csN_0 : List Str := ["BadRows", "BadPromises", "NotTold", "BadParcels", "NoEnd", "BadStations", "BadRow", "BadRun", "BadBundle", "BadServices", "BadMeter", "BadTimetable", "BadGates", "BadBookings", "BadBooking", "BadWays", "BadDeadlines", "BadPromise", "BadPages", "BadKeeper", "NotNow", "BadStop", "BadFlow", "BadServer", "BadChange", "BadLimits", "BadSession", "BadDeed", "BadNames", "BadNumber"]
def csN_1 : List Str := ["BadCurve", "TooMany", "BadStation", "BadTraffic", "BadSystem", "NotKept", "BadNet", "BadPlay", "NotLet", "BadLine", "BadText", "WaitError"]
def csN : List Str := csN_0 ++ csN_1
def msN : List Str := ["BadNumber", "BadCurve", "TooMany", "BadStation", "BadTraffic", "BadSystem", "NotKept", "BadNet", "BadPlay", "NotLet", "BadLine", "BadText"]
def fsN : List Str := ["_law_begun", "_law_mixed", "_law_take", "_law_pick", "_law_any", "_law_kinds", "_law_plain_errors", "_law_errors_of", "law"]
def gsN : List Str := ["_law_begun", "_law_mixed", "_law_take", "_law_pick", "_law_any", "_law_kinds", "_law_plain_errors", "_law_errors_of"]
abbrev lsN : List Str := csN ++ gsN
def faK_0 : List He.Fa := [.glo "BadRows", .glo "BadPromises", .glo "NotTold", .glo "BadParcels", .glo "NoEnd", .glo "BadStations", .glo "BadRow", .glo "BadRun", .glo "BadBundle", .glo "BadServices", .glo "BadMeter", .glo "BadTimetable", .glo "BadGates", .glo "BadBookings", .glo "BadBooking", .glo "BadWays", .glo "BadDeadlines", .glo "BadPromise", .glo "BadPages", .glo "BadKeeper", .glo "NotNow", .glo "BadStop", .glo "BadFlow", .glo "BadServer", .glo "BadChange", .glo "BadLimits", .glo "BadSession", .glo "BadDeed", .glo "BadNames", .glo "BadNumber"]
def faK_1 : List He.Fa := [.glo "BadCurve", .glo "TooMany", .glo "BadStation", .glo "BadTraffic", .glo "BadSystem", .glo "NotKept", .glo "BadNet", .glo "BadPlay", .glo "NotLet", .glo "BadLine", .glo "BadText", .glo "WaitError", .glo "_law_begun", .glo "_law_mixed", .glo "_law_take", .glo "_law_pick", .glo "_law_any", .glo "_law_kinds", .glo "_law_plain_errors", .glo "_law_errors_of", .glo "law", .free "abs", .free "int", .free "len", .free "isinstance", .free "enumerate", .free "range", .free "repr", .free "ValueError"]
def faK : List He.Fa := faK_0 ++ faK_1
def d_BadNumber : He.DefD := ⟨("BadNumber", some "__init__"), "__init__", "BadNumber.__init__", defArgs sI_BadNumber, defBody sI_BadNumber, defScope sI_BadNumber, [], []⟩
def d_BadCurve : He.DefD := ⟨("BadCurve", some "__init__"), "__init__", "BadCurve.__init__", defArgs sI_BadCurve, defBody sI_BadCurve, defScope sI_BadCurve, [], []⟩
def d_TooMany : He.DefD := ⟨("TooMany", some "__init__"), "__init__", "TooMany.__init__", defArgs sI_TooMany, defBody sI_TooMany, defScope sI_TooMany, [], []⟩
def d_BadStation : He.DefD := ⟨("BadStation", some "__init__"), "__init__", "BadStation.__init__", defArgs sI_BadStation, defBody sI_BadStation, defScope sI_BadStation, [], []⟩
def d_BadTraffic : He.DefD := ⟨("BadTraffic", some "__init__"), "__init__", "BadTraffic.__init__", defArgs sI_BadTraffic, defBody sI_BadTraffic, defScope sI_BadTraffic, [], []⟩
def d_BadSystem : He.DefD := ⟨("BadSystem", some "__init__"), "__init__", "BadSystem.__init__", defArgs sI_BadSystem, defBody sI_BadSystem, defScope sI_BadSystem, [], []⟩
def d_NotKept : He.DefD := ⟨("NotKept", some "__init__"), "__init__", "NotKept.__init__", defArgs sI_NotKept, defBody sI_NotKept, defScope sI_NotKept, [], []⟩
def d_BadNet : He.DefD := ⟨("BadNet", some "__init__"), "__init__", "BadNet.__init__", defArgs sI_BadNet, defBody sI_BadNet, defScope sI_BadNet, [], []⟩
def d_BadPlay : He.DefD := ⟨("BadPlay", some "__init__"), "__init__", "BadPlay.__init__", defArgs sI_BadPlay, defBody sI_BadPlay, defScope sI_BadPlay, [], []⟩
def d_NotLet : He.DefD := ⟨("NotLet", some "__init__"), "__init__", "NotLet.__init__", defArgs sI_NotLet, defBody sI_NotLet, defScope sI_NotLet, [], []⟩
def d_BadLine : He.DefD := ⟨("BadLine", some "__init__"), "__init__", "BadLine.__init__", defArgs sI_BadLine, defBody sI_BadLine, defScope sI_BadLine, [], []⟩
def d_BadText : He.DefD := ⟨("BadText", some "__init__"), "__init__", "BadText.__init__", defArgs sI_BadText, defBody sI_BadText, defScope sI_BadText, [], []⟩
def d__law_begun : He.DefD := ⟨("_law_begun", none), "_law_begun", "_law_begun", defArgs sBegun, defBody sBegun, defScope sBegun, [], []⟩
def d__law_mixed : He.DefD := ⟨("_law_mixed", none), "_law_mixed", "_law_mixed", defArgs sMixed, defBody sMixed, defScope sMixed, [], []⟩
def d__law_take : He.DefD := ⟨("_law_take", none), "_law_take", "_law_take", defArgs sTake, defBody sTake, defScope sTake, [], []⟩
def d__law_pick : He.DefD := ⟨("_law_pick", none), "_law_pick", "_law_pick", defArgs sPick, defBody sPick, defScope sPick, [], []⟩
def d__law_any : He.DefD := ⟨("_law_any", none), "_law_any", "_law_any", defArgs sAny, defBody sAny, defScope sAny, [], []⟩
def d__law_kinds : He.DefD := ⟨("_law_kinds", none), "_law_kinds", "_law_kinds", defArgs sKinds, defBody sKinds, defScope sKinds, [], []⟩
def d__law_plain_errors : He.DefD := ⟨("_law_plain_errors", none), "_law_plain_errors", "_law_plain_errors", defArgs sPlain, defBody sPlain, defScope sPlain, [], []⟩
def d__law_errors_of : He.DefD := ⟨("_law_errors_of", none), "_law_errors_of", "_law_errors_of", defArgs sErrs, defBody sErrs, defScope sErrs, [], []⟩
def d_law : He.DefD := ⟨("law", none), "law", "law", defArgs sLaw, defBody sLaw, defScope sLaw, [], []⟩
def fnK : List He.DefD := [d_BadNumber, d_BadCurve, d_TooMany, d_BadStation, d_BadTraffic, d_BadSystem, d_NotKept, d_BadNet, d_BadPlay, d_NotLet, d_BadLine, d_BadText, d__law_begun, d__law_mixed, d__law_take, d__law_pick, d__law_any, d__law_kinds, d__law_plain_errors, d__law_errors_of, d_law]
abbrev csK (K : PySem.W.Frag) : List Addr := [He.ga K "BadRows", He.ga K "BadPromises", He.ga K "NotTold", He.ga K "BadParcels", He.ga K "NoEnd", He.ga K "BadStations", He.ga K "BadRow", He.ga K "BadRun", He.ga K "BadBundle", He.ga K "BadServices", He.ga K "BadMeter", He.ga K "BadTimetable", He.ga K "BadGates", He.ga K "BadBookings", He.ga K "BadBooking", He.ga K "BadWays", He.ga K "BadDeadlines", He.ga K "BadPromise", He.ga K "BadPages", He.ga K "BadKeeper", He.ga K "NotNow", He.ga K "BadStop", He.ga K "BadFlow", He.ga K "BadServer", He.ga K "BadChange", He.ga K "BadLimits", He.ga K "BadSession", He.ga K "BadDeed", He.ga K "BadNames", He.ga K "BadNumber", He.ga K "BadCurve", He.ga K "TooMany", He.ga K "BadStation", He.ga K "BadTraffic", He.ga K "BadSystem", He.ga K "NotKept", He.ga K "BadNet", He.ga K "BadPlay", He.ga K "NotLet", He.ga K "BadLine", He.ga K "BadText", He.ga K "WaitError"]
def atB (K : PySem.W.Frag) : Bool := attrB K (He.ga K "BadNumber") (He.fAd K ("BadNumber", some "__init__")) "part" && (attrB K (He.ga K "BadCurve") (He.fAd K ("BadCurve", some "__init__")) "part" && (attrB K (He.ga K "TooMany") (He.fAd K ("TooMany", some "__init__")) "most" && (attrB K (He.ga K "BadStation") (He.fAd K ("BadStation", some "__init__")) "part" && (attrB K (He.ga K "BadTraffic") (He.fAd K ("BadTraffic", some "__init__")) "part" && (attrB K (He.ga K "BadSystem") (He.fAd K ("BadSystem", some "__init__")) "part" && (attrB K (He.ga K "NotKept") (He.fAd K ("NotKept", some "__init__")) "breach" && (attrB K (He.ga K "BadNet") (He.fAd K ("BadNet", some "__init__")) "part" && (attrB K (He.ga K "BadPlay") (He.fAd K ("BadPlay", some "__init__")) "part" && (attrB K (He.ga K "NotLet") (He.fAd K ("NotLet", some "__init__")) "why" && (attrB K (He.ga K "BadLine") (He.fAd K ("BadLine", some "__init__")) "number" && (attrB K (He.ga K "BadText") (He.fAd K ("BadText", some "__init__")) "at")))))))))))
def moreB (K : PySem.W.Frag) : Bool := kpB K (csK K) && (exB K (csK K) && (aksB K (csK K) && (kitB2 K (csK K) && (kwB K (csK K) && atB K))))
abbrev R : PySem.W.OpenRow := PySem.W.OpenLaw.row PySem.Challenge.rw_worstwait_k00_errors_of_all_parts
abbrev hk : PySem.W.Hook := hookK csN msN fsN faK fnK moreB
def ob (s : PySem.W.SharedT) : He.AlD × Bool := obsK csN msN fsN faK fnK moreB (HandSHeadRun.getT s)
theorem ob_eq (s : PySem.W.SharedT) : ob s = hk.obs s.abs := obsK_eq (HandSHeadRun.getT_eq s)
end WK
end

section
set_option Elab.async false
set_option linter.all false
set_option maxRecDepth 100000
set_option maxHeartbeats 0
namespace WK
open PySem L2 WW
theorem run (w : World) : HandSHeadRun.RunEq R (PySem.W.view R.prog [52]) hk ob 10000 lsN w := by
  intro os
  kernel_rfl
end WK
end

section
set_option Elab.async false
set_option linter.all false
set_option maxRecDepth 100000
set_option maxHeartbeats 0
namespace WK
open PySem L2 WW
theorem facts {l : PySem.W.OpenLaw} {w : World} {K : PySem.W.Frag} {h : Heap} {mg : Str → Option Value} {fa : Addr} (X : K.In h) (G : h.Ns mainGlobals mg) (hfa : mg "law" = some (.ref fa)) (c : He.SaysD faK fnK K) (hB : moreB K = true) :
    ∃ fd : FuncData, (∀ (s : Shared) (v : Value), BindsTo s fd ⟨[v], []⟩ [("script", v)]) ∧ ∀ base : Heap, K.In base → base.Ns mainGlobals mg → WG.FnG l.prog w K mg base CX0 5 fa fd ["script"] (spLaw K) := by
  unfold moreB atB at hB
  simp only [Bool.and_eq_true] at hB
  obtain ⟨B1, B2, B3, B4, B5, u0, u1, u2, u3, u4, u5, u6, u7, u8, u9, u10, u11⟩ := hB
  obtain ⟨g0, F0⟩ := c.def_ 0 (d := d_BadNumber) rfl
  obtain ⟨od0, an0, sl0, oc0, kV0, dc0, pm0, cd0, ct0, l0, x0, k0⟩ := fun3 F0
  obtain ⟨g1, F1⟩ := c.def_ 1 (d := d_BadCurve) rfl
  obtain ⟨od1, an1, sl1, oc1, kV1, dc1, pm1, cd1, ct1, l1, x1, k1⟩ := fun3 F1
  obtain ⟨g2, F2⟩ := c.def_ 2 (d := d_TooMany) rfl
  obtain ⟨od2, an2, sl2, oc2, kV2, dc2, pm2, cd2, ct2, l2, x2, k2⟩ := fun3 F2
  obtain ⟨g3, F3⟩ := c.def_ 3 (d := d_BadStation) rfl
  obtain ⟨od3, an3, sl3, oc3, kV3, dc3, pm3, cd3, ct3, l3, x3, k3⟩ := fun3 F3
  obtain ⟨g4, F4⟩ := c.def_ 4 (d := d_BadTraffic) rfl
  obtain ⟨od4, an4, sl4, oc4, kV4, dc4, pm4, cd4, ct4, l4, x4, k4⟩ := fun3 F4
  obtain ⟨g5, F5⟩ := c.def_ 5 (d := d_BadSystem) rfl
  obtain ⟨od5, an5, sl5, oc5, kV5, dc5, pm5, cd5, ct5, l5, x5, k5⟩ := fun3 F5
  obtain ⟨g6, F6⟩ := c.def_ 6 (d := d_NotKept) rfl
  obtain ⟨od6, an6, sl6, oc6, kV6, dc6, pm6, cd6, ct6, l6, x6, k6⟩ := fun3 F6
  obtain ⟨g7, F7⟩ := c.def_ 7 (d := d_BadNet) rfl
  obtain ⟨od7, an7, sl7, oc7, kV7, dc7, pm7, cd7, ct7, l7, x7, k7⟩ := fun3 F7
  obtain ⟨g8, F8⟩ := c.def_ 8 (d := d_BadPlay) rfl
  obtain ⟨od8, an8, sl8, oc8, kV8, dc8, pm8, cd8, ct8, l8, x8, k8⟩ := fun3 F8
  obtain ⟨g9, F9⟩ := c.def_ 9 (d := d_NotLet) rfl
  obtain ⟨od9, an9, sl9, oc9, kV9, dc9, pm9, cd9, ct9, l9, x9, k9⟩ := fun3 F9
  obtain ⟨g10, F10⟩ := c.def_ 10 (d := d_BadLine) rfl
  obtain ⟨od10, an10, sl10, oc10, kV10, dc10, pm10, cd10, ct10, l10, x10, k10⟩ := fun3 F10
  obtain ⟨g11, F11⟩ := c.def_ 11 (d := d_BadText) rfl
  obtain ⟨od11, an11, sl11, oc11, kV11, dc11, pm11, cd11, ct11, l11, x11, k11⟩ := fun3 F11
  obtain ⟨g12, F12⟩ := c.def_ 12 (d := d__law_begun) rfl
  obtain ⟨od12, an12, sl12, oc12, kV12, dc12, pm12, cd12, ct12, l12, x12, k12⟩ := fun3 F12
  obtain ⟨g13, F13⟩ := c.def_ 13 (d := d__law_mixed) rfl
  obtain ⟨od13, an13, sl13, oc13, kV13, dc13, pm13, cd13, ct13, l13, x13, k13⟩ := fun3 F13
  obtain ⟨g14, F14⟩ := c.def_ 14 (d := d__law_take) rfl
  obtain ⟨od14, an14, sl14, oc14, kV14, dc14, pm14, cd14, ct14, l14, x14, k14⟩ := fun3 F14
  obtain ⟨g15, F15⟩ := c.def_ 15 (d := d__law_pick) rfl
  obtain ⟨od15, an15, sl15, oc15, kV15, dc15, pm15, cd15, ct15, l15, x15, k15⟩ := fun3 F15
  obtain ⟨g16, F16⟩ := c.def_ 16 (d := d__law_any) rfl
  obtain ⟨od16, an16, sl16, oc16, kV16, dc16, pm16, cd16, ct16, l16, x16, k16⟩ := fun3 F16
  obtain ⟨g17, F17⟩ := c.def_ 17 (d := d__law_kinds) rfl
  obtain ⟨od17, an17, sl17, oc17, kV17, dc17, pm17, cd17, ct17, l17, x17, k17⟩ := fun3 F17
  obtain ⟨g18, F18⟩ := c.def_ 18 (d := d__law_plain_errors) rfl
  obtain ⟨od18, an18, sl18, oc18, kV18, dc18, pm18, cd18, ct18, l18, x18, k18⟩ := fun3 F18
  obtain ⟨g19, F19⟩ := c.def_ 19 (d := d__law_errors_of) rfl
  obtain ⟨od19, an19, sl19, oc19, kV19, dc19, pm19, cd19, ct19, l19, x19, k19⟩ := fun3 F19
  obtain ⟨g20, F20⟩ := c.def_ 20 (d := d_law) rfl
  obtain ⟨od20, an20, sl20, oc20, kV20, dc20, pm20, cd20, ct20, l20, x20, k20⟩ := fun3 F20
  exact all_mk X G hfa (glo_ns (c.fact 0 (f := .glo "BadRows") rfl)) (glo_ns (c.fact 1 (f := .glo "BadPromises") rfl)) (glo_ns (c.fact 2 (f := .glo "NotTold") rfl)) (glo_ns (c.fact 3 (f := .glo "BadParcels") rfl)) (glo_ns (c.fact 4 (f := .glo "NoEnd") rfl)) (glo_ns (c.fact 5 (f := .glo "BadStations") rfl)) (glo_ns (c.fact 6 (f := .glo "BadRow") rfl)) (glo_ns (c.fact 7 (f := .glo "BadRun") rfl)) (glo_ns (c.fact 8 (f := .glo "BadBundle") rfl)) (glo_ns (c.fact 9 (f := .glo "BadServices") rfl)) (glo_ns (c.fact 10 (f := .glo "BadMeter") rfl)) (glo_ns (c.fact 11 (f := .glo "BadTimetable") rfl)) (glo_ns (c.fact 12 (f := .glo "BadGates") rfl)) (glo_ns (c.fact 13 (f := .glo "BadBookings") rfl)) (glo_ns (c.fact 14 (f := .glo "BadBooking") rfl)) (glo_ns (c.fact 15 (f := .glo "BadWays") rfl)) (glo_ns (c.fact 16 (f := .glo "BadDeadlines") rfl)) (glo_ns (c.fact 17 (f := .glo "BadPromise") rfl)) (glo_ns (c.fact 18 (f := .glo "BadPages") rfl)) (glo_ns (c.fact 19 (f := .glo "BadKeeper") rfl)) (glo_ns (c.fact 20 (f := .glo "NotNow") rfl)) (glo_ns (c.fact 21 (f := .glo "BadStop") rfl)) (glo_ns (c.fact 22 (f := .glo "BadFlow") rfl)) (glo_ns (c.fact 23 (f := .glo "BadServer") rfl)) (glo_ns (c.fact 24 (f := .glo "BadChange") rfl)) (glo_ns (c.fact 25 (f := .glo "BadLimits") rfl)) (glo_ns (c.fact 26 (f := .glo "BadSession") rfl)) (glo_ns (c.fact 27 (f := .glo "BadDeed") rfl)) (glo_ns (c.fact 28 (f := .glo "BadNames") rfl)) (glo_ns (c.fact 29 (f := .glo "BadNumber") rfl)) (glo_ns (c.fact 30 (f := .glo "BadCurve") rfl)) (glo_ns (c.fact 31 (f := .glo "TooMany") rfl)) (glo_ns (c.fact 32 (f := .glo "BadStation") rfl)) (glo_ns (c.fact 33 (f := .glo "BadTraffic") rfl)) (glo_ns (c.fact 34 (f := .glo "BadSystem") rfl)) (glo_ns (c.fact 35 (f := .glo "NotKept") rfl)) (glo_ns (c.fact 36 (f := .glo "BadNet") rfl)) (glo_ns (c.fact 37 (f := .glo "BadPlay") rfl)) (glo_ns (c.fact 38 (f := .glo "NotLet") rfl)) (glo_ns (c.fact 39 (f := .glo "BadLine") rfl)) (glo_ns (c.fact 40 (f := .glo "BadText") rfl)) (glo_ns (c.fact 41 (f := .glo "WaitError") rfl)) B1 B2 B3 B4 B5 (attrB_ok u0) (attrB_ok u1) (attrB_ok u2) (attrB_ok u3) (attrB_ok u4) (attrB_ok u5) (attrB_ok u6) (attrB_ok u7) (attrB_ok u8) (attrB_ok u9) (attrB_ok u10) (attrB_ok u11) l0 x0 k0 l1 x1 k1 l2 x2 k2 l3 x3 k3 l4 x4 k4 l5 x5 k5 l6 x6 k6 l7 x7 k7 l8 x8 k8 l9 x9 k9 l10 x10 k10 l11 x11 k11 (glo_ns (c.fact 42 (f := .glo "_law_begun") rfl)) l12 x12 k12 (glo_ns (c.fact 43 (f := .glo "_law_mixed") rfl)) l13 x13 k13 (glo_ns (c.fact 44 (f := .glo "_law_take") rfl)) l14 x14 k14 (glo_ns (c.fact 45 (f := .glo "_law_pick") rfl)) l15 x15 k15 (glo_ns (c.fact 46 (f := .glo "_law_any") rfl)) l16 x16 k16 (glo_ns (c.fact 47 (f := .glo "_law_kinds") rfl)) l17 x17 k17 (glo_ns (c.fact 48 (f := .glo "_law_plain_errors") rfl)) l18 x18 k18 (glo_ns (c.fact 49 (f := .glo "_law_errors_of") rfl)) l19 x19 k19 (glo_ns (c.fact 50 (f := .glo "law") rfl)) l20 x20 k20 (free_ns (c.fact 51 (f := .free "abs") rfl)) (free_ns (c.fact 52 (f := .free "int") rfl)) (free_ns (c.fact 53 (f := .free "len") rfl)) (free_ns (c.fact 54 (f := .free "isinstance") rfl)) (free_ns (c.fact 55 (f := .free "enumerate") rfl)) (free_ns (c.fact 56 (f := .free "range") rfl)) (free_ns (c.fact 57 (f := .free "repr") rfl)) (free_ns (c.fact 58 (f := .free "ValueError") rfl))
end WK
end

section
set_option Elab.async false
open PySem PySem.W PySem.Calls PyProof.Rows
set_option maxRecDepth 100000 in
set_option maxHeartbeats 0 in
theorem PySem.Challenge.cw_worstwait_k00_errors_of_all_parts_holds : PySem.Challenge.rw_worstwait_k00_errors_of_all_parts.Holds := by
  w_on; o_law
  refine HandSHeadRun.head_any (r := WK.R) (q := view WK.R.prog [52]) (H := WK.hk) (ob := WK.ob) (M := 10000) (loose := WK.lsN) (d := HandSHeadRun.topDef WK.R.prog 52) (kwd := []) WK.ob_eq
    (by kernel_rfl) (fun s => by kernel_rfl) WK.run (by kernel_rfl) (by kernel_rfl) (by kernel_rfl) (by rfl) (by first | assumption | decide +kernel) (by decide +kernel) ⟨rfl, rfl, rfl, rfl, rfl, by decide +kernel⟩ ?hw ?hc
  case hw => w_witness2
  case hc =>
    refine WK.walkGE (l := PySem.Challenge.rw_worstwait_k00_errors_of_all_parts) (n := 63) (k := 5) (x := "script") rfl (by decide) (by kernel_rfl) ⟨rfl, by decide, by decide⟩ ?F
    intro w mg fa h Y G hmg0
    obtain ⟨K, KX, c, hB⟩ := Y
    have hmg : mg ("law" : PySem.Str) = some (.ref fa) := by
      have e : (HandSHeadRun.topDef WK.R.prog 52).name = ("law" : PySem.Str) := by kernel_rfl
      rw [← e]
      exact hmg0
    obtain ⟨fd, hb, hF⟩ := WK.facts (l := PySem.Challenge.rw_worstwait_k00_errors_of_all_parts) (w := w) KX G hmg c hB
    exact ⟨K, fd, WW.spLaw K, KX, hb, fun H a ns hl _ hS => ⟨a, ns, rfl, hS, hl, fun _ => rfl⟩, hF⟩
end
