import PyProof.Rows.All
import Wide.All
import OpenK.AllK
import Wide.FinOn
import HandS.ForMost
import HandS.Wide
import HandS.Codes
import PySem.Challenge.RW_worstwait_k33_whole_parcels
import HandS.OwnEq
import HandS.IsInst
import HandS.SlotsOwn
import PyProof.ReprRoads
import HandS.TupAny
import HandS.Walk
import HandS.Zip
import HandS.ExcOwn
import HandS.WordsExc
import HandS.Lambda
import HandS.ExcField
import HandS.ExcInit
import KE.KExcIs
import KE.GoesEnum
import HandS.SetFor
import HandS.More
import HandS.Flow
import HandS.SortInts
import HandS.Gcd
import HandS.Iter
import HandS.Conv
import HandS.Style
import HandS.Dict
import HandS.EndTab
import KE.KStateDown
import HandS.Defaults
import HandS.Head0
import HandS.Head1
import HandS.Head2
import HandS.HeadEnd
import HandS.HeadHook1
import HandS.HeadHook2
import HandS.HeadHook4
import HandS.RaiseMore
import KE.KMathGC
import HandS.MakeKwOnly
import KE.GoesMore
import KE.GoesZip
import PyProof.FitsInt
import HandS.TupMul
import HandS.CallLocal
import HandS.Head3
section
set_option Elab.async false
set_option linter.all false
set_option maxRecDepth 100000
set_option maxHeartbeats 4000000
namespace WW
open PySem L2
def top (i : Nat) : Stmt := PySem.Challenge.pw_worstwait_k33_whole_parcels.main.body.getD i (.Pass ⟨0, 0, 0, 0⟩)
abbrev sBegun : Stmt := top 61
abbrev sMixed : Stmt := top 62
abbrev sTake : Stmt := top 63
abbrev sPick : Stmt := top 64
/-! ### the draw: a dict of four, with two lists of ints -/
abbrev drawKvs (l c : Addr) (r t : Int) : List (Key × V) := [(Sum.inr "large", .ref l), (Sum.inr "rest", .int r), (Sum.inr "cells", .ref c), (Sum.inr "turn", .int t)]
structure DrawAt (H : Hp) (d l c : Addr) : Prop where
  ob : ∃ r t, H d = some (.dK (drawKvs l c r t))
  la : ∃ large : List Int, H l = some (.lst (large.map V.int)) ∧ large.length ≤ 63
  ce : ∃ cells : List Int, H c = some (.lst (cells.map V.int)) ∧ cells.length ≤ 63
  lc : l ≠ c
/-- all but the draw's dict and its first list stands -/
def KeepD (H H' : Hp) (d l : Addr) : Prop := ∀ b o, H b = some o → b ≠ d → b ≠ l → H' b = some o
theorem KeepD.refl (H : Hp) (d l : Addr) : KeepD H H d l := fun _ _ h _ _ => h
theorem KeepD.trans {H H1 H2 : Hp} {d l : Addr} (a : KeepD H H1 d l) (b : KeepD H1 H2 d l) : KeepD H H2 d l := fun c o h h1 h2 => b c o (a c o h h1 h2) h1 h2
theorem Same.keepD {H H1 : Hp} (d l : Addr) (a : Same H H1) : KeepD H H1 d l := fun c o h _ _ => a c o h
theorem DrawAt.dl {H : Hp} {d l c : Addr} (D : DrawAt H d l c) : d ≠ l := by
  obtain ⟨⟨r, t, h⟩, ⟨la, h2, _⟩, _, _⟩ := D
  exact ne_of h h2 (by intro z; cases z)
theorem DrawAt.dc {H : Hp} {d l c : Addr} (D : DrawAt H d l c) : d ≠ c := by
  obtain ⟨⟨r, t, h⟩, _, ⟨la, h2, _⟩, _⟩ := D
  exact ne_of h h2 (by intro z; cases z)
theorem DrawAt.same {H H' : Hp} {d l c : Addr} (D : DrawAt H d l c) (s : Same H H') : DrawAt H' d l c := by
  obtain ⟨⟨r, t, h⟩, ⟨la, h2, h3⟩, ⟨ce, h4, h5⟩, h6⟩ := D
  exact ⟨⟨r, t, s _ _ h⟩, ⟨la, s _ _ h2, h3⟩, ⟨ce, s _ _ h4, h5⟩, h6⟩
theorem DrawAt.keepF {H H' : Hp} {d l c a : Addr} (D : DrawAt H d l c) (k : KeepD H H' d l) (D' : DrawAt H' d l c) (h : H' a = none) : H a = none := by
  cases q : H a with
  | none => rfl
  | some o =>
    by_cases e1 : a = d
    · subst e1
      obtain ⟨⟨r, t, z⟩, _⟩ := D'
      rw [z] at h
      cases h
    · by_cases e2 : a = l
      · subst e2
        obtain ⟨_, ⟨la, z, _⟩, _⟩ := D'
        rw [z] at h
        cases h
      · rw [k a o q e1 e2] at h
        cases h
/-- the names of the prelude -/
structure PreG (mg : Str → Option Value) : Prop where
  abs : mg "abs" = none
  int : mg "int" = none
  len : mg "len" = none
def spBegun (K : PySem.W.Frag) : Sp := fun vs H Q _ => ∃ (a : Addr) (ns : List Int), vs = [.ref a] ∧ SqL K H a (ns.map V.int) ∧ ns.length ≤ 63 ∧
  ∀ (d l c : Addr) (H' : Hp), H d = none → H l = none → H c = none → DrawAt H' d l c → Same H H' → Q (.ref d) H'
local macro_rules | `(tactic| walk_at "rd") => `(tactic| simp only [tTest, tOp, tUn, tCB, tCons, tNil, tVar, tC, rI, rI0, rU, CPow, CMul, CDivN, tIf, tIfS, tNext, tCall, List.append_nil, rEq, tPar, tDGet, tSeq, sDPut, tLst, tYes, false_or, or_false, reduceCtorEq, and_false, false_and, exists_false, if_true, Bool.false_eq_true, if_false, ite_self, tAsg, gName, tDisp, tPairs, tRet, L2.start, wipe, List.map_cons, List.map_nil, List.length_cons, List.length_nil, List.replicate, List.cons_append, List.nil_append, List.set_cons_zero, List.set_cons_succ,
  List.getElem?_cons_zero, List.getElem?_cons_succ, V.int.injEq, V.bl.injEq, V.str.injEq, V.ref.injEq, Option.some.injEq, exists_eq_left', exists_eq_left, exists_and_left, exists_const, decide_eq_true_eq, true_and, and_true, exists_eq', exists_eq, Nat.reduceSub, Nat.reduceAdd, Int.reduceToNat, Int.reducePow, Int.reduceLE, Int.reduceNeg, Nat.reduceLT, Nat.reducePow, Int.natAbs_cast, Int.reduceLT, Nat.reduceLeDiff, List.cons.injEq])
section
variable {P : Program} {w : World} {K : PySem.W.Frag} {mg : Str → Option Value} {base : Heap}
theorem scBegun : FnScope ["script", "large", "grain"] ["script"] (defScope sBegun) := ⟨rfl, rfl, rfl, by decide +kernel, rfl, by decide +kernel, by decide +kernel⟩
theorem get_map_int {ns : List Int} {i : Nat} {x : V} (h : (ns.map V.int)[i]? = some x) : ∃ z, x = V.int z := by
  rw [List.getElem?_map] at h
  cases e : ns[i]? with
  | none => rw [e] at h; cases h
  | some z => rw [e] at h; exact ⟨z, (Option.some.inj h).symm⟩
theorem snocI (xs : List Int) (z : Int) : ∃ ys : List Int, xs.map V.int ++ [V.int z] = ys.map V.int ∧ ys.length = xs.length + 1 := ⟨xs ++ [z], by rw [List.map_append]; rfl, by rw [List.length_append]; rfl⟩
theorem ok_begun {f : Addr} {fd : FuncData} (F : Fun K "_law_begun" "_law_begun" sBegun f fd) (T : PreG mg) : FnOk P w K mg base CX0 1 f fd ["script"] (spBegun K) := by
  refine F.ok scBegun (fun vs H Q E h => ?_) (fun cdv A outer s H vs Q E hr h => ?_)
  · obtain ⟨a, ns, rfl, _⟩ := h
    rfl
  · obtain ⟨a, ns, rfl, hS, hn, k⟩ := h
    have hu := hu_of hr
    refine ⟨_, pss_cons (ps_setLc (i := 1) (own := [("grain", 2)]) (g := gName 2) rfl scBegun.nd rfl rfl (sw_true rfl rfl rfl (by decide +kernel)) (pi_list (pv 0)) (blkOk_by (N := ["script", "large", "grain"]) (sc := defScope sBegun) (by decide +kernel))
        (fun _ _ _ _ _ => pg_name (i := 2) scBegun.nd rfl (Or.inl rfl))
        (fun _ _ _ _ _ => pts_one (pt_cmpR op_ge (pe_callB call_abs (by rfl) T.abs (by decide +kernel) (pa_cons (pv 2) pa_nil)) (pe_op op_pow pe_int pe_int) (nomark _)))
        (fun _ _ _ _ _ => pe_op op_sub (pe_callB call_abs (by rfl) T.abs (by decide +kernel) (pa_cons (pv 2) pa_nil)) (pe_op op_pow pe_int pe_int)))
      (pss_one (ps_ret (pe_disp (pps_cons pe_str (pv 1) (pps_cons pe_str pe_int (pps_cons pe_str
        (pe_lc (own := [("grain", 2)]) (g := gName 2) (tt := tYes) rfl scBegun.nd (pi_list (pv 0)) (blkOk_by (N := ["script", "large", "grain"]) (sc := defScope sBegun) (by decide +kernel)) (fun _ _ _ _ _ => pg_name (i := 2) scBegun.nd rfl (Or.inl rfl)) (fun _ _ _ _ _ => pts_nil)
          (fun _ _ _ _ _ => pe_callB call_abs (by rfl) T.abs (by decide +kernel) (pa_cons (pv 2) pa_nil)))
        (pps_cons pe_str pe_int pps_nil)))) (by rfl) (by rfl) (fun z => by cases z) (by decide)))), ?_⟩
    refine ⟨_, rfl, a, rfl, ⟨_, hS⟩, fun D hD => lc_list (K := K) (a := a) (xs := ns.map V.int) (fun i H2 => ∃ xs : List Int, H2 D = some (.lst (xs.map V.int)) ∧ xs.length ≤ i ∧ Same H H2) ⟨[], upd_same, Nat.le_refl _, fun b o e => by rw [upd_ne (ne_of_none e hD)]; exact e⟩ (fun i H2 _ ⟨_, _, _, s2⟩ => s2.seq hS) ?_ ?_⟩
    · rintro i x H2 hx ⟨xs, hxs, hxl, s2⟩
      obtain ⟨z, rfl⟩ := get_map_int hx
      have hi : i < ns.length := by
        have q := (List.getElem?_eq_some_iff.mp hx).1
        rwa [List.length_map] at q
      refine ⟨rfl, ?_⟩
      walk_at "rd"
      refine ⟨by decide, ite2 (fun _ => ⟨by decide, ?_⟩) (fun _ => ?_)⟩
      · obtain ⟨ys, e1, e2⟩ := snocI xs ((if z < 0 then -z else z) - 1000000000000000000)
        exact ⟨xs.map V.int, hxs, (by rw [List.length_map]; exact small1000 (by omega)), ys, by rw [e1]; exact upd_same, by omega, fun b o e => by rw [upd_ne (ne_of_none e hD)]; exact s2 b o e⟩
      · exact ⟨xs, hxs, by omega, s2⟩
    · rintro H2 ⟨large, hl, hll, s2⟩
      walk_at "rd"
      intro p hp
      have hDp : D ≠ p := fun e => by rw [e, hp] at hl; cases hl
      have s3 : Same H (upd H2 p (.dK [])) := fun b o e => by rw [upd_ne (ne_of_none (s2 _ _ e) hp)]; exact s2 _ _ e
      refine ⟨_, rfl, a, rfl, ⟨_, s3.seq hS⟩, fun c hc => lc_list (K := K) (a := a) (xs := ns.map V.int) (fun i H3 => ∃ xs : List Int, H3 c = some (.lst (xs.map V.int)) ∧ xs.length ≤ i ∧ Same (upd H2 p (.dK [])) H3) ⟨[], upd_same, Nat.le_refl _, fun b o e => by rw [upd_ne (ne_of_none e hc)]; exact e⟩ (fun i H3 _ ⟨_, _, _, s4⟩ => (Same.trans s3 s4).seq hS) ?_ ?_⟩
      · rintro i x H3 hx ⟨xs, hxs, hxl, s4⟩
        obtain ⟨z, rfl⟩ := get_map_int hx
        have hi : i < ns.length := by
          have q := (List.getElem?_eq_some_iff.mp hx).1
          rwa [List.length_map] at q
        refine ⟨rfl, ?_⟩
        walk_at "rd"
        obtain ⟨ys, e1, e2⟩ := snocI xs (if z < 0 then -z else z)
        exact ⟨xs.map V.int, hxs, (by rw [List.length_map]; exact small1000 (by omega)), ys, by rw [e1]; exact upd_same, by omega, fun b o e => by rw [upd_ne (ne_of_none e hc)]; exact s4 b o e⟩
      · rintro H3 ⟨cells, hcl, hcll, s4⟩
        rw [List.length_map] at hll hcll
        refine ⟨s4 _ _ upd_same, drawKvs D c 0 0, rfl, (by show 4 ≤ 15; decide), ?_⟩
        have hpc : p ≠ c := ne_of_none (upd_same (H := H2) (a := p) (o := .dK [])) hc
        have hcD : D ≠ c := fun e => by rw [← e, upd_ne hDp, hl] at hc; cases hc
        have hD3 : H3 D = some (.lst (large.map V.int)) := s4 _ _ (by rw [upd_ne hDp]; exact hl)
        refine k p D c _ (s2.free hp) hD (s3.free hc) ⟨⟨0, 0, ?_⟩, ⟨large, ?_, by omega⟩, ⟨cells, ?_, by omega⟩, hcD⟩ ?_
        · exact upd_same
        · rw [upd_ne hDp]; exact hD3
        · rw [upd_ne hpc.symm]; exact hcl
        · exact fun b o e => by rw [upd_ne (ne_of_none (s2 _ _ e) hp)]; exact s4 _ _ (s3 _ _ e)
section
variable {H : Hp} {d l c : Addr} {r t x : Int}
theorem dg_large (h : H d = some (.dK (drawKvs l c r t))) : DGet H d (.str "large") (some (.ref l)) := by
  have e : valV (drawKvs l c r t) (Sum.inr "large" : Key) = some (.ref l) := by rfl
  rw [← e]
  exact DGet.k (k := Sum.inr "large") h
theorem dg_rest (h : H d = some (.dK (drawKvs l c r t))) : DGet H d (.str "rest") (some (.int r)) := by
  have e : valV (drawKvs l c r t) (Sum.inr "rest" : Key) = some (.int r) := by rfl
  rw [← e]
  exact DGet.k (k := Sum.inr "rest") h
theorem dg_cells (h : H d = some (.dK (drawKvs l c r t))) : DGet H d (.str "cells") (some (.ref c)) := by
  have e : valV (drawKvs l c r t) (Sum.inr "cells" : Key) = some (.ref c) := by rfl
  rw [← e]
  exact DGet.k (k := Sum.inr "cells") h
theorem dg_turn (h : H d = some (.dK (drawKvs l c r t))) : DGet H d (.str "turn") (some (.int t)) := by
  have e : valV (drawKvs l c r t) (Sum.inr "turn" : Key) = some (.int t) := by rfl
  rw [← e]
  exact DGet.k (k := Sum.inr "turn") h
theorem dp_turn (h : H d = some (.dK (drawKvs l c r t))) : DPut H d (.str "turn") (.int x) (upd H d (.dK (drawKvs l c r x))) :=
  DPut.k (k := Sum.inr "turn") h (by show 4 < sizeLine; decide)
theorem dp_rest (h : H d = some (.dK (drawKvs l c r t))) : DPut H d (.str "rest") (.int x) (upd H d (.dK (drawKvs l c x t))) :=
  DPut.k (k := Sum.inr "rest") h (by show 4 < sizeLine; decide)
end
def spMixed (K : PySem.W.Frag) : Sp := fun vs H Q _ => ∃ (d l c : Addr), vs = [.ref d] ∧ DrawAt H d l c ∧ ∀ (z : Int) (H' : Hp), DrawAt H' d l c → (∀ b o, H b = some o → b ≠ d → H' b = some o) → Q (.int z) H'
theorem scMixed : FnScope ["draw", "turn", "found", "great", "blend", "grain"] ["draw"] (defScope sMixed) := ⟨rfl, rfl, rfl, by decide +kernel, rfl, by decide +kernel, by decide +kernel⟩
theorem ok_mixed {f : Addr} {fd : FuncData} (F : Fun K "_law_mixed" "_law_mixed" sMixed f fd) (T : PreG mg) : FnOk P w K mg base CX0 1 f fd ["draw"] (spMixed K) := by
  refine F.ok scMixed (fun vs H Q E h => ?_) (fun cdv A outer s H vs Q E hr h => ?_)
  · obtain ⟨d, l, c, rfl, _⟩ := h
    rfl
  · obtain ⟨d, l, c, rfl, D, k⟩ := h
    have hu := hu_of hr
    refine ⟨_, pss_cons (ps_dput hu (pv 0) pe_str (pe_op op_add (pe_dget hu (pv 0) pe_str (fun _ _ => rfl)) pe_int) rfl)
      (pss_cons (ps_par (i := 1) (j := 2) (by rfl) scMixed.nd rfl rfl (by decide) rfl rfl (pa_cons (pe_callTy call_int1 (by rfl) T.int (by decide +kernel) (pa_cons (pe_dget hu (pv 0) pe_str (fun _ _ => rfl)) pa_nil)) (pa_cons pe_int pa_nil)) (by rfl))
      (pss_cons (ps_for PassesOwn.never rfl (pi_list (pe_lst (pa_cons pe_int (pa_cons pe_int (pa_cons pe_int pa_nil))))) (pg_name (i := 3) scMixed.nd rfl (Or.inl rfl))
        (pss_cons (ps_set (i := 4) scMixed.nd rfl (Or.inl rfl) (pe_op op_modN (pe_op op_add (pe_op op_mul (pv 1) pe_int) (pe_op op_fdivN (pv 3) pe_int)) (pv 3)))
        (pss_cons (ps_for PassesOwn.never rfl (pi_list (pe_dget hu (pv 0) pe_str (fun _ _ => rfl))) (pg_name (i := 5) scMixed.nd rfl (Or.inl rfl))
          (pss_one (ps_set (i := 4) scMixed.nd rfl (Or.inl rfl) (pe_op op_modN (pe_op op_add (pe_op op_mul (pv 4) pe_int) (pe_callTy call_int1 (by rfl) T.int (by decide +kernel) (pa_cons (pv 5) pa_nil))) (pv 3)))))
        (pss_one (ps_set (i := 2) scMixed.nd rfl (Or.inl rfl) (pe_op op_add (pe_op op_mul (pv 2) pe_int) (pe_op op_modN (pe_op op_pow (pv 4) pe_int) (pv 3))))))))
      (pss_one (ps_ret (pv 2))))), ?_⟩
    obtain ⟨⟨r, t, hd⟩, ⟨la, hl, hll⟩, ⟨ce, hc, hcl⟩, hlc⟩ := id D
    walk_at "rd"
    have hd1 : ∀ x, upd H d (.dK (drawKvs l c r x)) d = some (.dK (drawKvs l c r x)) := fun x => upd_same
    refine ⟨_, dg_turn hd, _, rfl, _, dp_turn hd, _, dg_turn (hd1 _), .inl ⟨_, rfl, _, _, ⟨rfl, rfl⟩, ?_⟩⟩
    refine ⟨(by show 3 ≤ sizeLine; decide), fun p hp => ⟨p, rfl, ⟨_, SqL.of upd_same⟩, ?_⟩⟩
    have hpd : p ≠ d := fun e => by rw [e, hd1] at hp; cases hp
    refine for_list (K := K) (a := p) (xs := [V.int 2147483629, V.int 2147483587, V.int 2147483579]) (fun i σ H2 => ∃ (z tt : Int) (v3 v4 v5 : Option V), σ = [some (.ref d), some (.int tt), some (.int z), v3, v4, v5] ∧ Same (upd (upd H d (.dK (drawKvs l c r (t + 1)))) p (.lst [V.int 2147483629, V.int 2147483587, V.int 2147483579])) H2) ⟨_, _, _, _, _, rfl, Same.refl _⟩ (fun i σ H2 _ ⟨_, _, _, _, _, _, s2⟩ => SqL.of (s2 _ _ upd_same)) ?_ ?_
    · rintro i x σ H2 hx ⟨z, tt, v3, v4, v5, rfl, s2⟩
      obtain ⟨g, rfl, g0, g1⟩ : ∃ g : Int, x = V.int g ∧ 0 < g ∧ g < 2147483648 := by
        match i, hx with
        | 0, hx => exact ⟨_, (Option.some.inj hx).symm, by decide, by decide⟩
        | 1, hx => exact ⟨_, (Option.some.inj hx).symm, by decide, by decide⟩
        | 2, hx => exact ⟨_, (Option.some.inj hx).symm, by decide, by decide⟩
      have gn : g ≠ 0 := by omega
      have fm : ∀ y : Int, 0 ≤ y.fmod g ∧ y.fmod g < g := fun y => by
        rw [Int.fmod_eq_emod_of_nonneg _ (by omega)]
        exact ⟨Int.emod_nonneg _ gn, Int.emod_lt_of_pos _ g0⟩
      walk_at "rd"
      refine ⟨.inr trivial, ⟨by decide, by decide⟩, gn, ?_⟩
      have hd2 : H2 d = some (.dK (drawKvs l c r (t + 1))) := s2 _ _ (by rw [upd_ne hpd.symm]; exact hd1 _)
      have hc2 : H2 c = some (.lst (ce.map V.int)) := s2 _ _ (by rw [upd_ne (ne_of_none (by rw [upd_ne D.dc.symm]; exact hc) hp), upd_ne D.dc.symm]; exact hc)
      refine ⟨_, rfl, d, _, rfl, dg_cells hd2, c, rfl, ⟨_, SqL.of hc2⟩, for_list (K := K) (a := c) (xs := ce.map V.int) (fun i σ H3 => ∃ (b : Int) (v5 : Option V), σ = [some (.ref d), some (.int tt), some (.int z), some (.int g), some (.int b), v5] ∧ 0 ≤ b ∧ b < g ∧ H3 = H2) ⟨_, _, rfl, (fm _).1, (fm _).2, rfl⟩ (fun i σ H3 _ ⟨_, _, _, _, _, e⟩ => by rw [e]; exact SqL.of hc2) ?_ ?_⟩
      · rintro i x σ H3 hx ⟨b, v5, rfl, b0, b1, rfl⟩
        obtain ⟨y, rfl⟩ := get_map_int hx
        walk_at "rd"
        exact ⟨.inr trivial, gn, _, _, ⟨rfl, rfl⟩, (fm _).1, (fm _).2⟩
      · rintro σ H3 ⟨b, v5, rfl, b0, b1, rfl⟩
        walk_at "rd"
        exact ⟨.inr trivial, by show b.natAbs < 18446744073709551616; omega, gn, _, _, _, _, _, ⟨rfl, rfl, rfl, rfl, rfl⟩, s2⟩
    · rintro σ H2 ⟨z, tt, v3, v4, v5, rfl, s2⟩
      walk_at "rd"
      have hd2 : H2 d = some (.dK (drawKvs l c r (t + 1))) := s2 _ _ (by rw [upd_ne hpd.symm]; exact hd1 _)
      have up : ∀ b o, H b = some o → b ≠ d → H2 b = some o := fun b o e hb => s2 _ _ (by
        have q : upd H d (.dK (drawKvs l c r (t + 1))) b = some o := by rw [upd_ne hb]; exact e
        rw [upd_ne (ne_of_none q hp)]; exact q)
      exact k z H2 ⟨⟨r, t + 1, hd2⟩, ⟨la, up _ _ hl D.dl.symm, hll⟩, ⟨ce, up _ _ hc D.dc.symm, hcl⟩, hlc⟩ up
/-! ### data of ints -/
theorem dpAll_int {H : Hp} : ∀ ns : List Int, DpAll K H (ns.map V.int) (ns.map PyData.int)
  | [] => .nil
  | _ :: r => .cons (.int _) (dpAll_int r)
theorem can_ints : ∀ ns : List Int, PyData.canLayAll0 (ns.map PyData.int) = true
  | [] => by simp [PyData.canLayAll0]
  | _ :: r => by simp [PyData.canLayAll0, PyData.canLay0, can_ints r]
theorem depth_ints : ∀ ns : List Int, PyData.depthAll (ns.map PyData.int) = 0
  | [] => by simp [PyData.depthAll]
  | _ :: r => by simp [PyData.depthAll, PyData.depth, depth_ints r]
theorem shaped_ints (ns : List Int) : SeqAt.shaped (.list (ns.map PyData.int)) = true := by
  simp [SeqAt.shaped, PyData.canLay0, PyData.depth, can_ints, depth_ints]
theorem shaped_tints (ns : List Int) : SeqAt.shaped (.tuple (ns.map PyData.int)) = true := by
  simp [SeqAt.shaped, PyData.canLay0, PyData.depth, can_ints, depth_ints]
theorem eqvAll_ints : ∀ ns ms : List Int, PyData.eqvAll (ns.map PyData.int) (ms.map PyData.int) = decide (ns = ms)
  | [], [] => by simp [PyData.eqvAll]
  | [], _ :: _ => by simp [PyData.eqvAll]
  | _ :: _, [] => by simp [PyData.eqvAll]
  | a :: r, b :: q => by
    simp only [List.map_cons, PyData.eqvAll, PyData.eqv, eqvAll_ints r q, List.cons.injEq, Bool.decide_and]
    rfl
theorem eqv_ints (ns ms : List Int) : PyData.eqv (.list (ns.map PyData.int)) (.list (ms.map PyData.int)) = decide (ns = ms) := by
  rw [← eqvAll_ints]; simp [PyData.eqv]
def spTake (K : PySem.W.Frag) : Sp := fun vs H Q _ => ∃ (d l c : Addr) (m : Int), vs = [.ref d, .int m] ∧ DrawAt H d l c ∧ 0 < m ∧ m < 2 ^ 200 ∧
  ∀ (r : Int) (H' : Hp), 0 ≤ r → r < m → DrawAt H' d l c → KeepD H H' d l → Q (.int r) H'
theorem scTake : FnScope ["draw", "amount", "found"] ["draw", "amount"] (defScope sTake) := ⟨rfl, rfl, rfl, by decide +kernel, rfl, by decide +kernel, by decide +kernel⟩
theorem ok_take {f fM : Addr} {fd fdM : FuncData} (F : Fun K "_law_take" "_law_take" sTake f fd) (T : PreG mg) (GM : FnOk P w K mg base CX0 1 fM fdM ["draw"] (spMixed K)) (kM : PySem.W.keepIn K (.ref fM) = true) (bM : Binds K fdM ["draw"] []) (mM : mg "_law_mixed" = some (.ref fM)) : FnOk P w K mg base CX0 2 f fd ["draw", "amount"] (spTake K) := by
  refine F.ok scTake (fun vs H Q E h => ?_) (fun cdv A outer s H vs Q E hr h => ?_)
  · obtain ⟨d, l, c, m, rfl, _⟩ := h
    rfl
  · obtain ⟨d, l, c, m, rfl, D, m0, m1, k⟩ := h
    have hu := hu_of hr
    refine ⟨_, C8.pss_cut (ps_if (pt_cmpR op_eq (pe_dget hu (pv 0) pe_str (fun _ _ => rfl)) pe_int (nomark _))
        (pss_one (ps_dput hu (pv 0) pe_str (pe_ifExp (pt_cmpR (op_neD hr.units) (pe_dget hu (pv 0) pe_str (fun _ _ => rfl)) (pe_lst pa_nil) (nomark _))
          (pe_bm PySem.F.plainAttrs_list PySem.F.slot_list_pop PySem.F.type_list_pop mt_popAt (pe_dget hu (pv 0) pe_str (fun _ _ => rfl)) (pa_cons pe_int pa_nil))
          (pe_call GM hr rfl mM kM bM .nil pass0 (pa_cons (pv 0) pa_nil))) rfl)) pss_nil)
      (pss_cons (ps_set (i := 2) scTake.nd rfl (Or.inl rfl) (pe_op op_modN (pe_callTy call_int1 (by rfl) T.int (by decide +kernel) (pa_cons (pe_dget hu (pv 0) pe_str (fun _ _ => rfl)) pa_nil)) (pv 1)))
      (pss_cons (ps_dput hu (pv 0) pe_str (pe_op op_fdivW (pe_callTy call_int1 (by rfl) T.int (by decide +kernel) (pa_cons (pe_dget hu (pv 0) pe_str (fun _ _ => rfl)) pa_nil)) (pv 1)) rfl)
      (pss_one (ps_ret (pv 2))))), ?_⟩
    -- behind the if: the draw again, all else as it was
    refine ⟨fun σ' H' => σ' = [some (.ref d), some (.int m), none] ∧ DrawAt H' d l c ∧ KeepD H H' d l, ?_, ?_⟩
    · have key : ∀ H', DrawAt H' d l c → KeepD H H' d l → ([some (V.ref d), some (V.int m), none] : List (Option V)) = [some (.ref d), some (.int m), none] ∧ DrawAt H' d l c ∧ KeepD H H' d l := fun H' a b => ⟨rfl, a, b⟩
      obtain ⟨⟨r, t, hd⟩, ⟨la, hl, hll⟩, ⟨ce, hc, hcl⟩, hlc⟩ := id D
      walk_at "rd"
      refine ⟨_, dg_rest hd, rfl, ?_⟩
      refine ite2 (fun _ => ?_) (fun _ => (key H D (KeepD.refl _ _ _)).2)
      refine ⟨_, dg_large hd, by decide, fun q hq => ⟨.list (la.map .int), .list [], .lst (SqL.of (by rw [upd_ne (ne_of_none hl hq)]; exact hl)) (dpAll_int la), .lst (SqL.of upd_same) .nil, shaped_ints la, by decide, ?_⟩⟩
      rw [show PyData.eqv (.list (la.map .int)) (.list []) = decide (la = []) from eqv_ints la []]
      have hd1 : (upd H q (.lst [])) d = some (.dK (drawKvs l c r t)) := by rw [upd_ne (ne_of_none hd hq)]; exact hd
      have hl1 : (upd H q (.lst [])) l = some (.lst (la.map V.int)) := by rw [upd_ne (ne_of_none hl hq)]; exact hl
      have s1 : Same H (upd H q (.lst [])) := fun b o e => by rw [upd_ne (ne_of_none e hq)]; exact e
      cases la with
      | nil =>
        refine ⟨false, rfl, ?_⟩
        rw [if_neg Bool.false_ne_true]
        refine ⟨d, l, c, rfl, D.same s1, fun z H2 D2 k2 => ?_⟩
        obtain ⟨⟨r2, t2, hd2⟩, ⟨la2, hl2, hll2⟩, ⟨ce2, hc2, hcl2⟩, _⟩ := id D2
        refine ⟨_, dp_rest hd2, (key _ ⟨⟨_, _, upd_same⟩, ⟨la2, by rw [upd_ne D.dl.symm]; exact hl2, hll2⟩, ⟨ce2, by rw [upd_ne D.dc.symm]; exact hc2, hcl2⟩, hlc⟩ fun b o e h1 h2 => ?_).2⟩
        rw [upd_ne h1]
        exact k2 _ _ (s1 _ _ e) h1
      | cons y ys =>
        refine ⟨true, rfl, ?_⟩
        rw [if_pos rfl]
        refine ⟨_, rfl, _, _, rfl, dg_large hd1, .inl ⟨rfl, _, SqL.of hl1⟩, l, _, 0, 0, _, rfl, rfl, hl1, by decide, by decide, ?_, rfl, ?_⟩
        · rw [List.length_map, List.length_cons]
          unfold seqIndex?
          simp
        have hd2 : upd (upd H q (.lst [])) l (.lst (((y :: ys).map V.int).eraseIdx 0)) d = some (.dK (drawKvs l c r t)) := by rw [upd_ne D.dl]; exact hd1
        have hc1 : (upd H q (.lst [])) c = some (.lst (ce.map V.int)) := s1 _ _ hc
        refine ⟨_, dp_rest hd2, (key _ ⟨⟨_, _, upd_same⟩, ⟨ys, ?_, ?_⟩, ⟨ce, ?_, hcl⟩, hlc⟩ fun b o e h1 h2 => ?_).2⟩
        · rw [upd_ne D.dl.symm]; exact upd_same
        · rw [List.length_cons] at hll; omega
        · rw [upd_ne D.dc.symm, upd_ne hlc.symm]; exact hc1
        · rw [upd_ne h1, upd_ne h2]; exact s1 _ _ e
    · rintro σ' H' ⟨rfl, D', k'⟩
      obtain ⟨⟨r, t, hd⟩, ⟨la, hl, hll⟩, ⟨ce, hc, hcl⟩, hlc⟩ := id D'
      walk_at "rd"
      have fm : 0 ≤ r.fmod m ∧ r.fmod m < m := by
        rw [Int.fmod_eq_emod_of_nonneg _ (by omega)]
        exact ⟨Int.emod_nonneg _ (by omega), Int.emod_lt_of_pos _ m0⟩
      refine ⟨_, dg_rest hd, .inl ⟨_, rfl, by omega, _, dg_rest hd, .inl ⟨_, rfl, wide_div (b := 200) m0 (by omega) (by decide) (by decide), _, dp_rest hd, ?_⟩⟩⟩
      exact k _ _ fm.1 fm.2 ⟨⟨_, _, upd_same⟩, ⟨la, by rw [upd_ne D'.dl.symm]; exact hl, hll⟩, ⟨ce, by rw [upd_ne D'.dc.symm]; exact hc, hcl⟩, hlc⟩ (k'.trans fun b o e h1 h2 => by rw [upd_ne h1]; exact e)
def spPick (K : PySem.W.Frag) : Sp := fun vs H Q _ => ∃ (d l c p : Addr) (xs : List V), vs = [.ref d, .ref p] ∧ DrawAt H d l c ∧ H p = some (.lst xs) ∧ p ≠ l ∧ 0 < xs.length ∧ xs.length ≤ 2 ^ 100 ∧
  ∀ (i : Nat) (x : V) (H' : Hp), xs[i]? = some x → DrawAt H' d l c → KeepD H H' d l → Q x H'
theorem scPick : FnScope ["draw", "some"] ["draw", "some"] (defScope sPick) := ⟨rfl, rfl, rfl, by decide +kernel, rfl, by decide +kernel, by decide +kernel⟩
theorem ok_pick {f fM : Addr} {fd fdM : FuncData} (F : Fun K "_law_pick" "_law_pick" sPick f fd) (T : PreG mg) (GM : FnOk P w K mg base CX0 2 fM fdM ["draw", "amount"] (spTake K)) (kM : PySem.W.keepIn K (.ref fM) = true) (bM : Binds K fdM ["draw", "amount"] []) (mM : mg "_law_take" = some (.ref fM)) : FnOk P w K mg base CX0 3 f fd ["draw", "some"] (spPick K) := by
  refine F.ok scPick (fun vs H Q E h => ?_) (fun cdv A outer s H vs Q E hr h => ?_)
  · obtain ⟨d, l, c, p, xs, rfl, _⟩ := h
    rfl
  · obtain ⟨d, l, c, p, xs, rfl, D, hp, hpl, h0, hz, k⟩ := h
    have hu := hu_of hr
    refine ⟨_, pss_one (ps_ret (pe_ix ix_list (pv 1) (pe_call GM hr rfl mM kM bM .nil pass0 (pa_cons (pv 0) (pa_cons (pe_callB call_len_seq (by rfl) T.len PySem.boot_len (pa_cons (pv 1) pa_nil)) pa_nil))) (fun _ _ => rfl))), ?_⟩
    obtain ⟨⟨r, t, hd⟩, ⟨la, hl, hll⟩, ⟨ce, hc, hcl⟩, hlc⟩ := id D
    have hpd : p ≠ d := ne_of hp hd (by intro z; cases z)
    refine ⟨_, rfl, _, rfl, _, rfl, p, xs, rfl, .inl (SqL.of hp), ?_⟩
    refine ⟨d, l, c, _, rfl, D, by omega, by omega, fun r2 H2 r0 r1 D2 k2 => ?_⟩
    obtain ⟨j, rfl⟩ : ∃ j : Nat, r2 = (j : Int) := ⟨r2.toNat, by omega⟩
    have hj : xs[j]? = some (xs[j]'(by omega)) := List.getElem?_eq_getElem _
    exact ⟨p, xs, _, _, rfl, rfl, SqL.of (k2 _ _ hp hpd hpl), atI_nat hj, k j _ H2 hj D2 k2⟩
end
end WW
end

section
set_option Elab.async false
set_option linter.all false
set_option maxRecDepth 100000
set_option maxHeartbeats 4000000
/-! == and != by an own __eq__, both answers; attributes as targets of a tuple's assignment -/
namespace WO
open PySem PySem.Spec PyProof.Rows L2
/-- a.f as a target -/
def gAttr (K : PySem.W.Frag) (ta : TE) (f : Str) : TG := fun v σ H Q => ta σ H fun x H1 => ∃ a C dx fs, x = .ref a ∧ H1 a = some (.ins C dx fs) ∧ Cls K C ∧ NoAttr K C f ∧ fs.length < 1000 ∧ Q σ (upd H1 a (.ins C dx (putF f v fs)))
theorem pg_attr {X : Cx} {o : Expr} {f : Str} {pos : Pos} {ta : TE} (ho : PE X o ta) : PG X (.Attribute o f pos) (gAttr X.K ta f) := by
  refine ⟨fun pins s σ H v u Q I r h => ?_⟩
  rw [assign_Attribute]
  refine wpAny_bind (wpAny_holding (thn (ho.run pins s σ H _ I h) fun ov s1 ⟨x, H1, I1, r1, q⟩ => ?_))
  obtain ⟨a, C, dx, fs, rfl, hi, c, n, hz, q⟩ := q
  cases (show ov = Value.ref a from r1)
  refine wpAny_bind (wpAny_standAt (wpAny_bind (wpAny_holding (setattr_ok I1 hi c n hz r fun s' I' => wpAny_release ⟨_, _, I', q⟩))))
section
variable {X : Cx} {CX : CXT} {C f : Addr} {fd : FuncData} {ps : List Str} {sp : Sp} {E : XK} {n : Nat}
def rOw (K : PySem.W.Frag) (C : Addr) (sp : Sp) (E : XK) : R2 := fun x y H Q => ∃ a dx fs t, x = .ref a ∧ H a = some (.ins C dx fs) ∧ TyX K H y t ∧ PySem.W.notFirst K C t = true ∧
  sp [x, y] H (fun v H' => (∃ b, v = .bl b) ∧ Q v H') E
theorem op_ownEq (F : FnOk X.prog X.w X.K X.mg X.base CX n f fd ps sp) (hf : PySem.W.findIn X.K (.ref C) "__eq__" = some (some (.ref f))) (hfn : PySem.W.isFn X.K (.ref f) = true)
    (hb : Binds X.K fd ps []) (hr : Room n X.A) (hx : Passes CX X E) : OpR X (compareOp .Eq) (rOw X.K C sp E) := by
  intro pins s σ H x y v u Q I rx ry ⟨a, dx, fs, t, hxa, hi, ty, nf, q⟩
  subst hxa
  cases (show v = Value.ref a from rx)
  obtain ⟨mA, om, -, -, -, -⟩ := ins_get I.hok hi
  obtain ⟨od, ia, -⟩ := om.look
  obtain ⟨m, fr⟩ := I.fr
  obtain ⟨P, kx, hp, -⟩ := kit_of I ry ty
  have hl := F.len _ _ _ _ q
  show wpAny _ _ (richCompare .Eq (.ref a) u) _ _ _
  refine PySem.W.cmp_K hr.units0 fr I.ok.mod.kin ia (kx.ty _ _ I.kIn hp) nf hf hfn ?_
  have hu : ([Value.ref a, u] ++ []).length = ps.length := hl
  refine wpAny_call (codeAny_mono (F.run X.A X.stack s H ⟨[.ref a, u], []⟩ ([.ref a, u] ++ []) [.ref a, y] _ E hr I.env0
    (hb s [.ref a, u] I.kIn hu) (.cons rfl (.cons ry .nil)) q) fun r s' hq => ?_)
  cases r with
  | error er => exact hx pins σ H s er s' I hq
  | ok fl =>
    cases fl with
    | ret u' =>
      obtain ⟨z, H', I', rz, ⟨b, hb'⟩, q'⟩ := I.after hq
      exact SlX.cmpback (P := EP X pins σ Q) rz ⟨z, H', I', rz, q'⟩
    | next => exact False.elim hq
    | brk => exact False.elim hq
    | cont => exact False.elim hq
end
end WO
namespace WO
open PySem PySem.Spec PyProof.Rows L2
/-- a class of one's own over object, with __eq__, without __ne__ -/
def neB (K : PySem.W.Frag) (C f : Addr) : Bool := match K.lookup C with
  | some ⟨.type "type", _, .cls cd, sl⟩ => (match cd.mro, sl.toList with
    | [.ref C', .type "object"], [_, _, _, _, some (.builtin _), _] => C' == C && !cd.hasDel && PySem.W.nsOkIn K cd.ns && decide (PySem.W.nsIn K cd.ns "__eq__" = some (some (.ref f))) && decide (PySem.W.nsIn K cd.ns "__ne__" = some none)
    | _, _ => false)
  | _ => false
theorem ns_fun {K : PySem.W.Frag} {h : Heap} {N : Addr} (X : K.In h) (ok : PySem.W.nsOkIn K N = true) : ∃ m, h.Ns N m ∧ ∀ x v, PySem.W.nsIn K N x = some v → m x = v := by
  unfold PySem.W.nsOkIn at ok
  split at ok
  · rename_i cls dd es ep sl hl
    refine ⟨nsFind es, ⟨_, es, ep, X _ _ hl, rfl, fun e he => ?_, fun _ => rfl⟩, fun x v hv => ?_⟩
    · obtain ⟨i, hi, e1⟩ := Array.mem_iff_getElem.mp he
      have z := (Array.all_eq_true.mp ok) i hi
      rw [e1] at z
      split at z
      · rename_i s t hk
        exact ⟨s, t, hk⟩
      · cases z
    · unfold PySem.W.nsIn at hv
      rw [hl] at hv
      dsimp only at hv
      unfold nsFind findBy
      rw [← Array.find?_toList]
      split at hv
      · rename_i e he
        rw [he]
        cases hv
        rfl
      · rename_i he
        rw [he]
        split at hv
        · cases hv
        · cases hv
          rfl
  · cases ok
theorem neB_ok {K : PySem.W.Frag} {C f x : Addr} {h : Heap} {o : Obj} (X : K.In h) (hB : neB K C f = true) (hfn : PySem.W.isFn K (.ref f) = true) (hx : h.get? x = some o) (hc : o.cls = .ref C) :
    h.OwnEqNoNe x C f "object" [.type "object"] := by
  have hfn : ((K.lookup f).map (fun o => o.cls) == some (Value.type "function")) = true := hfn
  have hfn' : ∃ of, K.lookup f = some of ∧ of.cls = .type "function" := by
    cases e : K.lookup f with
    | none => rw [e] at hfn; cases hfn
    | some of =>
      rw [e] at hfn
      have z : (some of.cls : Option Value) = some (.type "function") := eq_of_beq hfn
      exact ⟨of, rfl, Option.some.inj z⟩
  obtain ⟨of, hf, hf2⟩ := hfn'
  unfold neB at hB
  split at hB
  · rename_i dd cd sl hl
    split at hB
    · rename_i C' k0 k1 k2 k3 n k5 hm hs
      simp only [Bool.and_eq_true, beq_iff_eq, Bool.not_eq_true', decide_eq_true_eq] at hB
      obtain ⟨⟨⟨⟨rfl, hd⟩, hok⟩, he⟩, hn⟩ := hB
      obtain ⟨m, hN, hm2⟩ := ns_fun X hok
      obtain ⟨nm, bs, mro, N, q, hdct, sn, sub, ab, col, hasDel⟩ := cd
      obtain ⟨sl⟩ := sl
      dsimp only at hm hs hd hN he hn hm2
      subst hm hd hs
      exact ⟨o, of, nm, q, N, bs, hdct, sn, sub, ab, col, dd, k0, k1, k2, k3, k5, n, m, some (.builtin "object.__eq__"), hx, hc, X _ _ hl, hN, hm2 _ _ he, X _ _ hf, hf2, rfl, rfl, hm2 _ _ hn⟩
    · cases hB
  · cases hB
section
variable {X : Cx} {CX : CXT} {C f : Addr} {fd : FuncData} {ps : List Str} {sp : Sp} {E : XK} {n : Nat}
/-- both are of the class -/
def rOwN (C : Addr) (sp : Sp) (E : XK) : R2 := fun x y H Q => ∃ a dx fs b dy gs, x = .ref a ∧ H a = some (.ins C dx fs) ∧ y = .ref b ∧ H b = some (.ins C dy gs) ∧
  sp [x, y] H (fun v H' => ∃ k, v = .bl k ∧ Q (.bl !k) H') E
theorem op_ownNe (F : FnOk X.prog X.w X.K X.mg X.base CX n f fd ps sp) (hB : neB X.K C f = true) (hfn : PySem.W.isFn X.K (.ref f) = true)
    (hb : Binds X.K fd ps []) (hr : Room (n + 1) X.A) (hx : Passes CX X E) : OpR X (compareOp .NotEq) (rOwN C sp E) := by
  intro pins s σ H x y v u Q I rx ry ⟨a, dx, fs, b, dy, gs, hxa, hi, hyb, hj, q⟩
  subst hxa hyb
  cases (show v = Value.ref a from rx)
  cases (show u = Value.ref b from ry)
  obtain ⟨mA, om, -, -, -, -⟩ := ins_get I.hok hi
  obtain ⟨mB, on, -, -, -, -⟩ := ins_get I.hok hj
  have hl := F.len _ _ _ _ q
  have hu : ([Value.ref a, Value.ref b] ++ []).length = ps.length := hl
  have e0 := I.env0
  show wpAny _ _ (richCompare .NotEq (.ref a) (.ref b)) _ _ _
  refine richCompare_ne_ownEq PySem.F.cmp_object (neB_ok I.kIn hB hfn om.obj rfl) on.obj rfl hr.in1.units0 ?_
  refine wpAny_call (codeAny_mono (F.run X.A.in1 X.stack s H ⟨[.ref a, .ref b], []⟩ ([Value.ref a, Value.ref b] ++ []) [.ref a, .ref b] _ E hr.in1
    ⟨e0.frames, e0.mod, e0.bs, e0.bsz, e0.funs, e0.frf, e0.hok, e0.bare⟩
    (hb s [.ref a, .ref b] I.kIn hu) (.cons rx (.cons ry .nil)) q) fun r s' hq => ?_)
  cases r with
  | error er => exact hx pins σ H s er s' I hq
  | ok fl =>
    cases fl with
    | ret u' =>
      obtain ⟨z, H', I', rz, k, rfl, q'⟩ := I.after hq
      cases (show u' = Value.bool k from rz)
      exact ⟨k, rfl, .bl !k, H', I', rfl, q'⟩
    | next => exact False.elim hq
    | brk => exact False.elim hq
    | cont => exact False.elim hq
end
end WO
end

section
set_option Elab.async false
set_option linter.all false
set_option maxRecDepth 100000
set_option maxHeartbeats 4000000
/-! Defs that are called where no text of a thing is being made (guards = some []): so repr(thing) may be asked in them. -/
namespace WG
open PySem PySem.Spec PyProof.Rows L2
/-- as FnOk, for calls under no guard -/
structure FnG (P : Program) (w : World) (K : PySem.W.Frag) (mg : Str → Option Value) (base : Heap)
    (CX : CXT) (k : Nat) (f : Addr) (fd : FuncData) (ps : List Str) (sp : Sp) : Prop where
  len : ∀ vs H Q E, sp vs H Q E → vs.length = ps.length
  run : ∀ (A : Around) (outer : List Env) (s : Shared) (H : Hp) (args : Args) (us : List Value) (vs : List V)
    (Q : VK) (E : XK), Room k A → A.guards = some [] → Env0 P w K mg base A outer s H →
    BindsTo s fd args (ps.zip us) → Vals vs us → sp vs H Q E →
    codeAny (model P w) A (.call (.ref f) args) (CR CX outer P w H s Q E) s
section
variable {P : Program} {w : World} {K : PySem.W.Frag} {mg : Str → Option Value} {base : Heap} {CX : CXT}
variable {k : Nat} {f : Addr} {fd : FuncData} {ps : List Str} {sp : Sp}
theorem FnG.of (F : FnOk P w K mg base CX k f fd ps sp) : FnG P w K mg base CX k f fd ps sp :=
  ⟨F.len, fun A outer s H args us vs Q E hr _ e0 hb hv hs => F.run A outer s H args us vs Q E hr e0 hb hv hs⟩
theorem FnG.mono {j : Nat} (F : FnG P w K mg base CX j f fd ps sp) (h : j ≤ k) : FnG P w K mg base CX k f fd ps sp :=
  ⟨F.len, fun A outer s H args us vs Q E hr => F.run A outer s H args us vs Q E (hr.mono h)⟩
/-- a def by its body, which may ask for texts -/
theorem okG {x qual : Str} {st : Stmt} {N : List Str} (F : Fun K x qual st f fd) (S : FnScope N ps (defScope st))
    (len : ∀ vs H Q E, sp vs H Q E → vs.length = ps.length)
    (body : ∀ (cdv : Value) (A : Around) (outer : List Env) (s : Shared) (H : Hp) (vs : List V) (Q : VK) (E : XK),
      Room k (A.deeper (envOfC qual (defScope st) s.heap.objs.size f cdv)) →
      (A.deeper (envOfC qual (defScope st) s.heap.objs.size f cdv)).guards = some [] → sp vs H Q E →
      ∃ t, PSs (cxOf CX P w K mg base N qual (defScope st) f cdv A outer s H E).nox (defBody st) t ∧
        t { nx := fun _ H' => Q .non H', rt := Q } (start N vs) H) :
    FnG P w K mg base CX (k + 1) f fd ps sp := by
  obtain ⟨oc, od, kV, doc, pm, an, cdv, ct, osl, rfl, lk, hcd⟩ := F.ex
  refine ⟨len, fun A outer s H args us vs Q E hr hga e0 hb r hsp => ?_⟩
  have hl := len _ _ _ _ hsp
  have KX : K.In s.heap := e0.mod.kin.keeps
    fun b o e => (e0.bs b o e).1
  have lim : s.heap.NoLimit := e0.mod.nolimit.keeps
    fun b o e => (e0.bs b o e).1
  have hkind : ∀ y ∈ ps.zip us, (defScope st).names.lookup y.1 = some .local ∨
      ((defScope st).names.lookup y.1 = some .cell ∧
        ((cellsFrom (s.heap.objs.size + 1) (defScope st).names []).lookup y.1).isSome = true) := by
    rintro ⟨n, v⟩ hy
    rcases S.par n (List.of_mem_zip hy).1 with q | q
    · exact .inl q
    · exact .inr ⟨q, PySem.W.cellsFrom_some _ _ _ (.inl q)⟩
  refine codeAny_call_function hr.depth (KX _ _ lk) rfl S.co S.gen rfl
    (PySem.W.codeRec_of KX hcd) (hb _ _ _ _ ?_)
  refine wpAny_newFunctionEnv_cells S.kind hkind
    fun env he s1 x => ?_
  subst he
  refine ⟨lim.keeps x.toInCall.keep,
    codeAny_func ?_⟩
  obtain ⟨t, ht, hq⟩ := body cdv A outer s H vs Q E (hr.deeper _) hga hsp
  have I := inv_start (CX := CX) (E := E) S hr.hd e0 hl r x
  refine wpAny_mono (ht.nox.run [] s1 (start N vs) H _ I hq)
    (fun fl s' hs => ?_) fun e s' hs => hs
  have fin : ∀ {σ' : L2.St} {H' : Hp} {v : V} {u : Value},
      Inv (cxOf CX P w K mg base N qual (defScope st) f cdv A outer s H E) [] σ' H' s' →
      RelV v u → Q v H' → CE outer P w H s Q u s' :=
    fun J rv q => ⟨_, _, J.os, J.bare, J.base, J.hok, rv, q⟩
  cases fl with
  | ret u =>
    obtain ⟨v, σ', H', J, rv, q⟩ := hs
    exact fin J rv q
  | next =>
    obtain ⟨σ', H', J, q⟩ := hs
    exact fin (v := V.non) (u := Value.none) J rfl q
  | brk =>
    obtain ⟨_, _, _, q⟩ := hs
    exact False.elim q
  | cont =>
    obtain ⟨_, _, _, q⟩ := hs
    exact False.elim q
end
section
variable {X : Cx} {CX : CXT} {k : Nat} {f : Addr} {fd : FuncData} {ps : List Str} {sp : Sp} {E : XK} {x : Str}
variable {ds : List Value} {dvs : List V} {p pos : Pos} {e : Expr} {es : List Expr} {t : TA}
/-- f(e, ..), under no guard -/
theorem pe_callG (F : FnG X.prog X.w X.K X.mg X.base CX k f fd ps sp) (hgu : X.A.guards = some []) (hr : Room k X.A) (hg : Gl X x)
    (hm : X.mg x = some (.ref f)) (hk : PySem.W.keepIn X.K (.ref f) = true) (hb : Binds X.K fd ps ds) (hd : Vals dvs ds)
    (hx : Passes CX X E) (ha : PA X (e :: es) t) (hdb : (x == ("__debug__" : Str)) = false := by decide)
    (he : starEach (e :: es) X.env = (false, eval e X.env) :: starEach es X.env := by rfl)
    (hpl : (backTo pos (starEach es X.env)).any (·.1) = false := by rfl) :
    PE X (.Call (.Name x p) (e :: es) [] pos) (tCall sp dvs E t) := by
  refine ⟨fun pins s σ H Q I h => ?_⟩
  refine wpAny_Call_Name_kw (ld_glob I hg hm ?_ hdb)
  refine PySem.W.callWith_K (h₀ := X.base) I.ok.mod.kin hk
    (thn (ha.run pos pins s σ H _ I h) fun us s1 ⟨vs, H1, I1, r, q⟩ => ⟨I1.kIn, ?_⟩) he hpl
  have r2 : Vals (vs ++ dvs) (us ++ ds) := r.append hd
  have hl : (us ++ ds).length = ps.length := by
    rw [← r2.length]
    exact F.len _ _ _ _ q
  refine wpAny_call (codeAny_mono (F.run X.A X.stack s1 H1 ⟨us, []⟩ (us ++ ds) (vs ++ dvs) Q E hr hgu I1.env0
    (hb s1 us I1.kIn hl) r2 q) fun r s' hq => ?_)
  cases r with
  | error er => exact hx pins σ H1 s1 er s' I1 hq
  | ok fl =>
    cases fl with
    | ret u => exact I1.after hq
    | next => exact False.elim hq
    | brk => exact False.elim hq
    | cont => exact False.elim hq
/-! ### texts of things -/
/-- what stands at v reads as d -/
def Rdb (X : Cx) (H : Hp) (v : V) (d : PyData) : Prop :=
  ∀ (pins : List (Addr × Obj)) (σ : L2.St) (s : Shared), Inv X pins σ H s → ∀ u, RelV v u →
    ∃ as, Reads s.heap u d as ∧ (d.hasDict = true → sysModules ∉ as)
theorem rdb_dp {H : Hp} {v : V} {d : PyData} (h : Dp X.K H v d) (hn : d.hasDict = false) : Rdb X H v d :=
  fun pins σ s I u r => by
    obtain ⟨as, q⟩ := Dp.reads I d v u h r
    exact ⟨as, q, fun z => by rw [hn] at z; cases z⟩
/-- repr of a list or a tuple -/
def rRepr (X : Cx) : List V → Hp → VK → Prop := fun xs H Q => ∃ (a : Addr) (d : PyData), xs = [.ref a] ∧ Rdb X H (.ref a) d ∧
  d.showable = true ∧ d.depth ≤ 60 ∧ d.shown.length ≤ sizeLine ∧ Q (.str d.shown) H
theorem call_repr (hgu : X.A.guards = some []) (hu : X.A.units + 64 < cLine) : CallR X (.builtin "repr") (rRepr X) := by
  intro pins s σ H xs us Q I r h
  obtain ⟨a, d, rfl, hd, hs, hdp, hz, q⟩ := h
  obtain ⟨u, rfl, ru⟩ := vals1 r
  obtain ⟨as, rd, hm⟩ := hd pins σ s I u ru
  cases (show u = Value.ref a from ru)
  exact repr_of_reads' rd hs hm hgu (by omega) (fun _ _ z => z)
    (fun h' u' tk hk => ⟨.str d.shown, H, I.kept (t' := tk) hk, ⟨u', rfl⟩, q⟩) hz
end
end WG
end

section
set_option Elab.async false
set_option linter.all false
set_option maxRecDepth 100000
set_option maxHeartbeats 4000000
/-! Lists and tuples alike: slices, walks. -/
namespace WQ
open PySem PySem.Spec PyProof.Rows L2 RZ
def SeqA (K : PySem.W.Frag) (H : Hp) (a : Addr) (xs : List V) : Prop := SqL K H a xs ∨ SqT K H a xs
theorem SeqA.same {K : PySem.W.Frag} {H H' : Hp} {a : Addr} {xs : List V} (h : SeqA K H a xs) (s : Same H H') : SeqA K H' a xs := by
  rcases h with h | h
  · exact .inl (s.seq h)
  · exact .inr (SqT.ext h s)
theorem new_same {H : Hp} {p : Addr} {o : HO} (h : H p = none) : Same H (upd H p o) := fun b u e => by rw [upd_ne (ne_of_none e h)]; exact e
def rSlS (K : PySem.W.Frag) : V → Option Int → Option Int → Hp → VK → Prop := fun x lo hi H Q => ∃ a xs, x = .ref a ∧ SeqA K H a xs ∧
  ∀ (H' : Hp) (p : Addr), Same H H' → SeqA K H' p (cutV xs lo hi) → (∀ ys, SqT K H a ys → SqT K H' p (cutV xs lo hi)) → Q (.ref p) H'
theorem cut_whole {xs : List V} {lo hi : Option Int} (h : HT.sIx xs.length 0 lo = 0 ∧ HT.sIx xs.length xs.length hi = xs.length) : cutV xs lo hi = xs := by
  unfold cutV
  rw [h.1, h.2]
  simp
section
variable {X : Cx}
theorem sl_seqB : SlR X (rSlS X.K) := by
  intro pins s σ H x v vl vu lo hi sl Q I rx hs pl pu h
  obtain ⟨a, xs, rfl, hx, q⟩ := h
  rcases hx with hx | hx
  · refine sl_list pins s σ H _ v vl vu lo hi sl Q I rx hs pl pu ⟨a, xs, rfl, hx, fun p hp => q _ p (new_same hp) (.inl (SqL.of upd_same)) fun ys hy => ?_⟩
    obtain ⟨its, rv, pl1, _⟩ := I.list hx
    obtain ⟨its2, rv2, pt, _⟩ := I.tuple hy
    obtain ⟨o, e1, e2, _⟩ := pt
    obtain ⟨o', e1', e2', _⟩ := pl1.isList
    rw [e1] at e1'
    cases e1'
    rw [e2] at e2'
    exact absurd (Value.type.inj e2') (by decide)
  · refine sl_tupA pins s σ H _ v vl vu lo hi sl Q I rx hs pl pu ⟨a, xs, rfl, hx, fun w => ?_, fun _ p hp => q _ p (new_same hp) (.inr (SqT.of upd_same)) fun _ _ => SqT.of upd_same⟩
    have e := cut_whole w
    exact q H a (fun _ _ z => z) (by rw [e]; exact .inr hx) fun _ _ => by rw [e]; exact hx
end
end WQ
end

section
set_option Elab.async false
set_option linter.all false
set_option maxRecDepth 100000
set_option maxHeartbeats 4000000
/-! Errors that are caught, kept under a name and looked at behind the except suite. -/
namespace WT
open PySem PySem.Spec PyProof.Rows L2
/-- an error that was caught: its class, its own dict -/
def Caught (cls : Value) (d : Option Addr) (a : Addr) : HO := .ext fun h => ∃ (oe : Obj) (vs : Array Value), h.get? a = some oe ∧ Zc cls d oe ∧ oe.data = .fields vs
theorem caught_ok {P : Program} {w : World} {H : Hp} {h : Heap} {a : Addr} {cls : Value} {d : Option Addr} {oe : Obj} {vs : Array Value} (e : h.get? a = some oe) (z : Zc cls d oe) (k : oe.data = .fields vs) :
    ObjOk P w H h a (Caught cls d a) :=
  ⟨⟨oe, vs, e, z, k⟩, ⟨oe, e⟩, fun h1 h2 ⟨o, us, e1, z1, k1⟩ st => ⟨o, us, st _ e1, z1, k1⟩⟩
theorem upd_keep {H : Hp} {a b : Addr} {o u : HO} (na : H a = none) (e : H b = some u) : upd H a o b = some u := by
  rw [upd_ne (ne_of_none e na)]
  exact e
section
variable {X : Cx} {pins : List (Addr × Obj)} {σ : L2.St} {H : Hp} {s : Shared}
/-- an error's object, new since the entry, is tracked from now on -/
theorem track {a : Addr} {cls : Value} {d : Option Addr} {oe : Obj} {vs : Array Value} (I : Inv X pins σ H s) (n0 : X.s_0.heap.get? a = none)
    (e : s.heap.get? a = some oe) (z : Zc cls d oe) (k : oe.data = .fields vs) (na : H a = none) (nL : a ≠ X.env.locals) (np : ∀ p ∈ X.pn ++ pins, p.1 ≠ a) :
    Inv X pins σ (upd H a (Caught cls d a)) s where
  ok := I.ok
  os := I.os
  bare := I.bare
  base := {
    keep := I.base.keep
    slot := I.base.slot
    free := fun b o q n m => by
      have hb : b ≠ a := fun h => by rw [h, n0] at q; cases q
      rw [upd_ne hb]
      exact I.base.free b o q n m
    there := I.base.there
    tups := fun b xs q => upd_keep na (I.base.tups b xs q)
    frzs := fun b o u q => upd_keep na (I.base.frzs b o u q)
    tbls := fun b ps q => by
      obtain ⟨more, m⟩ := I.base.tbls b ps q
      exact ⟨more, upd_keep na m⟩ }
  loc := I.loc
  cell := I.cell
  free := by
    rw [upd_ne (Ne.symm nL)]
    exact I.free
  freeC := fun x c q => by
    have hc : c ≠ a := fun h => by
      obtain ⟨v, o, ho, hd⟩ := I.cell x c q
      rw [h, e] at ho
      cases ho
      rw [k] at hd
      cases hd
    rw [upd_ne hc]
    exact I.freeC x c q
  pin := fun p hp => by
    obtain ⟨p1, p2, p3, p4, p5⟩ := I.pin p hp
    exact ⟨p1, by rw [upd_ne (np p hp)]; exact p2, p3, p4, p5⟩
  hok := fun b o q => by
    by_cases hb : b = a
    · subst hb
      rw [upd_same] at q
      cases q
      exact caught_ok e z k
    · rw [upd_ne hb] at q
      exact (I.hok b o q).stay (fun c v _ r => r) (fun c r => upd_keep na r) fun c xs r => upd_keep na r
  len := I.len
/-- into an except suite, nothing pinned -/
theorem toSuite (I : Inv X pins σ H s) (a : Addr) : Inv (X.suite a (X.pn ++ pins)) [] σ H s :=
  ⟨I.ok.suite a _, I.os, I.bare, I.base, I.loc, I.cell, I.free, I.freeC, fun p hp => I.pin p (by rwa [List.append_nil] at hp), I.hok, I.len⟩
theorem ofSuite {a : Addr} {pn' : List (Addr × Obj)} (I : Inv (X.suite a (X.pn ++ pins)) pn' σ H s) (ok : X.Ok) : Inv X pins σ H s :=
  ⟨ok, I.os, I.bare, I.base, I.loc, I.cell, I.free, I.freeC, fun p hp => I.pin p (List.mem_append_left _ hp), I.hok, I.len⟩
end
/-- what is wished of an error of the body: the clause takes it, and its suite runs with the error tracked -/
def goneE (i : Nat) (D : Ends) : Ends :=
  { nx := fun σ H => D.nx (σ.set i none) H, rt := D.rt, bk := fun σ H => D.bk (σ.set i none) H, ct := fun σ H => D.ct (σ.set i none) H }
def wErr (K : PySem.W.Frag) (c : Value) (n i : Nat) (ts : TS) (D : Ends) : WX := fun cls d σ H =>
  PySem.W.exmOne K cls c = some true ∧ (σ.length = n → ∀ a, H a = none → ts (goneE i D) (σ.set i (some (.ref a))) (upd H a (Caught cls d a)))
section
variable {X : Cx} {x n : Str} {c : Value} {i : Nat} {body suite : List Stmt} {b0 : Stmt} {np q1 q2 : Pos} {tb : WX → TS} {ts : TS}
/-- try: body, except x as n: suite; every error of the body is of x -/
theorem ps_try_err (hs : X.stack = X.env :: X.outer) (hf : X.env.frame = some X.env.locals) (hx : X.ex = []) (hN : X.N.Nodup) (hi : X.N[i]? = some n)
    (hln : X.env.kindOf n = some .local) (hc : Names X x c)
    (hb : ∀ (W : WX) (pn : List (Addr × Obj)) (xe : Value → Shared → Prop), Takes (X.tr pn xe) W → PSs (X.tr pn xe) body (tb W))
    (hsu : ∀ (a : Addr) (pn : List (Addr × Obj)), PSs (X.suite a pn) (b0 :: suite) ts) :
    PS X (.Try body [.ExceptHandler (some (.Name x np)) (some n) (b0 :: suite) q2] [] [] q1) (fun D σ H => tb (wErr X.K c X.N.length i ts D) D σ H) := by
  refine ⟨fun pins s σ H D I h => ?_⟩
  have ok := I.ok
  have hfr : X.A.frames = some (X.env :: X.outer) := ok.frames.trans (congrArg some hs)
  refine wpAny_Try_except ?_
  refine wpAny_mono ((hb (wErr X.K c X.N.length i ts D) (X.pn ++ pins)
    (fun e t1 => wpAny (model X.prog X.w) X.A (noteFrame e X.env)
      (fun _ t2 => wpAny (model X.prog X.w) X.A (setFlight e none)
        (fun _ t3 => wpAny (model X.prog X.w) X.A (handleBy e X.env [.ExceptHandler (some (.Name x np)) (some n) (b0 :: suite) q2]) (SP X pins D) X.xe t3)
        X.xe t2) X.xe t1) (fun u t xx => ?_)).run [] s σ H D (I.toTry _) h) (fun f t hsp => ?_) (fun _ _ z => z)
  · obtain ⟨a, B, sI, pins', σ', H', cls, d, rfl, J0, nb, up, sky, na, os, ag, hb1, hyes⟩ := xx
    have J : Inv X pins σ' H' sI := J0.ofTry ok
    have sky1 : Sky B (X.env :: X.outer) a (Zc cls d) X.env.locals t.heap := hs ▸ sky
    show wpAny (model X.prog X.w) X.A (noteFrame (.ref a) X.env) _ _ _
    refine Sky.land Zc.steady hfr hf sky1 fun g3 fl3 up3 => ?_
    have J3 : Inv X pins σ' H' { t with heap := g3 } := J.landed nb fl3.1 (up.trans up3) os ag
    obtain ⟨oe3, vs3, he3, hz3, hd3⟩ := fl3.there
    have far : a ∉ frs (X.env :: X.outer) := fun hm => by
      obtain ⟨_, o1, e1, nf⟩ := fl3.2.2.1.mem hm
      rw [he3] at e1
      cases e1
      exact nf _ hd3
    have nL : a ≠ X.env.locals := fun z => far (List.mem_filterMap.mpr ⟨X.env, List.mem_cons_self, by rw [hf, z]⟩)
    have nI : sI.heap.get? a = none := by
      cases q : sI.heap.get? a with
      | none => rfl
      | some o =>
        have z := nb a o q (hs ▸ far)
        rw [fl3.2.1] at z
        cases z
    have n0 : X.s_0.heap.get? a = none := by
      cases q : X.s_0.heap.get? a with
      | none => rfl
      | some o =>
        obtain ⟨o1, z⟩ := J.base.there a o q (by rw [hx]; simp)
        rw [nI] at z
        cases z
    have npin : ∀ p ∈ X.pn ++ pins, p.1 ≠ a := fun p hp z => by
      have w := (J.pin p hp).1
      rw [z, nI] at w
      cases w
    have S3 := toSuite J3 a
    refine wpAny_handleBy_cons (codeAny_handlers_test ?_) (by intro q; cases q)
    have LT : PySem.W.Looks (model X.prog X.w) g3 (typeOf (.ref a)) cls := fun A Q E s1 k q => wpAny_typeOf_ref (k _ _ he3) (by rw [hz3.1]; exact q)
    have LM := PySem.W.exm_one (M := model X.prog X.w) (J3.kIn) LT hb1
    have test : ∀ {Q : Value → Shared → Prop} {E : Value → Shared → Prop}, Q c { t with heap := g3 } →
        wpAny (model X.prog X.w) (X.A.mark (some (.ref a))) (eval (.Name x np) X.env) Q E { t with heap := g3 } := by
      intro Q E q
      obtain ⟨hg, hdbg, hm | ⟨hm, hv, hnn⟩⟩ := hc
      · exact ld_glob (X := X.suite a (X.pn ++ pins)) S3 hg hm q hdbg
      · exact ld_blt (X := X.suite a (X.pn ++ pins)) S3 hg hm hv q hnn hdbg
    refine test (LM.here ?_)
    refine codeAny_handlers_suite_as ?_
    refine HandSPX.lands_againZ fl3 fun g4 fl4 up4 => ?_
    have J4 : Inv X pins σ' H' { t with heap := g4 } := J.landed nb fl4.1 ((up.trans up3).trans up4) os ag
    obtain ⟨oe4, vs4, he4, hz4, hd4⟩ := fl4.there
    have S4 := toSuite (track J4 n0 he4 hz4 hd4 na nL npin) a
    refine store_ok (X := X.suite a (X.pn ++ pins)) (v := .ref a) S4 hN hi (.inl hln) rfl (fun s5 S5 => ?_) (.inr hln)
    refine wpAny_mono ((hsu a (X.pn ++ pins)).run [] s5 _ _ _ S5 (hyes J.len a na)) (fun f s6 hsp => ?_) (fun _ _ z => False.elim z)
    have fin : ∀ {σ6 : L2.St} {H6 : Hp} {Q : Shared → Prop}, Inv (X.suite a (X.pn ++ pins)) [] σ6 H6 s6 → (∀ s7, Inv X pins (σ6.set i none) H6 s7 → Q s7) →
        wpAny (model X.prog X.w) X.A (do bindName X.env n .none; unbindBehindTheSuite X.env n q2) (fun _ s7 => Q s7) X.xe s6 :=
      fun S6 hq => gone_ok (ofSuite S6 ok) hN hi hln hq
    cases f with
    | next =>
      obtain ⟨σ6, H6, S6, r6⟩ := hsp
      exact fin S6 fun s7 J7 => ⟨_, _, J7, r6⟩
    | brk =>
      obtain ⟨σ6, H6, S6, r6⟩ := hsp
      exact fin S6 fun s7 J7 => ⟨_, _, J7, r6⟩
    | cont =>
      obtain ⟨σ6, H6, S6, r6⟩ := hsp
      exact fin S6 fun s7 J7 => ⟨_, _, J7, r6⟩
    | ret u =>
      obtain ⟨v6, σ6, H6, S6, rv6, r6⟩ := hsp
      exact fin S6 fun s7 J7 => ⟨_, _, _, J7, rv6, r6⟩
  · cases f with
    | next =>
      obtain ⟨σ1, H1, J1, r1⟩ := hsp
      exact wpAny_execs_nil ⟨σ1, H1, J1.ofTry ok, r1⟩
    | brk =>
      obtain ⟨σ1, H1, J1, r1⟩ := hsp
      exact ⟨σ1, H1, J1.ofTry ok, r1⟩
    | cont =>
      obtain ⟨σ1, H1, J1, r1⟩ := hsp
      exact ⟨σ1, H1, J1.ofTry ok, r1⟩
    | ret u =>
      obtain ⟨v1, σ1, H1, J1, rv1, r1⟩ := hsp
      exact ⟨v1, σ1, H1, J1.ofTry ok, rv1, r1⟩
end
/-! ### what is caught, looked at -/
/-- what an own error class says, so that instances can be asked -/
structure AskE (K : PySem.W.Frag) (C : Addr) : Prop where
  cl : (PySem.W.clsIn K C).isSome = true
  ga : PySem.W.findIn K (.ref C) "__getattribute__" = some (some (.builtin "BaseException.__getattribute__"))
  gt : PySem.W.findIn K (.ref C) "__getattr__" = some none
  sb : PySem.W.subIn K (.ref C) (.type "BaseException") = some true
  ca : PySem.W.findIn K (.ref C) "__class__" = some (some (.builtin "object.__class__"))
  cg : PySem.W.specialIn K (.builtin "object.__class__") "__get__" = some (some (.builtin "getset_descriptor.__get__"))
  ct : PySem.W.takesIn K (.builtin "object.__class__") = some true
  cm : PySem.W.mroIn K C (.type "object") = some true
inductive ErrC (H : Hp) (a C : Addr) : Option (Str × V) → Prop where
  | bare (h : H a = some (Caught (.ref C) none a)) : ErrC H a C none
  | with_ {d : Addr} {f : Str} {y : V} (h : H a = some (Caught (.ref C) (some d) a)) (hd : H d = some (.xd [(f, y)])) : ErrC H a C (some (f, y))
section
variable {X : Cx} {pins : List (Addr × Obj)} {σ : L2.St} {H : Hp} {s : Shared}
theorem errC_inst {a C : Addr} {o : Option (Str × V)} (I : Inv X pins σ H s) (e : ErrC H a C o) :
    ∃ ox od, PySem.W.InstAt s.heap a ox C od ∧ (∀ f y, o = some (f, y) → ∃ ob u, od = some ob ∧ RelV y u ∧ PySem.W.lookIn f ob = some (some u)) := by
  cases e with
  | bare h =>
    obtain ⟨⟨oe, vs, g1, z, g2⟩, _, _⟩ := I.hok a _ h
    refine ⟨oe, none, ⟨g1, z.1, ?_, ?_⟩, fun f y q => nomatch q⟩
    · unfold PySem.W.notCls
      rw [g2]
    · rw [z.2]
      trivial
  | @with_ d f y h hd =>
    obtain ⟨⟨oe, vs, g1, z, g2⟩, _, _⟩ := I.hok a _ h
    obtain ⟨mA, hn, rl⟩ := I.hok d _ hd
    obtain ⟨od, ho, hl⟩ := lookIn_ns hn
    refine ⟨oe, some od, ⟨g1, z.1, ?_, ?_⟩, fun f' y' q => ?_⟩
    · unfold PySem.W.notCls
      rw [g2]
    · rw [z.2]
      exact ho
    · cases q
      have r0 := rl f
      have e0 : List.lookup f [(f, y)] = some y := by simp [List.lookup]
      rw [e0] at r0
      obtain ⟨u, hu, ru⟩ := RelO.some_of (v := y) (o := mA f) r0
      exact ⟨od, u, rfl, ru, by rw [hl, hu]⟩
def rIsC (K : PySem.W.Frag) : List V → Hp → VK → Prop := fun xs H Q => ∃ (a C : Addr) (o : Option (Str × V)) (c : V) (cv : Value) (b : Bool),
  xs = [.ref a, c] ∧ ErrC H a C o ∧ ClsV c cv ∧ AskE K C ∧ PySem.W.kitOne K (.ref C) cv = some b ∧ Q (.bl b) H
/-- isinstance of a caught error, or of anything else that is told of -/
def rIsA (K : PySem.W.Frag) : List V → Hp → VK → Prop := fun xs H Q => rIsC K xs H Q ∨ rIsi K xs H Q
theorem call_isA : CallR X (.builtin "isinstance") (rIsA X.K) := by
  intro pins s σ H xs us Q I r h
  rcases h with ⟨a, C, o, c, cv, b, rfl, e, k, T, ek, q⟩ | h
  · obtain ⟨u1, u2, rfl, r1, r2⟩ := vals2 r
    have e2 := k.eq r2
    subst e2
    cases (show u1 = Value.ref a from r1)
    obtain ⟨ox, od, J, _⟩ := errC_inst I e
    exact PySem.W.kia_one (PySem.W.kitx_exc T.cl T.ga T.gt T.sb T.ca T.cg T.ct T.cm) I.kIn J ek (fun z => nomatch z) fun tk => ⟨.bl b, H, I.kept (t' := tk) fun _ _ z => z, rfl, q⟩
  · exact call_isi pins s σ H xs us Q I r h
/-- e.f of a caught error -/
def tCtF (K : PySem.W.Frag) (f : Str) (te : TE) : TE := fun σ H Q => te σ H fun x H1 => ∃ (a C : Addr) (y : V), x = .ref a ∧ ErrC H1 a C (some (f, y)) ∧ AskE K C ∧ PySem.W.hasDictIn K C = true ∧ PySem.W.findIn K (.ref C) f = some none ∧ Q y H1
theorem pe_ctF {e : Expr} {te : TE} {pos : Pos} {f : Str} (he : PE X e te) (hb : attributeBase e f X.env (eval e X.env) = eval e X.env := by rfl) : PE X (.Attribute e f pos) (tCtF X.K f te) := by
  refine ⟨fun pins s σ H Q I h => attr_of hb (thn (he.run pins s σ H _ I h) fun u s1 hh => ?_)⟩
  obtain ⟨x, H1, I1, rx, a, C, y, ex, ea, T, hdct, hno, q⟩ := hh
  subst ex
  obtain rfl : u = Value.ref a := rx
  obtain ⟨ox, od, J, hl⟩ := errC_inst I1 ea
  obtain ⟨ob, u, rfl, ru, l⟩ := hl _ _ rfl
  exact HandSPX.exc_get I1.kIn J T.ga T.gt T.sb (PySem.W.findObj_own hdct hno rfl l) (handed_of ru) ⟨y, H1, I1.tok _, ru, q⟩
end
/-! ### _law_caught(lambda: ..) -/
/-- what the def makes of the lambda's reading: None, or the error that was caught -/
def TTc (K : PySem.W.Frag) (W : Addr) : (XK → Hp → VK → Prop) → Hp → VK → Prop := fun tl H Q =>
  tl (fun cls d H' => PySem.W.exmOne K cls (.ref W) = some true ∧ ∀ a, H' a = none → Q (.ref a) (upd H' a (Caught cls d a))) H (fun _ H' => ∃ v, (some (some V.non) : Option (Option V)) = some (some v) ∧ Q v H')
abbrev nCaught : List Str := ["work", "caught", "error"]
theorem caught_gives {X : Cx} {q : Str} {sg : Scope} {g W : Addr} {cdg : Value} {j1 : Nat} {p1 p2 p3 p4 p5 p6 p7 p8 p9 p10 p11 p12 p13 p14 : Pos}
    (hge : sg.names.lookup ("WaitError" : Str) = some .globalImplicit) (hme : X.mg "WaitError" = some (.ref W)) (hl0 : sg.names.lookup ("work" : Str) = some .local) (hl1 : sg.names.lookup ("caught" : Str) = some .local) (hl2 : sg.names.lookup ("error" : Str) = some .local) :
    LamX.GivesTo X nCaught "_law_caught" sg g cdg [.Assign [.Name "caught" p1] (.Constant .none j1 p2) p3,
      .Try [.Expr (.Call (.Name "work" p4) [] [] p5) p6] [.ExceptHandler (some (.Name "WaitError" p7)) (some "error") [.Assign [.Name "caught" p8] (.Name "error" p9) p10] p11] [] [] p12,
      .Return (some (.Name "caught" p13)) p14] "work" q (TTc X.K W) := by
  intro f c' s H Q tl act hc h
  have nd : nCaught.Nodup := by decide +kernel
  refine ⟨_, pss_cons (ps_set (i := 1) nd rfl (Or.inl hl1) pe_non)
    (pss_cons (ps_try_err (X := (cxOf C8.CX0 X.prog X.w X.K X.mg X.base nCaught "_law_caught" sg g cdg X.A X.stack s H C8.E0).nox) (c := .ref W) (i := 2)
        (tb := fun W' D σ H => ∃ Ech : XK, (∀ cls d σ' H', Ech cls d H' → W' cls d σ' H') ∧ σ[0]? = some (some (.ref f)) ∧ H c' = some (LamX.CodeO c' q) ∧ tl Ech H (fun _ H' => D.nx σ H'))
        rfl rfl rfl nd rfl hl2 ⟨hge, by decide, .inl hme⟩ (fun W' pn xe tk => ?_) (fun a pn => pss_one (ps_set (i := 1) nd rfl (Or.inl hl1) (pe_var (i := 2) rfl (Or.inl hl2)))))
    (pss_one (ps_ret (pe_var (i := 1) rfl (Or.inl hl1))))), ?_⟩
  · refine ⟨fun pins s' σ H' D I h' => ?_⟩
    obtain ⟨Ech, hW, h1, h2, h3⟩ := h'
    exact (pss_one (ps_expr (pos := p6) (act W' pn xe Ech p4 p5 tk hW))).run pins s' σ H' D I ⟨h1, h2, h3⟩
  · refine ⟨_, fun cls d σ' H' h' => ?_, rfl, hc, h⟩
    obtain ⟨e1, e2⟩ := h'
    refine ⟨e1, fun hl a ha => ?_⟩
    match σ', hl with
    | [x0, x1, x2], _ => exact ⟨.ref a, rfl, .ref a, rfl, e2 a ha⟩
end WT
end

section
set_option Elab.async false
set_option linter.all false
set_option maxRecDepth 100000
set_option maxHeartbeats 4000000
/-! ranges with a step above 0: walked, and as the list of their numbers -/
namespace L2
open PySem PySem.Spec PyProof.Rows
theorem rangeSize_up {i j c : Int} (hc : 0 < c) {n : Nat} (h1 : j - i ≤ n * c) (h2 : ∀ m : Nat, m < n → i + m * c < j) : Builtin.Range.rangeSize i j c = n := by
  unfold Builtin.Range.rangeSize
  rw [if_pos hc]
  split
  · rename_i l
    have hn : 0 < n := by
      rcases Nat.eq_zero_or_pos n with z | z
      · subst z
        simp at h1
        omega
      · exact z
    have h3 := h2 (n - 1) (by omega)
    have e1 : ((n - 1 : Nat) : Int) = (n : Int) - 1 := by omega
    rw [e1] at h3
    have e : (j - i - 1) / c = (n : Int) - 1 := by
      refine (Int.ediv_eq_iff_of_pos hc).mpr ⟨?_, ?_⟩
      · omega
      · have : ((n : Int) - 1) * c + c = n * c := by rw [Int.sub_mul]; omega
        omega
    omega
  · rename_i l
    rcases Nat.eq_zero_or_pos n with z | z
    · subst z
      rfl
    · have h3 := h2 0 z
      simp at h3
      omega
/-- the turns of range(i, j, c), c of any size below 2 ^ 60 -/
structure RgW (i j c : Int) (n : Nat) : Prop where
  c0 : c ≠ 0
  c1 : c.natAbs.log2 < 9000
  sm : Builtin.Range.small i j c = true
  sz : Builtin.Range.rangeSize i j c = n
theorem RgW.up {i j c : Int} {n : Nat} (hi : -(2 ^ 60) ≤ i) (hi' : i < 2 ^ 60) (hj : -(2 ^ 60) ≤ j) (hj' : j < 2 ^ 60) (hc : 0 < c) (hc' : c < 2 ^ 60) (hn : n < 2 ^ 60) (h1 : j - i ≤ n * c) (h2 : ∀ m : Nat, m < n → i + m * c < j) : RgW i j c n := by
  have z := rangeSize_up hc h1 h2
  refine ⟨by omega, ?_, ?_, z⟩
  · have : c.natAbs.log2 < 60 := (Nat.log2_lt (by omega)).mpr (by omega)
    omega
  · unfold Builtin.Range.small
    rw [z]
    simp only [Builtin.Range.rangeFitsLong, Bool.and_eq_true, Bool.or_eq_true, decide_eq_true_eq, beq_iff_eq, if_pos hc]
    omega
def iRngW (ta : TA) : TI := fun σ H R => ta σ H fun vs H1 => ∃ (i j c : Int) (n : Nat), vs = [.int i, .int j, .int c] ∧ RgW i j c n ∧ R (Itc i c n) H1
section
variable {X : Cx} {tg : Expr}
theorem pi_rangeW {a b c : Expr} {ta : TA} {p pos : Pos} (hg : Gl X "range") (hm : X.mg "range" = none) (ha : PA X [a, b, c] ta)
    (hs : starEach [a, b, c] X.env = (false, eval a X.env) :: starEach [b, c] X.env := by rfl) (hpl : (backTo pos (starEach [b, c] X.env)).any (·.1) = false := by rfl) :
    PI X tg (.Call (.Name "range" p) [a, b, c] [] pos) (iRngW ta) := by
  refine ⟨fun pins s σ H R I h => ?_⟩
  refine Call_ (ld_blt I hg hm boot_range (PyProof.Rows.callWith_type1 (thn (ha.run pos pins s σ H _ I h) fun us s1 ⟨vs, H1, I1, r1, q1⟩ => ?_) hs hpl))
  obtain ⟨i, j, k, n, e, ⟨c0, c1, c2, c3⟩, q⟩ := q1
  subst e
  cases r1 with
  | cons r rr =>
    cases rr with
    | cons r' rr =>
      cases rr with
      | cons r'' rr =>
        cases rr
        obtain ⟨t, rfl⟩ := r
        obtain ⟨t', rfl⟩ := r'
        obtain ⟨t'', rfl⟩ := r''
        refine call_range_3 c0 ?_ (.inl (PyProof.noPylong_of_log2 c1))
        refine wpAny_pyIter_range (IsRange.new ..) c2 ?_
        have I2 : Inv X pins σ H1 { s1 with heap := s1.heap.push { cls := .type "range", data := .fields #[.int i t, .int j t', .int k t''] } } := I1.kept (t' := s1.toks) fun b o e => Heap.get?_push_of_some _ e
        refine pi_one (tk := s1.toks) I2 _ (turn_rangeC _ i k n) ?_ q
        have e1 : i + ((0 : Nat) : Int) * k = i := by simp
        have e2 : (n : Int) - ((0 : Nat) : Int) = Builtin.Range.rangeSize i j k := by rw [c3]; simp
        show IsRangeIter _ _ (i + ((0 : Nat) : Int) * k) ((n : Int) - ((0 : Nat) : Int)) k
        rw [e1, e2]
        exact Heap.get?_push_size _ rfl
/-- list(range(i, j, c)) -/
def rgC (i c : Int) (n : Nat) : List V := (List.range n).map fun (m : Nat) => V.int (i + m * c)
theorem rgC_length (i c : Int) (n : Nat) : (rgC i c n).length = n := by unfold rgC; rw [List.length_map, List.length_range]
def tLstRgW (ta : TA) : TE := fun σ H Q => ta σ H fun vs H1 => ∃ (i j c : Int) (n : Nat), vs = [.int i, .int j, .int c] ∧ RgW i j c n ∧ n ≤ 1000000 ∧ ∀ q, H1 q = none → Q (.ref q) (upd H1 q (.lst (rgC i c n)))
theorem pe_listRgW {a b c : Expr} {ta : TA} {p pos p' pos' : Pos} (hcm : X.calm = true) (hgl : Gl X "list") (hml : X.mg "list" = none) (hg : Gl X "range") (hm : X.mg "range" = none) (ha : PA X [a, b, c] ta)
    (hs : starEach [a, b, c] X.env = (false, eval a X.env) :: starEach [b, c] X.env := by rfl) (hpl : (backTo pos' (starEach [b, c] X.env)).any (·.1) = false := by rfl)
    (na : starEach [Expr.Call (.Name "range" p') [a, b, c] [] pos'] X.env = (false, eval (.Call (.Name "range" p') [a, b, c] [] pos') X.env) :: starEach [] X.env := by rfl) :
    PE X (.Call (.Name "list" p) [.Call (.Name "range" p') [a, b, c] [] pos'] [] pos) (tLstRgW ta) := by
  refine ⟨fun pins s σ H Q I h => ?_⟩
  refine Call_ (ld_blt I hgl hml boot_list (PyProof.Rows.callWith_type1 (args_cons ?_ na) na))
  refine Call_ (ld_blt I hg hm boot_range (PyProof.Rows.callWith_type1 (thn (ha.run pos' pins s σ H _ I h) fun us s1 ⟨vs, H1, I1, r1, q1⟩ => ?_) hs hpl))
  obtain ⟨i, j, k, n, ev, ⟨c0, c1, c2, c3⟩, hn, q⟩ := q1
  subst ev
  cases r1 with
  | cons r rr =>
    cases rr with
    | cons r' rr =>
      cases rr with
      | cons r'' rr =>
        cases rr
        obtain ⟨t, rfl⟩ := r
        obtain ⟨t', rfl⟩ := r'
        obtain ⟨t'', rfl⟩ := r''
        refine call_range_3 c0 ?_ (.inl (PyProof.noPylong_of_log2 c1))
        have I2 : Inv X pins σ H1 { s1 with heap := s1.heap.push { cls := .type "range", data := .fields #[.int i t, .int j t', .int k t''] } } := I1.kept (t' := s1.toks) fun b o e => Heap.get?_push_of_some _ e
        refine args_nil ?_
        refine call_list_range (n := n) (I2.ok.hd hcm) (IsRange.new ..) c2 c3 (Nat.le_trans hn (by decide)) fun h' tk acc c' hk e' hi => ?_
        refine ⟨.ref _, upd H1 _ (.lst (rgC i k n)), I2.laid hk (Nat.le_refl _) (show ObjOk X.prog X.w _ _ _ (.lst (rgC i k n)) from ⟨?_, acc.toList, c', ?_, ?_⟩), rfl, q _ (I2.hok.fresh (Nat.le_refl _))⟩
        · rw [rgC_length, sizeLine_eq]; omega
        · have e : acc.toList.length = n := by rw [Array.length_toList]; exact hi.1
          unfold rgC
          rw [← e]
          refine vals_of_get acc.toList _ fun j u hj => ?_
          obtain ⟨t, rfl⟩ := hi.2 j u (by rw [← hj, Array.getElem?_toList])
          exact ⟨t, rfl⟩
        · rw [Array.toArray_toList]; exact e'
end
end L2
end

section
set_option linter.all false
/-! least forms of rows that go on by one period: mathematics alone -/
namespace MF
def QP (f : Nat → Int) (q : Nat) (r : Int) (b : Nat) : Prop := ∀ j, b ≤ j → f (j + q) = f j + r
def D (f : Nat → Int) (i : Nat) : Int := f (i + 1) - f i
def DP (f : Nat → Int) (q b : Nat) : Prop := ∀ j, b ≤ j → D f (j + q) = D f j
theorem QP.mul {f : Nat → Int} {q : Nat} {r : Int} {b : Nat} (h : QP f q r b) {j : Nat} (hj : b ≤ j) : ∀ k : Nat, f (j + k * q) = f j + k * r
  | 0 => by simp
  | k + 1 => by
    have e : j + (k + 1) * q = (j + k * q) + q := by rw [Nat.succ_mul]; omega
    rw [e, h _ (by omega), h.mul hj k]
    have : ((k + 1 : Nat) : Int) * r = (k : Int) * r + r := by rw [Int.natCast_add, Int.add_mul]; simp
    omega
theorem DP.mul {f : Nat → Int} {q b : Nat} (h : DP f q b) {j : Nat} (hj : b ≤ j) : ∀ k : Nat, D f (j + k * q) = D f j
  | 0 => by simp
  | k + 1 => by
    have e : j + (k + 1) * q = (j + k * q) + q := by rw [Nat.succ_mul]; omega
    rw [e, h _ (by omega), h.mul hj k]
theorem QP.dp {f : Nat → Int} {q : Nat} {r : Int} {b : Nat} (h : QP f q r b) : DP f q b := by
  intro j hj
  have h1 := h j hj
  have h2 := h (j + 1) (by omega)
  have e : j + 1 + q = j + q + 1 := by omega
  rw [e] at h2
  unfold D
  omega
theorem DP.qp {f : Nat → Int} {q b : Nat} (h : DP f q b) : QP f q (f (b + q) - f b) b := by
  have key : ∀ k : Nat, f (b + k + q) = f (b + k) + (f (b + q) - f b) := by
    intro k
    induction k with
    | zero => show f (b + 0 + q) = _; rw [Nat.add_zero]; omega
    | succ k ih =>
      have d := h (b + k) (by omega)
      unfold D at d
      have e : b + (k + 1) + q = b + k + q + 1 := by omega
      have e2 : b + (k + 1) = b + k + 1 := by omega
      rw [e, e2]
      omega
  intro j hj
  have := key (j - b)
  have e : b + (j - b) = j := by omega
  rw [e] at this
  exact this
/-- from some place on -/
def DE (f : Nat → Int) (q : Nat) : Prop := ∃ b, DP f q b
theorem DE.mod {f : Nat → Int} {m n : Nat} (hm : DE f m) (hn : DE f n) : DE f (n % m) := by
  obtain ⟨b, h1⟩ := hm
  obtain ⟨c, h2⟩ := hn
  refine ⟨b + c, fun j hj => ?_⟩
  have a1 := h1.mul (j := j + n % m) (by omega) (n / m)
  have a2 := h2 j (by omega)
  have e : j + n % m + n / m * m = j + n := by
    have := Nat.mod_add_div n m
    rw [Nat.mul_comm] at this
    omega
  rw [e] at a1
  rw [← a1, a2]
theorem DE.gcd {f : Nat → Int} : ∀ (m n : Nat), DE f m → DE f n → DE f (Nat.gcd m n) := by
  intro m n
  induction m, n using Nat.gcd.induction with
  | H0 n => intro _ h; rw [Nat.gcd_zero_left]; exact h
  | H1 m n hm ih =>
    intro h1 h2
    rw [Nat.gcd_rec]
    exact ih (h1.mod h2) h1
theorem DP.pull {f : Nat → Int} {p b e : Nat} (hp : 0 < p) (h : DP f p b) (he : DE f e) : DP f e b := by
  obtain ⟨c, hc⟩ := he
  intro j hj
  have a1 := h.mul (j := j + e) (by omega) c
  have a2 := h.mul hj c
  have g : c ≤ j + c * p := by
    have : c * 1 ≤ c * p := Nat.mul_le_mul_left c hp
    omega
  have a3 := hc (j + c * p) g
  have e1 : j + c * p + e = j + e + c * p := by omega
  rw [e1] at a3
  rw [← a1, a3, a2]
/-- the least form's parts -/
structure IsForm (f : Nat → Int) (q : Nat) (r : Int) (b : Nat) : Prop where
  pos : 0 < q
  qp : QP f q r b
  least : ∀ q', 0 < q' → DE f q' → q ≤ q'
  low : b = 0 ∨ f (b - 1 + q) ≠ f (b - 1) + r
theorem QP.rise {f : Nat → Int} {q : Nat} {r r' : Int} {b b' : Nat} (h : QP f q r b) (h' : QP f q r' b') : r = r' := by
  have a1 := h (b + b') (by omega)
  have a2 := h' (b + b') (by omega)
  omega
theorem IsForm.uniq {f : Nat → Int} {q q' : Nat} {r r' : Int} {b b' : Nat} (h : IsForm f q r b) (h' : IsForm f q' r' b') : q = q' ∧ r = r' ∧ b = b' := by
  have e : q = q' := Nat.le_antisymm (h.least _ h'.pos ⟨_, h'.qp.dp⟩) (h'.least _ h.pos ⟨_, h.qp.dp⟩)
  subst e
  have e2 := h.qp.rise h'.qp
  subst e2
  refine ⟨rfl, rfl, ?_⟩
  have lt : ∀ {b b' : Nat}, IsForm f q r b → IsForm f q r b' → ¬ b < b' := by
    intro b b' h h' l
    rcases h'.low with z | z
    · omega
    · exact z (h.qp (b' - 1) (by omega))
  have h1 := lt h h'
  have h2 := lt h' h
  omega
theorem IsForm.same {f f' : Nat → Int} {q : Nat} {r : Int} {b : Nat} (h : IsForm f q r b) (e : ∀ j, f j = f' j) : IsForm f' q r b := by
  have : f = f' := funext e
  rw [← this]
  exact h
theorem QP.ext {f f' : Nat → Int} {q : Nat} {r : Int} {b : Nat} (hq : 0 < q) (h : QP f q r b) (h' : QP f' q r b) (e : ∀ j, j < b + q → f j = f' j) : ∀ j, f j = f' j := by
  intro j
  induction j using Nat.strongRecOn with
  | ind j ih =>
    by_cases l : j < b + q
    · exact e j l
    · have i := ih (j - q) (by omega)
      have a1 := h (j - q) (by omega)
      have a2 := h' (j - q) (by omega)
      have e1 : j - q + q = j := by omega
      rw [e1] at a1 a2
      omega
/-- equal up to far: equal -/
theorem QP.far {f f' : Nat → Int} {p p' : Nat} {g g' : Int} {b b' c : Nat} (hp : 0 < p) (hp' : 0 < p') (h : QP f p g b) (h' : QP f' p' g' b') (hc : b < c) (hc' : b' < c)
    (e : ∀ j, j < c + p * p' → f j = f' j) : ∀ j, f j = f' j := by
  have P : 0 < p * p' := Nat.mul_pos hp hp'
  have q1 : QP f (p * p') (p' * g) (c - 1) := by
    intro j hj
    have := h.mul (j := j) (by omega) p'
    rw [Nat.mul_comm] at this
    exact this
  have q2 : QP f' (p * p') (p * g') (c - 1) := by
    intro j hj
    exact h'.mul (j := j) (by omega) p
  have r : (p' : Int) * g = p * g' := by
    have a1 := q1 (c - 1) (by omega)
    have a2 := q2 (c - 1) (by omega)
    have a3 := e (c - 1) (by omega)
    have a4 := e (c - 1 + p * p') (by omega)
    omega
  rw [r] at q1
  exact q1.ext P q2 (fun j hj => e j (by omega))
/-! ### the way to it: steps that divide the period -/
/-- what the program asks of a step -/
def A (f : Nat → Int) (b p s : Nat) : Prop := p % s = 0 ∧ ∀ i, i < p - s → D f (b + i + s) = D f (b + i)
theorem A.dp {f : Nat → Int} {b p s : Nat} (hs : 0 < s) (hsp : s ≤ p) (h : DP f p b) (a : A f b p s) : DP f s b := by
  obtain ⟨hd, ha⟩ := a
  have hp : 0 < p := by omega
  -- up the steps
  have up : ∀ (k j : Nat), j + k * s < p → D f (b + (j + k * s)) = D f (b + j) := by
    intro k
    induction k with
    | zero => intro j _; simp
    | succ k ih =>
      intro j hj
      have e : j + (k + 1) * s = j + k * s + s := by rw [Nat.succ_mul]; omega
      have h1 := ha (j + k * s) (by omega)
      have e2 : b + (j + (k + 1) * s) = b + (j + k * s) + s := by omega
      rw [e2, h1]
      exact ih j (by omega)
  -- within one period
  have base : ∀ i, i < p → D f (b + i + s) = D f (b + i) := by
    intro i hi
    by_cases l : i < p - s
    · exact ha i l
    · have hm : p = p / s * s := by
        have := Nat.mod_add_div p s
        rw [hd, Nat.mul_comm] at this
        omega
      have hk : 0 < p / s := Nat.div_pos hsp hs
      have e0 : p - s = (p / s - 1) * s := by rw [Nat.sub_mul, ← hm]; omega
      have j := i - (p - s)
      have u := up (p / s - 1) (i - (p - s)) (by rw [← e0]; omega)
      rw [← e0] at u
      have e1 : i - (p - s) + (p - s) = i := by omega
      rw [e1] at u
      have w := h (b + (i - (p - s))) (by omega)
      have e2 : b + (i - (p - s)) + p = b + i + s := by omega
      rw [e2] at w
      rw [w, u]
  intro j hj
  have e : j = b + (j - b) % p + (j - b) / p * p := by
    have := Nat.mod_add_div (j - b) p
    rw [Nat.mul_comm] at this
    omega
  have m := base ((j - b) % p) (Nat.mod_lt _ hp)
  have a1 := h.mul (j := b + (j - b) % p) (by omega) ((j - b) / p)
  have a2 := h.mul (j := b + (j - b) % p + s) (by omega) ((j - b) / p)
  have e2 : b + (j - b) % p + s + (j - b) / p * p = j + s := by omega
  rw [← e] at a1
  rw [e2] at a2
  rw [a1, a2, m]
theorem A.of_dp {f : Nat → Int} {b p s : Nat} (hd : p % s = 0) (h : DP f s b) : A f b p s := ⟨hd, fun i _ => h (b + i) (by omega)⟩
/-- the first step that is right is the least of all -/
theorem least_of {f : Nat → Int} {b p s : Nat} (hp : 0 < p) (h : DP f p b) (hs : 0 < s) (hsp : s ≤ p) (hmin : ∀ t, 0 < t → t < s → ¬ A f b p t) : ∀ q', 0 < q' → DE f q' → s ≤ q' := by
  intro q hq hq'
  have ge : DE f (Nat.gcd p q) := DE.gcd p q ⟨b, h⟩ hq'
  have gp : 0 < Nat.gcd p q := Nat.gcd_pos_of_pos_left _ hp
  have gq : Nat.gcd p q ≤ q := Nat.le_of_dvd hq (Nat.gcd_dvd_right p q)
  have gd : p % Nat.gcd p q = 0 := Nat.mod_eq_zero_of_dvd (Nat.gcd_dvd_left p q)
  by_cases l : Nat.gcd p q < s
  · exact absurd (A.of_dp gd (h.pull hp ge)) (hmin _ gp l)
  · omega
/-- what a right step rises by -/
theorem rise_of {f : Nat → Int} {b p s : Nat} {g : Int} (hs : 0 < s) (hsp : s ≤ p) (h : QP f p g b) (hd : p % s = 0) (ds : DP f s b) :
    g * s = (f (b + s) - f b) * p := by
  have q := ds.qp
  have m := q.mul (j := b) (by omega) (p / s)
  have hm : p / s * s = p := by
    have := Nat.mod_add_div p s
    rw [hd, Nat.mul_comm] at this
    omega
  rw [hm] at m
  have hh := h b (by omega)
  have e : g = ((p / s : Nat) : Int) * (f (b + s) - f b) := by omega
  have hm' : ((p / s : Nat) : Int) * (s : Int) = (p : Int) := by
    rw [← Int.natCast_mul, hm]
  calc g * s = ((p / s : Nat) : Int) * (f (b + s) - f b) * s := by rw [← e]
    _ = (f (b + s) - f b) * (((p / s : Nat) : Int) * s) := by rw [Int.mul_comm ((p / s : Nat) : Int), Int.mul_assoc]
    _ = _ := by rw [hm']
/-- what the law asks of a part: the values of two periods -/
def B (f : Nat → Int) (b p s : Nat) (m : Int) : Prop := ∀ k, s ≤ k → k < 2 * p → f (b + k) = f (b + (k - s)) + m
theorem B.a {f : Nat → Int} {b p s : Nat} {m : Int} (hs : 0 < s) (hd : p % s = 0) (h : B f b p s m) : A f b p s := by
  refine ⟨hd, fun i hi => ?_⟩
  have h1 := h (i + s) (by omega) (by omega)
  have h2 := h (i + s + 1) (by omega) (by omega)
  have e1 : i + s - s = i := by omega
  have e2 : i + s + 1 - s = i + 1 := by omega
  rw [e1] at h1
  rw [e2] at h2
  have e3 : b + (i + s) = b + i + s := by omega
  have e4 : b + (i + s + 1) = b + i + s + 1 := by omega
  have e5 : b + (i + 1) = b + i + 1 := by omega
  rw [e3] at h1
  rw [e4, e5] at h2
  unfold D
  omega
theorem B.of_qp {f : Nat → Int} {b p s : Nat} {m : Int} (h : QP f s m b) : B f b p s m := by
  intro k hk _
  have := h (b + (k - s)) (by omega)
  have e : b + (k - s) + s = b + k := by omega
  rw [e] at this
  exact this
/-- going down -/
def down (P : Nat → Bool) : Nat → Nat
  | 0 => 0
  | b + 1 => if P b then down P b else b + 1
theorem down_le (P : Nat → Bool) : ∀ b, down P b ≤ b
  | 0 => Nat.le_refl _
  | b + 1 => by
    unfold down
    split
    · exact Nat.le_succ_of_le (down_le P b)
    · exact Nat.le_refl _
theorem down_all (P : Nat → Bool) : ∀ b j, down P b ≤ j → j < b → P j = true
  | 0, j, _, h => absurd h (Nat.not_lt_zero j)
  | b + 1, j, h1, h2 => by
    unfold down at h1
    split at h1
    · rename_i hb
      by_cases e : j = b
      · rw [e]; exact hb
      · exact down_all P b j h1 (by omega)
    · omega
theorem down_low (P : Nat → Bool) : ∀ b, down P b = 0 ∨ P (down P b - 1) = false
  | 0 => .inl rfl
  | b + 1 => by
    unfold down
    split
    · exact down_low P b
    · rename_i hb
      exact .inr (by simpa using hb)
theorem form_of {f : Nat → Int} {b p s : Nat} {g : Int} (hp : 0 < p) (h : QP f p g b) (hs : 0 < s) (hsp : s ≤ p) (hA : A f b p s) (hmin : ∀ t, 0 < t → t < s → ¬ A f b p t) :
    IsForm f s (f (b + s) - f b) (down (fun j => decide (f (j + s) = f j + (f (b + s) - f b))) b) := by
  have ds := hA.dp hs hsp h.dp
  refine ⟨hs, fun j hj => ?_, least_of hp h.dp hs hsp hmin, ?_⟩
  · by_cases l : j < b
    · exact of_decide_eq_true (down_all _ b j hj l)
    · exact ds.qp j (by omega)
  · rcases down_low (fun j => decide (f (j + s) = f j + (f (b + s) - f b))) b with z | z
    · exact .inl z
    · exact .inr (of_decide_eq_false z)
/-- the period itself is right -/
theorem A.self {f : Nat → Int} {b p : Nat} : A f b p p := ⟨Nat.mod_self p, fun i hi => by omega⟩
/-- the row's value function -/
def at_ (s : List Int) (p : Nat) (g : Int) (b : Nat) : Int :=
  if b < s.length then s.getD b 0 else s.getD (b - ((b - s.length) / p + 1) * p) 0 + ((b - s.length) / p + 1 : Nat) * g
theorem at_qp {s : List Int} {p : Nat} {g : Int} (hp : 0 < p) (hn : p ≤ s.length) : QP (at_ s p g) p g (s.length - p) := by
  intro j hj
  unfold at_
  by_cases l : j < s.length
  · have e0 : (j + p - s.length) / p = 0 := Nat.div_eq_of_lt (by omega)
    rw [if_pos l, if_neg (by omega), e0]
    have e1 : j + p - (0 + 1) * p = j := by omega
    rw [e1]
    simp
  · have e0 : (j + p - s.length) / p = (j - s.length) / p + 1 := by
      have : j + p - s.length = (j - s.length) + p := by omega
      rw [this, Nat.add_div_right _ hp]
    rw [if_neg l, if_neg (by omega), e0]
    have e1 : j + p - ((j - s.length) / p + 1 + 1) * p = j - ((j - s.length) / p + 1) * p := by
      rw [Nat.succ_mul ((j - s.length) / p + 1)]
      omega
    rw [e1]
    have : (((j - s.length) / p + 1 + 1 : Nat) : Int) * g = (((j - s.length) / p + 1 : Nat) : Int) * g + g := by
      rw [Int.natCast_add, Int.add_mul]; simp
    omega
theorem at_low {s : List Int} {p : Nat} {g : Int} {b : Nat} (h : b < s.length) : at_ s p g b = s.getD b 0 := if_pos h
end MF
end

section
set_option linter.all false
/-! least steps: all that is asked of a step is asked of a part of the period that the growth allows -/
namespace MF
theorem A.dvd {f : Nat → Int} {b p s : Nat} {g : Int} (hp : 0 < p) (h : QP f p g b) (hs : 0 < s) (hsp : s ≤ p) (a : A f b p s) : p / Nat.gcd p g.natAbs ∣ s := by
  have ds := a.dp hs hsp h.dp
  have r := rise_of hs hsp h a.1 ds
  have d : (p : Int) ∣ g * s := ⟨f (b + s) - f b, by rw [r, Int.mul_comm]⟩
  have d2 : p ∣ g.natAbs * s := by
    have := Int.natAbs_dvd_natAbs.mpr d
    rw [Int.natAbs_mul] at this
    exact this
  have hG : 0 < Nat.gcd p g.natAbs := Nat.gcd_pos_of_pos_left _ hp
  have c := Nat.coprime_div_gcd_div_gcd hG
  refine c.dvd_of_dvd_mul_left ?_
  obtain ⟨k, hk⟩ := d2
  refine ⟨k, ?_⟩
  refine Nat.eq_of_mul_eq_mul_left hG ?_
  have e1 : Nat.gcd p g.natAbs * (p / Nat.gcd p g.natAbs) = p := Nat.mul_div_cancel' (Nat.gcd_dvd_left ..)
  have e2 : Nat.gcd p g.natAbs * (g.natAbs / Nat.gcd p g.natAbs) = g.natAbs := Nat.mul_div_cancel' (Nat.gcd_dvd_right ..)
  rw [← Nat.mul_assoc, ← Nat.mul_assoc, e1, e2, hk]
theorem step_pos {p g : Nat} (hp : 0 < p) : 0 < p / Nat.gcd p g := Nat.div_pos (Nat.le_of_dvd hp (Nat.gcd_dvd_left ..)) (Nat.gcd_pos_of_pos_left _ hp)
theorem step_le {p g : Nat} : p / Nat.gcd p g ≤ p := Nat.div_le_self ..
end MF
end

section
set_option Elab.async false
set_option linter.all false
set_option maxRecDepth 100000
set_option maxHeartbeats 4000000
namespace WW
open PySem L2 WO WG RZ WQ
abbrev sNum : Stmt := top 9
abbrev sAre : Stmt := top 10
abbrev sFrom : Stmt := top 11
abbrev sIsList : Stmt := top 12
abbrev sCurve : Stmt := top 19
abbrev sAbove : Stmt := top 20
abbrev sStart : Stmt := top 21
abbrev sFalls : Stmt := top 22
abbrev sForm : Stmt := top 23
abbrev sStep : Stmt := top 24
theorem same_new {H : Hp} {p : Addr} {o : HO} (h : H p = none) : Same H (upd H p o) := fun b u e => by rw [upd_ne (ne_of_none e h)]; exact e
theorem alloc {H H' : Hp} {p : Addr} {o : HO} (e : upd H p o = H') (h : H p = none) : Same H H' ∧ H' p = some o := by
  subst e
  exact ⟨same_new h, upd_same⟩
theorem seqT {K : PySem.W.Frag} {H H' : Hp} {a : Addr} {xs : List V} (s : Same H H') (h : SqT K H a xs) : SqT K H' a xs := SqT.ext h s
theorem tyX_seqL {K : PySem.W.Frag} {H : Hp} {a : Addr} {xs : List V} (h : SqL K H a xs) : TyX K H (.ref a) (.type "list") := by
  rcases h with (h | ⟨o, h⟩) | ⟨o, its, n, h, hc, -⟩
  · exact .base (.lst h)
  · exact .base (.frz h)
  · exact .kList h hc
theorem tyX_seqT {K : PySem.W.Frag} {H : Hp} {a : Addr} {xs : List V} (h : SqT K H a xs) : TyX K H (.ref a) (.type "tuple") := by
  rcases h with (h | ⟨o, h⟩) | ⟨o, its, n, h, hc, -⟩
  · exact .base (.tup h)
  · exact .fTuple h
  · exact .kTuple h hc
theorem bT {p : Prop} [Decidable p] (h : p) : V.bl (decide p) = V.bl true := by rw [decide_eq_true h]
theorem bF {p : Prop} [Decidable p] (h : ¬ p) : V.bl (decide p) = V.bl false := by rw [decide_eq_false h]
theorem all_rep (n : Nat) : (List.replicate n true).all id = true := by
  induction n with
  | zero => rfl
  | succ n ih => rw [List.replicate_succ, List.all_cons, ih]; rfl
theorem any_rep (n : Nat) : (List.replicate n false).any id = false := by
  induction n with
  | zero => rfl
  | succ n ih => rw [List.replicate_succ, List.any_cons, ih]; rfl
def reps (b : Bool) (n : Nat) : List V := (List.replicate n b).map V.bl
theorem reps_snoc (b : Bool) (n : Nat) : reps b n ++ [.bl b] = reps b (n + 1) := by
  unfold reps
  rw [List.replicate_succ', List.map_append]
  rfl
theorem reps_len (b : Bool) (n : Nat) : (reps b n).length = n := by unfold reps; rw [List.length_map, List.length_replicate]
theorem cut1 {xs : List V} (h : 1 ≤ xs.length) : cutV xs (some 1) none = xs.drop 1 := by
  have e : HT.sIx xs.length 0 (some 1) = 1 := by
    unfold HT.sIx
    dsimp only
    rw [if_neg (by decide)]
    show min 1 xs.length = 1
    omega
  unfold cutV
  rw [e]
  show (xs.drop 1).take (xs.length - 1) = _
  exact List.take_of_length_le (by rw [List.length_drop]; exact Nat.le_refl _)
/-! ### flat values and their kinds -/
def numV : V → Bool
  | .int _ => true
  | _ => false
/-- x's kind, as the isinstance of int and of bool sees it: b says whether it is a number -/
def NumT (K : PySem.W.Frag) (H : Hp) (x : V) (b : Bool) : Prop :=
  ∃ (t : Value) (b1 b2 : Bool), TyX K H x t ∧ PySem.W.kitOne K t (.type "int") = some b1 ∧ PySem.W.kitOne K t (.type "bool") = some b2 ∧ (b1 && !b2) = b
theorem numT_flat {K : PySem.W.Frag} {H : Hp} {x : V} (h : flatV x = true) : NumT K H x (numV x) := by
  cases x with
  | non => exact ⟨.type "NoneType", false, false, .base .non, kit_ty (by decide +kernel), kit_ty (by decide +kernel), rfl⟩
  | bl b => exact ⟨.type "bool", true, true, .base (.bl b), kit_ty (by decide +kernel), kit_ty (by decide +kernel), rfl⟩
  | int i => exact ⟨.type "int", true, false, .base (.int i), kit_ty (by decide +kernel), kit_ty (by decide +kernel), rfl⟩
  | str z => exact ⟨.type "str", false, false, .base (.str z), kit_ty (by decide +kernel), kit_ty (by decide +kernel), rfl⟩
  | byt _ => cases h
  | flt _ => cases h
  | ref _ => cases h
  | ty _ => cases h
theorem numT_list {K : PySem.W.Frag} {H : Hp} {a : Addr} {xs : List V} (h : SqL K H a xs) : NumT K H (.ref a) false :=
  ⟨.type "list", false, false, tyX_seqL h, kit_ty (by decide +kernel), kit_ty (by decide +kernel), rfl⟩
theorem numT_tup {K : PySem.W.Frag} {H : Hp} {a : Addr} {xs : List V} (h : SqT K H a xs) : NumT K H (.ref a) false :=
  ⟨.type "tuple", false, false, tyX_seqT h, kit_ty (by decide +kernel), kit_ty (by decide +kernel), rfl⟩
theorem numT_dict {K : PySem.W.Frag} {H : Hp} {a : Addr} {kvs : List (Key × V)} (h : H a = some (.dK kvs)) : NumT K H (.ref a) false :=
  ⟨.type "dict", false, false, .base (.dK h), kit_ty (by decide +kernel), kit_ty (by decide +kernel), rfl⟩
structure CurG (mg : Str → Option Value) : Prop where
  isi : mg "isinstance" = none
  int : mg "int" = none
  bool : mg "bool" = none
  list : mg "list" = none
  tuple : mg "tuple" = none
  len : mg "len" = none
  all : mg "all" = none
  sorted : mg "sorted" = none
  zip : mg "zip" = none
  min : mg "min" = none
  range : mg "range" = none
  type : mg "type" = none
  most : ∃ t, mg "MOST" = some (.int 1000000000 t)
  given : ∃ t, mg "MOST_GIVEN" = some (.int 400 t)
  gcd : mg "gcd" = some (.builtin "math.gcd")
section
variable {P : Program} {w : World} {K : PySem.W.Frag} {mg : Str → Option Value} {base : Heap}
def spNum (K : PySem.W.Frag) : Sp := fun vs H Q _ => ∃ (x : V) (b : Bool), vs = [x] ∧ NumT K H x b ∧ Q (.bl b) H
theorem scNum : FnScope ["thing"] ["thing"] (defScope sNum) := ⟨rfl, rfl, rfl, by decide +kernel, rfl, by decide +kernel, by decide +kernel⟩
theorem ok_num {f : Addr} {fd : FuncData} (F : Fun K "is_number" "is_number" sNum f fd) (T : CurG mg) : FnOk P w K mg base CX0 1 f fd ["thing"] (spNum K) := by
  refine F.ok scNum (fun vs H Q E h => ?_) (fun cdv A outer s H vs Q E hr h => ?_)
  · obtain ⟨x, b, rfl, _⟩ := h
    rfl
  · obtain ⟨x, b, rfl, ⟨t, b1, b2, ty, k1, k2, e⟩, k⟩ := h
    refine ⟨_, pss_one (ps_ret (pe_and (pe_callB call_isi (by rfl) T.isi (by decide +kernel) (pa_cons (pv 0) (pa_cons (pe_bltn (v := .ty "int") (by rfl) T.int (by decide +kernel) rfl) pa_nil)))
      (pe_one (pe_not (pe_callB call_isi (by rfl) T.isi (by decide +kernel) (pa_cons (pv 0) (pa_cons (pe_bltn (v := .ty "bool") (by rfl) T.bool (by decide +kernel) rfl) pa_nil))))))), ?_⟩
    refine ⟨_, rfl, x, .ty "int", t, .type "int", b1, rfl, .ty _, ty, k1, b1, rfl, ?_⟩
    subst e
    cases b1 with
    | false => exact iteF k
    | true => exact iteT ⟨_, rfl, x, .ty "bool", t, .type "bool", b2, rfl, .ty _, ty, k2, b2, rfl, k⟩
def spFrom (K : PySem.W.Frag) : Sp := fun vs H Q _ => ∃ x y z : V, vs = [x, y, z] ∧ ((∃ i a b : Int, x = .int i ∧ y = .int a ∧ z = .int b ∧ Q (.bl (decide (a ≤ i ∧ i ≤ b))) H) ∨ (NumT K H x false ∧ Q (.bl false) H))
theorem scFrom : FnScope ["thing", "low", "high"] ["thing", "low", "high"] (defScope sFrom) := ⟨rfl, rfl, rfl, by decide +kernel, rfl, by decide +kernel, by decide +kernel⟩
theorem ok_from {f g : Addr} {fd gd : FuncData} (F : Fun K "is_from" "is_from" sFrom f fd) (G : FnOk P w K mg base CX0 1 g gd ["thing"] (spNum K)) (kG : PySem.W.keepIn K (.ref g) = true) (bG : Binds K gd ["thing"] []) (mG : mg "is_number" = some (.ref g)) :
    FnOk P w K mg base CX0 2 f fd ["thing", "low", "high"] (spFrom K) := by
  refine F.ok scFrom (fun vs H Q E h => ?_) (fun cdv A outer s H vs Q E hr h => ?_)
  · obtain ⟨x, y, z, rfl, _⟩ := h
    rfl
  · obtain ⟨x, y, z, rfl, h⟩ := h
    refine ⟨_, pss_one (ps_ret (pe_and (pe_call G hr rfl mG kG bG .nil pass0 (pa_cons (pv 0) pa_nil))
      (pe_one (pe_chain op_le op_le (pv 1) (pv 0) (pv 2))))), ?_⟩
    rcases h with ⟨i, a, b, rfl, rfl, rfl, k⟩ | ⟨n, k⟩
    · refine ⟨_, rfl, .int i, true, rfl, numT_flat rfl, true, rfl, ?_⟩
      rw [if_pos rfl]
      refine ⟨_, rfl, _, rfl, _, _, rfl, rfl, _, rfl, ?_⟩
      by_cases h1 : a ≤ i
      · rw [decide_eq_true h1, if_pos rfl]
        refine ⟨_, rfl, _, _, rfl, rfl, ?_⟩
        have e : decide (i ≤ b) = decide (a ≤ i ∧ i ≤ b) := decide_eq_decide.mpr ⟨fun h => ⟨h1, h⟩, fun h => h.2⟩
        show Q (.bl (decide (i ≤ b))) H
        rw [e]
        exact k
      · rw [decide_eq_false h1, if_neg Bool.false_ne_true]
        have e : decide (a ≤ i ∧ i ≤ b) = false := decide_eq_false fun h => h1 h.1
        rw [e] at k
        exact k
    · refine ⟨_, rfl, x, false, rfl, n, false, rfl, ?_⟩
      rw [if_neg Bool.false_ne_true]
      exact k
def spAbove (K : PySem.W.Frag) : Sp := fun vs H Q _ => ∃ x y : V, vs = [x, y] ∧ ((x = .non ∧ Q (.bl (!decide (y = .non))) H) ∨ (∃ i, x = .int i ∧ ((y = .non ∧ Q (.bl false) H) ∨ ∃ j, y = .int j ∧ Q (.bl (decide (j < i))) H)))
theorem scAbove : FnScope ["one", "two"] ["one", "two"] (defScope sAbove) := ⟨rfl, rfl, rfl, by decide +kernel, rfl, by decide +kernel, by decide +kernel⟩
theorem ok_above {f : Addr} {fd : FuncData} (F : Fun K "is_above" "is_above" sAbove f fd) : FnOk P w K mg base CX0 1 f fd ["one", "two"] (spAbove K) := by
  refine F.ok scAbove (fun vs H Q E h => ?_) (fun cdv A outer s H vs Q E hr h => ?_)
  · obtain ⟨x, y, rfl, _⟩ := h
    rfl
  · obtain ⟨x, y, rfl, h⟩ := h
    refine ⟨_, pss_cons (ps_if (PW.pt (pw_or (pt_cmpR op_isN (pv 0) pe_non (nomark _)) (pw_or1 (pt_cmpR op_isN (pv 1) pe_non (nomark _)))))
        (pss_one (ps_ret (pe_and (pe_cmpR op_isN (pv 0) pe_non (nomark _)) (pe_one (pe_cmpR op_notN (pv 1) pe_non (nomark _)))))) pss_nil)
      (pss_one (ps_ret (pe_cmpR op_gt (pv 0) (pv 1) (nomark _)))), ?_⟩
    rcases h with ⟨rfl, k⟩ | ⟨i, rfl, ⟨rfl, k⟩ | ⟨j, rfl, k⟩⟩
    · refine ⟨_, rfl, rfl, true, rfl, iteT ⟨_, rfl, rfl, true, rfl, iteT ⟨_, rfl, rfl, k⟩⟩⟩
    · refine ⟨_, rfl, rfl, false, rfl, iteF ⟨_, rfl, rfl, true, rfl, iteT ⟨_, rfl, rfl, false, rfl, iteF k⟩⟩⟩
    · refine ⟨_, rfl, rfl, false, rfl, iteF ⟨_, rfl, rfl, false, rfl, iteF ⟨_, rfl, _, rfl, _, _, rfl, rfl, k⟩⟩⟩
theorem above_no {K : PySem.W.Frag} {x y : V} {H : Hp} {Q : VK} {E : XK} (h : (∃ i j : Int, x = .int i ∧ y = .int j ∧ i ≤ j) ∨ ((∃ i : Int, x = .int i) ∧ y = .non) ∨ (x = .non ∧ y = .non)) (k : Q (.bl false) H) : spAbove K [x, y] H Q E := by
  rcases h with ⟨i, j, rfl, rfl, l⟩ | ⟨⟨i, rfl⟩, rfl⟩ | ⟨rfl, rfl⟩
  · refine ⟨_, _, rfl, .inr ⟨i, rfl, .inr ⟨j, rfl, ?_⟩⟩⟩
    rw [decide_eq_false (by omega)]
    exact k
  · exact ⟨_, _, rfl, .inr ⟨i, rfl, .inl ⟨rfl, k⟩⟩⟩
  · exact ⟨_, _, rfl, .inl ⟨rfl, k⟩⟩
/-- x is a list, a tuple, or something else -/
def ListT (K : PySem.W.Frag) (H : Hp) (x : V) (b : Bool) : Prop :=
  ∃ t : Value, TyX K H x t ∧ ((t = .type "list" ∧ b = true) ∨ (t = .type "tuple" ∧ b = true) ∨ (PySem.W.kitOne K t (.type "list") = some false ∧ PySem.W.kitOne K t (.type "tuple") = some false ∧ b = false))
theorem listT_flat {H : Hp} {x : V} (h : flatV x = true) : ListT K H x false := by
  cases x with
  | non => exact ⟨.type "NoneType", .base .non, .inr (.inr ⟨kit_ty (by decide +kernel), kit_ty (by decide +kernel), rfl⟩)⟩
  | bl b => exact ⟨.type "bool", .base (.bl b), .inr (.inr ⟨kit_ty (by decide +kernel), kit_ty (by decide +kernel), rfl⟩)⟩
  | int i => exact ⟨.type "int", .base (.int i), .inr (.inr ⟨kit_ty (by decide +kernel), kit_ty (by decide +kernel), rfl⟩)⟩
  | str z => exact ⟨.type "str", .base (.str z), .inr (.inr ⟨kit_ty (by decide +kernel), kit_ty (by decide +kernel), rfl⟩)⟩
  | byt _ => cases h
  | flt _ => cases h
  | ref _ => cases h
  | ty _ => cases h
theorem listT_dict {H : Hp} {a : Addr} {kvs : List (Key × V)} (h : H a = some (.dK kvs)) : ListT K H (.ref a) false :=
  ⟨.type "dict", .base (.dK h), .inr (.inr ⟨kit_ty (by decide +kernel), kit_ty (by decide +kernel), rfl⟩)⟩
theorem listT_seq {H : Hp} {a : Addr} {xs : List V} (h : SeqA K H a xs) : ListT K H (.ref a) true := by
  rcases h with h | h
  · exact ⟨_, tyX_seqL h, .inl ⟨rfl, rfl⟩⟩
  · exact ⟨_, tyX_seqT h, .inr (.inl ⟨rfl, rfl⟩)⟩
end
theorem TyX.same' {K : PySem.W.Frag} {H H' : Hp} {x : V} {t : Value} (s : Same H H') (h : TyX K H x t) : TyX K H' x t := by
  cases h with
  | base h =>
    cases h with
    | non => exact .base .non
    | bl b => exact .base (.bl b)
    | int i => exact .base (.int i)
    | str z => exact .base (.str z)
    | flt z => exact .base (.flt z)
    | lst e => exact .base (.lst (s _ _ e))
    | frz e => exact .base (.frz (s _ _ e))
    | tup e => exact .base (.tup (s _ _ e))
    | dK e => exact .base (.dK (s _ _ e))
    | dT e => exact .base (.dT (s _ _ e))
    | ins e cl ha hn htk hm => exact .base (.ins (s _ _ e) cl ha hn htk hm)
  | byt b => exact .byt b
  | set e => exact .set (s _ _ e)
  | kList e c => exact .kList e c
  | kTuple e c => exact .kTuple e c
  | kDict e c => exact .kDict e c
  | fTuple e => exact .fTuple (s _ _ e)
  | fDict e => exact .fDict (s _ _ e)
theorem ListT.same {K : PySem.W.Frag} {H H' : Hp} {x : V} {b : Bool} (h : ListT K H x b) (s : Same H H') : ListT K H' x b := by
  obtain ⟨t, h1, h2⟩ := h
  exact ⟨t, TyX.same' s h1, h2⟩
theorem NumT.same {K : PySem.W.Frag} {H H' : Hp} {x : V} {b : Bool} (h : NumT K H x b) (s : Same H H') : NumT K H' x b := by
  obtain ⟨t, b1, b2, h1, h2⟩ := h
  exact ⟨t, b1, b2, TyX.same' s h1, h2⟩
section
variable {P : Program} {w : World} {K : PySem.W.Frag} {mg : Str → Option Value} {base : Heap}
def spIsList (K : PySem.W.Frag) : Sp := fun vs H Q _ => ∃ (x : V) (b : Bool), vs = [x] ∧ ListT K H x b ∧ ∀ H', Same H H' → Q (.bl b) H'
theorem scIsList : FnScope ["thing"] ["thing"] (defScope sIsList) := ⟨rfl, rfl, rfl, by decide +kernel, rfl, by decide +kernel, by decide +kernel⟩
theorem ok_isList {f : Addr} {fd : FuncData} (F : Fun K "is_list" "is_list" sIsList f fd) (T : CurG mg) : FnOk P w K mg base CX0 1 f fd ["thing"] (spIsList K) := by
  refine F.ok scIsList (fun vs H Q E h => ?_) (fun cdv A outer s H vs Q E hr h => ?_)
  · obtain ⟨x, b, rfl, _⟩ := h
    rfl
  · obtain ⟨x, b, rfl, h, k⟩ := h
    refine ⟨_, pss_one (ps_ret (pe_callB call_isiT (by rfl) T.isi (by decide +kernel) (pa_cons (pv 0) (pa_cons (pe_tup (pa_cons (pe_bltn (v := .ty "list") (by rfl) T.list (by decide +kernel) rfl)
      (pa_cons (pe_bltn (v := .ty "tuple") (by rfl) T.tuple (by decide +kernel) rfl) pa_nil))) pa_nil)))), ?_⟩
    refine ⟨_, rfl, (by show 2 ≤ sizeLine; decide), fun t ht => ?_⟩
    have s1 := same_new (o := .tup [.ty "list", .ty "tuple"]) ht
    obtain ⟨t', ty, c⟩ := h.same s1
    rcases c with ⟨rfl, rfl⟩ | ⟨rfl, rfl⟩ | ⟨c1, c2, rfl⟩
    · exact ⟨_, t, _, _, [.type "list", .type "tuple"], true, rfl, upd_same, .cons (.ty _) (.cons (.ty _) .nil), ty,
        kitAny_cons (kit_ty (r := true) (by decide +kernel)) (fun z => by cases z) (fun _ => rfl), k _ s1⟩
    · exact ⟨_, t, _, _, [.type "list", .type "tuple"], true, rfl, upd_same, .cons (.ty _) (.cons (.ty _) .nil), ty,
        kitAny_cons (kit_ty (r := false) (by decide +kernel)) (fun _ => kitAny_cons (r := true) (kit_ty (r := true) (by decide +kernel)) (fun z => by cases z) (fun _ => rfl)) (fun z => by cases z), k _ s1⟩
    · exact ⟨_, t, _, _, [.type "list", .type "tuple"], false, rfl, upd_same, .cons (.ty _) (.cons (.ty _) .nil), ty,
        kitAny_cons c1 (fun _ => kitAny_cons (r := false) c2 (fun _ => rfl) (fun z => by cases z)) (fun z => by cases z), k _ s1⟩
end
end WW
end

section
set_option Elab.async false
set_option linter.all false
set_option maxRecDepth 100000
set_option maxHeartbeats 4000000
namespace WW
open PySem L2 WO WG RZ WQ
def okE (x : V) : Prop := x = .non ∨ ∃ i : Int, x = .int i ∧ 0 ≤ i ∧ i ≤ 1000000000
def notAb (x y : V) : Prop := (∃ i j : Int, x = .int i ∧ y = .int j ∧ i ≤ j) ∨ ((∃ i : Int, x = .int i) ∧ y = .non) ∨ (x = .non ∧ y = .non)
structure StartOk (xs : List V) : Prop where
  l1 : 1 ≤ xs.length
  l2 : xs.length ≤ 400
  el : ∀ (i : Nat) (x : V), xs[i]? = some x → okE x
  asc : ∀ (i : Nat) (x y : V), xs[i]? = some x → xs[i + 1]? = some y → notAb x y
/-! ### rows of numbers, then Nones -/
def isNon : V → Bool
  | .non => true
  | _ => false
def nums (xs : List V) : List V := xs.filter fun v => !isNon v
theorem nums_snoc (xs : List V) (x : V) : nums (xs ++ [x]) = nums xs ++ (if isNon x then [] else [x]) := by
  unfold nums
  rw [List.filter_append]
  cases h : isNon x <;> simp [List.filter, h]
theorem nums_le (xs : List V) : (nums xs).length ≤ xs.length := List.length_filter_le ..
theorem take_snoc {xs : List V} {i : Nat} {x : V} (h : xs[i]? = some x) : xs.take (i + 1) = xs.take i ++ [x] := by
  rw [List.take_add_one, h]
  rfl
theorem all_ints : ∀ {xs : List V}, xs.all numV = true → ∃ ns : List Int, xs = ns.map V.int
  | [], _ => ⟨[], rfl⟩
  | x :: r, h => by
    rw [List.all_cons, Bool.and_eq_true] at h
    obtain ⟨ns, e⟩ := all_ints h.2
    cases x with
    | int i => exact ⟨i :: ns, by rw [e]; rfl⟩
    | _ => cases h.1
theorem ints_all : ∀ (ns : List Int), (ns.map V.int).all numV = true
  | [] => rfl
  | i :: r => by rw [List.map_cons, List.all_cons, ints_all r]; rfl
theorem inV_non : ∀ {xs : List V}, xs.all flatV = true → inV .non xs = xs.any isNon
  | [], _ => rfl
  | x :: r, h => by
    rw [List.all_cons, Bool.and_eq_true] at h
    have e : inV .non (x :: r) = (eqV x .non || inV .non r) := rfl
    rw [e, inV_non h.2, List.any_cons]
    congr 1
    cases x <;> first | rfl | exact absurd h.1 Bool.false_ne_true
theorem nums_none : ∀ {xs : List V}, xs.any isNon = false → nums xs = xs
  | [], _ => rfl
  | x :: r, h => by
    rw [List.any_cons, Bool.or_eq_false_iff] at h
    unfold nums
    rw [List.filter_cons, h.1]
    show x :: nums r = x :: r
    rw [nums_none h.2]
theorem nums_all : ∀ {xs : List V}, nums xs = [] → xs = List.replicate xs.length V.non
  | [], _ => rfl
  | x :: r, h => by
    unfold nums at h
    rw [List.filter_cons] at h
    cases hx : isNon x with
    | false => rw [hx] at h; cases h
    | true =>
      rw [hx] at h
      have e := nums_all (xs := r) h
      cases x with
      | non => rw [List.length_cons, List.replicate_succ]; congr 1
      | _ => cases hx
theorem nums_app (xs ys : List V) : nums (xs ++ ys) = nums xs ++ nums ys := List.filter_append ..
/-- no None among the first so many: numbers first, Nones behind -/
theorem split_nums {xs : List V} (h : (xs.take (nums xs).length).any isNon = false) : xs = nums xs ++ List.replicate (xs.length - (nums xs).length) V.non := by
  have e : nums xs = nums (xs.take (nums xs).length) ++ nums (xs.drop (nums xs).length) := by
    rw [← nums_app, List.take_append_drop]
  have e1 := nums_none h
  have l := congrArg List.length e
  have lt : (xs.take (nums xs).length).length = (nums xs).length := by
    rw [List.length_take]
    exact Nat.min_eq_left (nums_le xs)
  rw [List.length_append, e1, lt] at l
  have z : nums (xs.drop (nums xs).length) = [] := List.eq_nil_of_length_eq_zero (by omega)
  have e2 := nums_all z
  rw [List.length_drop] at e2
  have e3 : xs.take (nums xs).length = nums xs := by
    rw [e1, z, List.append_nil] at e
    exact e.symm
  calc xs = xs.take (nums xs).length ++ xs.drop (nums xs).length := (List.take_append_drop ..).symm
    _ = _ := by rw [e3, e2]
theorem nums_row (ns : List Int) (k : Nat) : nums (ns.map V.int ++ List.replicate k V.non) = ns.map V.int := by
  rw [nums_app]
  have a : nums (ns.map V.int) = ns.map V.int := by
    refine nums_none ?_
    induction ns with
    | nil => rfl
    | cons i r ih => rw [List.map_cons, List.any_cons, ih]; rfl
  have b : nums (List.replicate k V.non) = [] := by
    induction k with
    | zero => rfl
    | succ k ih =>
      unfold nums at *
      rw [List.replicate_succ, List.filter_cons]
      exact ih
  rw [a, b, List.append_nil]
/-- a right start is of this form -/
theorem startOk_row : ∀ {xs : List V}, (∀ (i : Nat) (x : V), xs[i]? = some x → okE x) → (∀ (i : Nat) (x y : V), xs[i]? = some x → xs[i + 1]? = some y → notAb x y) →
    ∃ (ns : List Int) (k : Nat), xs = ns.map V.int ++ List.replicate k V.non ∧ ns.Pairwise (· ≤ ·) ∧ ∀ z ∈ ns, 0 ≤ z ∧ z ≤ 1000000000
  | [], _, _ => ⟨[], 0, rfl, .nil, fun z h => by cases h⟩
  | x :: r, h1, h2 => by
    obtain ⟨ns, k, e, p, b⟩ := startOk_row (xs := r) (fun i y hy => h1 (i + 1) y hy) (fun i y z hy hz => h2 (i + 1) y z hy hz)
    rcases h1 0 x rfl with rfl | ⟨i, rfl, i0, i1⟩
    · -- behind a None Nones alone
      have hr : ns = [] := by
        cases ns with
        | nil => rfl
        | cons z q =>
          subst e
          rcases h2 0 .non (.int z) rfl rfl with ⟨_, _, w, _⟩ | ⟨⟨_, w⟩, _⟩ | ⟨_, w⟩ <;> cases w
      subst hr
      exact ⟨[], k + 1, by rw [e]; rfl, .nil, fun z h => by cases h⟩
    · refine ⟨i :: ns, k, by rw [e]; rfl, ?_, ?_⟩
      · refine List.Pairwise.cons (fun z hz => ?_) p
        cases ns with
        | nil => cases hz
        | cons y q =>
          have hy : i ≤ y := by
            subst e
            rcases h2 0 (.int i) (.int y) rfl rfl with ⟨_, _, w1, w2, l⟩ | ⟨_, w⟩ | ⟨w, _⟩
            · cases w1; cases w2; exact l
            · cases w
            · cases w
          rcases List.mem_cons.mp hz with rfl | hz
          · exact hy
          · exact Int.le_trans hy ((List.pairwise_cons.mp p).1 z hz)
      · intro z hz
        rcases List.mem_cons.mp hz with rfl | hz
        · exact ⟨i0, i1⟩
        · exact b z hz
theorem row_startOk {ns : List Int} {k : Nat} (l1 : 1 ≤ ns.length + k) (l2 : ns.length + k ≤ 400) (p : ns.Pairwise (· ≤ ·)) (b : ∀ z ∈ ns, 0 ≤ z ∧ z ≤ 1000000000) :
    StartOk (ns.map V.int ++ List.replicate k V.non) := by
  have len : (ns.map V.int ++ List.replicate k V.non).length = ns.length + k := by rw [List.length_append, List.length_map, List.length_replicate]
  have lo : ∀ j, j < ns.length → (ns.map V.int ++ List.replicate k V.non)[j]? = some (.int (ns.getD j 0)) := fun j h => by
    rw [List.getElem?_append_left (by rw [List.length_map]; exact h), List.getElem?_map, List.getD_eq_getElem?_getD, List.getElem?_eq_getElem h]
    rfl
  have hi : ∀ j, ns.length ≤ j → j < ns.length + k → (ns.map V.int ++ List.replicate k V.non)[j]? = some .non := fun j h h' => by
    rw [List.getElem?_append_right (by rw [List.length_map]; exact h), List.length_map, List.getElem?_replicate, if_pos (by omega)]
  have out : ∀ {j x}, (ns.map V.int ++ List.replicate k V.non)[j]? = some x → j < ns.length + k := fun {j x} h => by
    have := (List.getElem?_eq_some_iff.mp h).1
    rwa [len] at this
  have inr : ∀ j, j < ns.length → 0 ≤ ns.getD j 0 ∧ ns.getD j 0 ≤ 1000000000 := fun j h => by
    rw [List.getD_eq_getElem?_getD, List.getElem?_eq_getElem h]
    exact b _ (List.getElem_mem h)
  refine ⟨by rw [len]; exact l1, by rw [len]; exact l2, fun j x h => ?_, fun j x y h h' => ?_⟩
  · by_cases c : j < ns.length
    · rw [lo j c] at h
      cases h
      exact .inr ⟨_, rfl, inr j c⟩
    · rw [hi j (by omega) (out h)] at h
      cases h
      exact .inl rfl
  · have o := out h'
    by_cases c : j + 1 < ns.length
    · rw [lo j (by omega)] at h
      rw [lo (j + 1) c] at h'
      cases h
      cases h'
      refine .inl ⟨_, _, rfl, rfl, ?_⟩
      rw [List.getD_eq_getElem?_getD, List.getD_eq_getElem?_getD, List.getElem?_eq_getElem (show j < ns.length by omega), List.getElem?_eq_getElem c]
      exact List.pairwise_iff_getElem.mp p j (j + 1) (by omega) c (by omega)
    · rw [hi (j + 1) (by omega) o] at h'
      cases h'
      by_cases c2 : j < ns.length
      · rw [lo j c2] at h
        cases h
        exact .inr (.inl ⟨⟨_, rfl⟩, rfl⟩)
      · rw [hi j (by omega) (by omega)] at h
        cases h
        exact .inr (.inr ⟨rfl, rfl⟩)
theorem row_inj : ∀ {ns ms : List Int} {j k : Nat}, ns.map V.int ++ List.replicate j V.non = ms.map V.int ++ List.replicate k V.non → ns = ms := fun {ns ms j k} e => by
  have z := congrArg nums e
  rw [nums_row, nums_row] at z
  exact (List.map_inj_right fun a b h => V.int.inj h).mp z
theorem sorted_same {ns ms : List Int} (h : ms.Perm ns) (s : ms.Pairwise (· ≤ ·)) : ms = ns ↔ ns.Pairwise (· ≤ ·) := by
  constructor
  · intro e
    rw [← e]
    exact s
  · intro p
    exact List.Perm.eq_of_pairwise (fun a b _ _ h1 h2 => Int.le_antisymm h1 h2) s p h
end WW
end

section
set_option Elab.async false
set_option linter.all false
set_option maxRecDepth 100000
set_option maxHeartbeats 4000000
namespace WW
open PySem L2 WO WG RZ WQ
section
variable {P : Program} {w : World} {K : PySem.W.Frag} {mg : Str → Option Value} {base : Heap}
theorem small1000' {n : Nat} (h : n < 1000) : n < sizeLine := small1000 (Nat.le_of_lt h)
theorem tyB_flat {H : Hp} {x : V} (h : flatV x = true) : ∃ T : String, TyB K H x T ∧ decide (T = "int") = numV x := by
  cases x with
  | non => exact ⟨_, .non, rfl⟩
  | bl b => exact ⟨_, .bl b, rfl⟩
  | int i => exact ⟨_, .int i, rfl⟩
  | str z => exact ⟨_, .str z, rfl⟩
  | _ => cases h
def spAre (K : PySem.W.Frag) : Sp := fun vs H Q _ => ∃ (a : Addr) (xs : List V), vs = [.ref a] ∧ SqL K H a xs ∧ xs.all flatV = true ∧ xs.length < sizeLine ∧ ∀ H', Same H H' → Q (.bl (xs.all numV)) H'
abbrev nAre : List Str := ["row", "one"]
theorem scAre : FnScope nAre ["row"] (defScope sAre) := ⟨rfl, rfl, rfl, by decide +kernel, rfl, by decide +kernel, by decide +kernel⟩
theorem ok_are {f g : Addr} {fd gd : FuncData} (F : Fun K "are_numbers" "are_numbers" sAre f fd) (T : CurG mg) (G : FnOk P w K mg base CX0 1 g gd ["thing"] (spNum K)) (kG : PySem.W.keepIn K (.ref g) = true) (bG : Binds K gd ["thing"] []) (mG : mg "is_number" = some (.ref g)) :
    FnOk P w K mg base CX0 2 f fd ["row"] (spAre K) := by
  refine F.ok scAre (fun vs H Q E h => ?_) (fun cdv A outer s H vs Q E hr h => ?_)
  · obtain ⟨a, xs, rfl, _⟩ := h
    rfl
  · obtain ⟨a, xs, rfl, h, fl, hl, k⟩ := h
    refine ⟨_, pss_one (ps_ret (pe_callB (cr_all rfl) (by rfl) T.all (by decide +kernel) (pa_cons
        (pe_lc (own := [("one", 1)]) (g := gName 1) rfl scAre.nd (pi_list (pv 0)) (blkOk_by (N := nAre) (sc := defScope sAre) (by decide +kernel)) (fun _ _ _ _ _ => pg_name (i := 1) scAre.nd rfl (Or.inl rfl))
          (fun _ _ _ _ _ => pts_one (pt_cmpR op_isNotTy (pe_callTy (T := "type") (r := rTyp K) call_type1 (by rfl) T.type (by decide +kernel) (pa_cons (pv 1) pa_nil)) (pe_bltn (v := .ty "int") (by rfl) T.int (by decide +kernel) rfl) (nomark _)))
          (fun _ _ _ _ _ => pe_call G hr rfl mG kG bG .nil pass0 (pa_cons (pv 1) pa_nil))) pa_nil))), ?_⟩
    refine ⟨_, rfl, a, rfl, ⟨_, h⟩, fun D hD => lc_list (K := K) (a := a) (xs := xs) (fun i H2 => ∃ n, H2 D = some (.lst (reps false n)) ∧ n ≤ i ∧ decide (n = 0) = (xs.take i).all numV ∧ Same H H2) ⟨0, upd_same, Nat.le_refl _, rfl, same_new hD⟩ (fun i H2 _ ⟨_, _, _, _, s2⟩ => Same.seq s2 h) ?_ ?_⟩
    · rintro i x H2 hx ⟨n, hd, ni, e, s2⟩
      have hi : i < xs.length := (List.getElem?_eq_some_iff.mp hx).1
      have fx : flatV x = true := (List.all_eq_true.mp fl) x (List.mem_of_getElem? hx)
      obtain ⟨T0, ty, e0⟩ := tyB_flat (K := K) (H := H2) fx
      have et : (xs.take (i + 1)).all numV = ((xs.take i).all numV && numV x) := by
        rw [take_snoc hx, List.all_append]
        simp
      refine ⟨rfl, _, rfl, x, T0, rfl, ty, T0, "int", rfl, rfl, !decide (T0 = "int"), rfl, ?_⟩
      rw [e0]
      cases hn : numV x with
      | true => exact iteF ⟨n, hd, by omega, by rw [et, hn, ← e, Bool.and_true], s2⟩
      | false =>
        have nt := numT_flat (K := K) (H := H2) fx
        rw [hn] at nt
        refine iteT ⟨_, rfl, x, false, rfl, nt, reps false n, hd, by rw [reps_len]; omega, n + 1, ?_, by omega, by rw [et, hn, Bool.and_false]; rfl, fun b o e => by rw [upd_ne (ne_of_none e hD)]; exact s2 b o e⟩
        rw [reps_snoc]
        exact upd_same
    · rintro H2 ⟨n, hd, ni, e, s2⟩
      rw [List.take_length] at e
      refine ⟨D, List.replicate n false, rfl, SqL.of hd, ?_⟩
      have e1 : (List.replicate n false).all id = xs.all numV := by
        rw [← e]
        cases n with
        | zero => rfl
        | succ n => rw [List.replicate_succ, List.all_cons]; rfl
      rw [e1]
      exact k _ s2
/-- what is no list, and rows of flat things -/
def spStart (K : PySem.W.Frag) : Sp := fun vs H Q _ => ∃ x : V, vs = [x] ∧ ((ListT K H x false ∧ ∀ H', Same H H' → Q (.bl false) H') ∨
  ∃ (a : Addr) (xs : List V), x = .ref a ∧ SeqA K H a xs ∧ xs.all flatV = true ∧ xs.length < sizeLine ∧ ∀ (b : Bool) H', Same H H' → (b = true ↔ StartOk xs) → Q (.bl b) H')
abbrev nStart : List Str := ["thing", "numbers", "one"]
theorem scStart : FnScope nStart ["thing"] (defScope sStart) := ⟨rfl, rfl, rfl, by decide +kernel, rfl, by decide +kernel, by decide +kernel⟩
theorem six0 (n d : Nat) : HT.sIx n d none = d := rfl
theorem cutR {xs : List V} {t : Nat} (h : t ≤ xs.length) : cutV xs none (some (t : Int)) = xs.take t := by
  have e : HT.sIx xs.length xs.length (some (t : Int)) = t := by
    unfold HT.sIx
    dsimp only
    rw [if_neg (by omega), Int.toNat_natCast]
    omega
  unfold cutV
  rw [e]
  rfl
theorem eqvAll_ints' : ∀ ns ms : List Int, PyData.eqvAll (ns.map PyData.int) (ms.map PyData.int) = decide (ns = ms) := eqvAll_ints
/-- behind the row of the numbers -/
theorem start_tail {xs : List V} {ns : List Int} (fl : xs.all flatV = true) (l1 : 1 ≤ xs.length) (l2 : xs.length ≤ 400) (hn : nums xs = ns.map V.int) (hq : (xs.take (nums xs).length).any isNon = false) :
    xs = ns.map V.int ++ List.replicate (xs.length - ns.length) V.non ∧ ns.length ≤ xs.length := by
  have e := split_nums hq
  have l := nums_le xs
  rw [hn, List.length_map] at e l
  exact ⟨e, l⟩
theorem any_ints (ns : List Int) : (ns.map V.int).any isNon = false := by
  induction ns with
  | nil => rfl
  | cons i r ih => rw [List.map_cons, List.any_cons, ih]; rfl
theorem startOk_no {xs : List V} (h : (nums xs).all numV = false ∨ (xs.take (nums xs).length).any isNon = true) : ¬ StartOk xs := fun S => by
  obtain ⟨ns, k, e, _, _⟩ := startOk_row S.el S.asc
  rw [e, nums_row] at h
  rcases h with h | h
  · rw [ints_all] at h
    cases h
  · rw [List.take_append_of_le_length (by rw [List.length_map]; exact Nat.le_refl _), List.take_of_length_le (Nat.le_refl _)] at h
    rw [any_ints] at h
    cases h
theorem startOk_iff {ns : List Int} {k : Nat} (l1 : 1 ≤ ns.length + k) (l2 : ns.length + k ≤ 400) : StartOk (ns.map V.int ++ List.replicate k V.non) ↔ ns.Pairwise (· ≤ ·) ∧ ∀ z ∈ ns, 0 ≤ z ∧ z ≤ 1000000000 := by
  constructor
  · intro S
    obtain ⟨ms, j, e, p, b⟩ := startOk_row S.el S.asc
    have := row_inj e
    subst this
    exact ⟨p, b⟩
  · rintro ⟨p, b⟩
    exact row_startOk l1 l2 p b
theorem bounds_iff {n0 : Int} {r : List Int} (p : (n0 :: r).Pairwise (· ≤ ·)) {z : Int} (hz : (n0 :: r)[(n0 :: r).length - 1]? = some z) : (∀ y ∈ n0 :: r, 0 ≤ y ∧ y ≤ 1000000000) ↔ 0 ≤ n0 ∧ z ≤ 1000000000 := by
  constructor
  · intro h
    exact ⟨(h n0 (List.mem_cons_self ..)).1, (h z (List.mem_of_getElem? hz)).2⟩
  · rintro ⟨h0, h1⟩ y hy
    obtain ⟨i, hi, e⟩ := List.mem_iff_getElem.mp hy
    have q := List.pairwise_iff_getElem.mp p
    have lz := (List.getElem?_eq_some_iff.mp hz).1
    have ez := (List.getElem?_eq_some_iff.mp hz).2
    constructor
    · by_cases c : i = 0
      · subst c
        rw [← e]
        exact h0
      · have := q 0 i (by omega) hi (by omega)
        rw [e] at this
        exact Int.le_trans h0 this
    · by_cases c : i = (n0 :: r).length - 1
      · subst c
        rw [e] at ez
        rw [ez]
        exact h1
      · have := q i ((n0 :: r).length - 1) hi lz (by omega)
        rw [e, ez] at this
        exact Int.le_trans this h1
end
end WW
end

section
set_option Elab.async false
set_option linter.all false
set_option maxRecDepth 100000
set_option maxHeartbeats 4000000
namespace WW
open PySem L2 WO WG RZ WQ
section
variable {P : Program} {w : World} {K : PySem.W.Frag} {mg : Str → Option Value} {base : Heap}
/-- what is found behind the row of the numbers -/
def Found (xs : List V) (H : Hp) (a : Addr) (σ : L2.St) (H' : Hp) : Prop :=
  ∃ (q : Addr) (v : Option V), σ = [some (.ref a), some (.ref q), v] ∧ H' q = some (.lst (nums xs)) ∧ Same H H'
theorem nums_step {xs : List V} {i : Nat} {x : V} (h : xs[i]? = some x) : nums (xs.take (i + 1)) = nums (xs.take i) ++ (if isNon x then [] else [x]) := by
  rw [take_snoc h, nums_snoc]
theorem isNon_dec (x : V) : decide (x = V.non) = isNon x := by cases x <;> first | rfl | exact decide_eq_false (fun z => by cases z)
theorem flat_sub {xs ys : List V} (h : xs.all flatV = true) (s : ∀ x ∈ ys, x ∈ xs) : ys.all flatV = true :=
  List.all_eq_true.mpr fun x hx => (List.all_eq_true.mp h) x (s x hx)
theorem last_get {xs : List V} {v : V} (h : xs[xs.length - 1]? = some v) : atI xs (-1) = some v := by
  have l : xs.length - 1 < xs.length := by
    rcases Nat.lt_or_ge (xs.length - 1) xs.length with q | q
    · exact q
    · rw [List.getElem?_eq_none q] at h; cases h
  unfold atI ixN
  rw [if_neg (by omega), if_pos (by omega)]
  rw [show ((-1 : Int) + (xs.length : Int)).toNat = xs.length - 1 by omega]
  exact h
theorem ok_start {f fL fN : Addr} {fd dL dN : FuncData} (F : Fun K "is_start" "is_start" sStart f fd) (T : CurG mg)
    (GL : FnOk P w K mg base CX0 1 fL dL ["thing"] (spIsList K)) (kL : PySem.W.keepIn K (.ref fL) = true) (bL : Binds K dL ["thing"] []) (mL : mg "is_list" = some (.ref fL))
    (GN : FnOk P w K mg base CX0 2 fN dN ["row"] (spAre K)) (kN : PySem.W.keepIn K (.ref fN) = true) (bN : Binds K dN ["row"] []) (mN : mg "are_numbers" = some (.ref fN)) :
    FnOk P w K mg base CX0 3 f fd ["thing"] (spStart K) := by
  refine F.ok scStart (fun vs H Q E h => ?_) (fun cdv A outer s H vs Q E hr h => ?_)
  · obtain ⟨x, rfl, _⟩ := h
    rfl
  · obtain ⟨x, rfl, h⟩ := h
    have hr1 := hr.mono (show 1 ≤ 2 by decide)
    have hu := hr.units
    obtain ⟨tm, mM⟩ := T.most
    obtain ⟨tg, mG⟩ := T.given
    rcases h with ⟨hx, k⟩ | ⟨a, xs, rfl, hsA, fl, hsz, k⟩
    · refine ⟨_, pss_cons (ps_if (PW.pt (pw_or (pt_not (pt_val (pe_call GL hr1 rfl mL kL bL .nil pass0 (pa_cons (pv 0) pa_nil))))
            (pw_or1 (pt_not (pt_chain op_le op_le pe_int (pe_callB call_len_seq (by rfl) T.len PySem.boot_len (pa_cons (pv 0) pa_nil)) (pe_glob (v := .int 400) rfl mG ⟨_, rfl⟩))))))
          (pss_one (ps_ret pe_bl)) pss_nil) pss_never, ?_⟩
      exact ⟨_, rfl, x, false, rfl, hx, fun H1 s1 => ⟨false, rfl, iteT (k H1 s1)⟩⟩
    rcases id hsA with hs | hs
    · refine ⟨_, pss_cons (ps_if (PW.pt (pw_or (pt_not (pt_val (pe_call GL hr1 rfl mL kL bL .nil pass0 (pa_cons (pv 0) pa_nil))))
            (pw_or1 (pt_not (pt_chain op_le op_le pe_int (pe_callB call_len_seq (by rfl) T.len PySem.boot_len (pa_cons (pv 0) pa_nil)) (pe_glob (v := .int 400) rfl mG ⟨_, rfl⟩))))))
          (pss_one (ps_ret pe_bl)) pss_nil)
        (C8.pss_cut (ps_setLc (i := 1) (own := [("one", 2)]) (g := gName 2) rfl scStart.nd rfl rfl (sw_true rfl rfl rfl (by decide +kernel)) (pi_list (pv 0)) (blkOk_by (N := nStart) (sc := defScope sStart) (by decide +kernel))
          (fun _ _ _ _ _ => pg_name (i := 2) scStart.nd rfl (Or.inl rfl)) (fun _ _ _ _ _ => pts_one (pt_cmpR op_notN (pv 2) pe_non (nomark _))) (fun _ _ _ _ _ => pv 2))
        (C8.pss_cut (ps_if (PW.pt (pw_or (pt_not (pt_val (pe_call GN hr rfl mN kN bN .nil pass0 (pa_cons (pv 1) pa_nil))))
            (pw_or (pt_cmpR op_in_seq pe_non (pe_slice sl_seqB (pv 0) po_none (po_some (pe_callB call_len_seq (by rfl) T.len PySem.boot_len (pa_cons (pv 1) pa_nil)))) (by rfl))
            (pw_or1 (pt_cmpR (op_neD hu) (pe_callB cr_sortedI (by rfl) T.sorted (by decide +kernel) (pa_cons (pv 1) pa_nil)) (pv 1) (nomark _))))))
          (pss_one (ps_ret pe_bl)) pss_nil)
        (pss_one (ps_ret (pe_or (pe_notT (pv 1)) (pe_one (pe_and (pe_cmpR op_ge (pe_ix ix_list (pv 1) pe_int (fun _ _ => rfl)) pe_int (nomark _))
          (pe_one (pe_cmpR op_le (pe_ix ix_list (pv 1) (pe_un un_neg pe_int) (fun _ _ => rfl)) (pe_glob (v := .int 1000000000) rfl mM ⟨_, rfl⟩) (nomark _)))))))))), ?_⟩
      refine ⟨_, rfl, .ref a, true, rfl, listT_seq hsA, fun H1 s1 => ⟨true, rfl, iteF ?_⟩⟩
      have h1 := Same.seq s1 hs
      refine ⟨_, rfl, a, xs, rfl, .inl h1, _, _, rfl, rfl, ?_⟩
      by_cases c1 : 1 ≤ xs.length
      · refine ⟨true, bT (by omega), iteT ⟨_, _, rfl, rfl, ?_⟩⟩
        by_cases c2 : xs.length ≤ 400
        · refine ⟨true, bT (by omega), iteF ?_⟩
          refine ⟨Found xs H a, ?_, ?_⟩
          · refine ⟨_, rfl, a, rfl, ⟨_, h1⟩, fun D hD => lc_list (K := K) (a := a) (xs := xs) (fun i H2 => H2 D = some (.lst (nums (xs.take i))) ∧ Same H1 H2) ⟨upd_same, same_new hD⟩ (fun i H2 _ ⟨_, s2⟩ => Same.seq s2 h1) ?_ ?_⟩
            · rintro i x H2 hx ⟨hd, s2⟩
              have hi : i < xs.length := (List.getElem?_eq_some_iff.mp hx).1
              refine ⟨rfl, _, rfl, rfl, !isNon x, by rw [isNon_dec], ?_⟩
              cases e : isNon x with
              | true => exact iteF ⟨by rw [nums_step hx, e]; simpa using hd, s2⟩
              | false =>
                refine iteT ⟨_, rfl, _, hd, ?_, ?_, fun b o z => by rw [upd_ne (ne_of_none z hD)]; exact s2 b o z⟩
                · have := nums_le (xs.take i)
                  rw [List.length_take] at this
                  omega
                · rw [nums_step hx, e]
                  exact upd_same
            · rintro H2 ⟨hd, s2⟩
              rw [List.take_length] at hd
              exact ⟨D, _, rfl, hd, Same.trans s1 s2⟩
          · rintro σ2 H2 ⟨q, v, rfl, hq, s2⟩
            have fln : (nums xs).all flatV = true := flat_sub fl fun y hy => (List.mem_filter.mp hy).1
            have ln := nums_le xs
            refine ⟨fun σ' H' => ∃ v, σ' = [some (.ref a), some (.ref q), v] ∧ H' q = some (.lst (nums xs)) ∧ Same H H' ∧ ∃ ns : List Int, nums xs = ns.map V.int ∧ (xs.take (nums xs).length).any isNon = false ∧ ns.Pairwise (· ≤ ·), ?_, ?_⟩
            · refine ⟨_, rfl, q, _, rfl, SqL.of hq, fln, by omega, fun H3 s3 => ⟨_, rfl, ?_⟩⟩
              have hq3 := s3 _ _ hq
              have sA := Same.trans s2 s3
              cases cN : (nums xs).all numV with
              | false => exact iteT (k false H3 sA ⟨fun z => (by cases z), fun S => absurd S (startOk_no (.inl cN))⟩)
              | true =>
                refine iteF ?_
                obtain ⟨ns, en⟩ := all_ints cN
                refine ⟨_, rfl, _, rfl, q, _, rfl, .inl (SqL.of hq3), _, rfl, a, xs, rfl, hsA.same sA, fun H4 z s4 hz _ => ?_⟩
                rw [cutR ln] at hz
                have flz : (xs.take (nums xs).length).all flatV = true := flat_sub fl fun y hy => List.mem_of_mem_take hy
                refine ⟨z, _, rfl, hz, rfl, flz, ?_⟩
                have sB := Same.trans sA s4
                cases cq : (xs.take (nums xs).length).any isNon with
                | true => exact ⟨true, by show V.bl (inV .non _) = _; rw [inV_non flz, cq], iteT (k false H4 sB ⟨fun z => (by cases z), fun S => absurd S (startOk_no (.inr cq))⟩)⟩
                | false =>
                  refine ⟨false, by show V.bl (inV .non _) = _; rw [inV_non flz, cq], iteF ?_⟩
                  have hq4 := s4 _ _ hq3
                  rw [en] at hq4
                  refine ⟨_, rfl, q, ns, rfl, SqL.of hq4, fun ms p pm srt hp => ?_⟩
                  generalize g5 : upd H4 p _ = H5
                  obtain ⟨s5, f5⟩ := alloc g5 hp
                  have hq5 := s5 _ _ hq4
                  refine ⟨_, rfl, .list (ms.map .int), .list (ns.map .int), .lst (SqL.of f5) (dpAll_int _), .lst (SqL.of hq5) (dpAll_int _), shaped_ints _, shaped_ints _, _, rfl, ?_⟩
                  rw [eqv_ints]
                  have sC := Same.trans sB s5
                  obtain ⟨ex, lx⟩ := start_tail fl c1 c2 en cq
                  have l3 : ns.length + (xs.length - ns.length) = xs.length := by omega
                  by_cases cs : ms = ns
                  · rw [decide_eq_true cs]
                    exact iteF ⟨_, rfl, by rw [en]; exact hq5, sC, ns, en, (by first | exact cq | rfl), (sorted_same pm srt).mp cs⟩
                  · rw [decide_eq_false cs]
                    refine iteT (k false H5 sC ⟨fun z => (by cases z), fun S => ?_⟩)
                    rw [ex, startOk_iff (by omega) (by omega)] at S
                    exact absurd ((sorted_same pm srt).mpr S.1) cs
            · rintro σ3 H3 ⟨v3, rfl, hq3, s3, ns, en, cq, srt⟩
              obtain ⟨ex, lx⟩ := start_tail fl c1 c2 en cq
              have iff := startOk_iff (ns := ns) (k := xs.length - ns.length) (by omega) (by omega)
              rw [← ex] at iff
              rw [en] at hq3
              refine ⟨_, rfl, !(ns.map V.int).isEmpty, .inl ⟨_, SqL.of hq3, rfl⟩, _, rfl, ?_⟩
              cases ns with
              | nil => exact iteT (k true H3 s3 ⟨fun _ => iff.mpr ⟨.nil, fun z h => by cases h⟩, fun _ => rfl⟩)
              | cons n0 r =>
                refine iteF ⟨_, rfl, q, _, _, .int n0, rfl, rfl, SqL.of hq3, atI_nat (j := 0) rfl, _, _, rfl, rfl, _, rfl, ?_⟩
                obtain ⟨z, hz⟩ : ∃ z, (n0 :: r)[(n0 :: r).length - 1]? = some z := ⟨_, List.getElem?_eq_getElem (by simp)⟩
                have bi := bounds_iff srt hz
                have lz : atI ((n0 :: r).map V.int) (-1) = some (.int z) := last_get (by rw [List.length_map, List.getElem?_map, hz]; rfl)
                by_cases b0 : 0 ≤ n0
                · rw [decide_eq_true b0]
                  refine iteT ⟨_, rfl, 1, rfl, q, _, _, .int z, rfl, rfl, SqL.of hq3, lz, _, _, rfl, rfl, k _ H3 s3 ?_⟩
                  rw [decide_eq_true_iff, iff]
                  exact ⟨fun h => ⟨srt, bi.mpr ⟨b0, h⟩⟩, fun h => (bi.mp h.2).2⟩
                · rw [decide_eq_false b0]
                  exact iteF (k false H3 s3 ⟨fun z => (by cases z), fun S => absurd (bi.mp (iff.mp S).2).1 b0⟩)
        · exact ⟨false, bF (by omega), iteT (k false H1 s1 ⟨fun z => (by cases z), fun S => absurd S.l2 c2⟩)⟩
      · exact ⟨false, bF (by omega), iteF ⟨false, rfl, iteT (k false H1 s1 ⟨fun z => (by cases z), fun S => absurd S.l1 c1⟩)⟩⟩
    · refine ⟨_, pss_cons (ps_if (PW.pt (pw_or (pt_not (pt_val (pe_call GL hr1 rfl mL kL bL .nil pass0 (pa_cons (pv 0) pa_nil))))
            (pw_or1 (pt_not (pt_chain op_le op_le pe_int (pe_callB call_len_seq (by rfl) T.len PySem.boot_len (pa_cons (pv 0) pa_nil)) (pe_glob (v := .int 400) rfl mG ⟨_, rfl⟩))))))
          (pss_one (ps_ret pe_bl)) pss_nil)
        (C8.pss_cut (ps_setLc (i := 1) (own := [("one", 2)]) (g := gName 2) rfl scStart.nd rfl rfl (sw_true rfl rfl rfl (by decide +kernel)) (pi_tup (pv 0)) (blkOk_by (N := nStart) (sc := defScope sStart) (by decide +kernel))
          (fun _ _ _ _ _ => pg_name (i := 2) scStart.nd rfl (Or.inl rfl)) (fun _ _ _ _ _ => pts_one (pt_cmpR op_notN (pv 2) pe_non (nomark _))) (fun _ _ _ _ _ => pv 2))
        (C8.pss_cut (ps_if (PW.pt (pw_or (pt_not (pt_val (pe_call GN hr rfl mN kN bN .nil pass0 (pa_cons (pv 1) pa_nil))))
            (pw_or (pt_cmpR op_in_seq pe_non (pe_slice sl_seqB (pv 0) po_none (po_some (pe_callB call_len_seq (by rfl) T.len PySem.boot_len (pa_cons (pv 1) pa_nil)))) (by rfl))
            (pw_or1 (pt_cmpR (op_neD hu) (pe_callB cr_sortedI (by rfl) T.sorted (by decide +kernel) (pa_cons (pv 1) pa_nil)) (pv 1) (nomark _))))))
          (pss_one (ps_ret pe_bl)) pss_nil)
        (pss_one (ps_ret (pe_or (pe_notT (pv 1)) (pe_one (pe_and (pe_cmpR op_ge (pe_ix ix_list (pv 1) pe_int (fun _ _ => rfl)) pe_int (nomark _))
          (pe_one (pe_cmpR op_le (pe_ix ix_list (pv 1) (pe_un un_neg pe_int) (fun _ _ => rfl)) (pe_glob (v := .int 1000000000) rfl mM ⟨_, rfl⟩) (nomark _)))))))))), ?_⟩
      refine ⟨_, rfl, .ref a, true, rfl, listT_seq hsA, fun H1 s1 => ⟨true, rfl, iteF ?_⟩⟩
      have h1 := seqT s1 hs
      refine ⟨_, rfl, a, xs, rfl, .inr h1, _, _, rfl, rfl, ?_⟩
      by_cases c1 : 1 ≤ xs.length
      · refine ⟨true, bT (by omega), iteT ⟨_, _, rfl, rfl, ?_⟩⟩
        by_cases c2 : xs.length ≤ 400
        · refine ⟨true, bT (by omega), iteF ?_⟩
          refine ⟨Found xs H a, ?_, ?_⟩
          · refine ⟨_, rfl, a, rfl, ⟨_, h1⟩, fun D hD => lc_tup (K := K) (a := a) (xs := xs) (fun i H2 => H2 D = some (.lst (nums (xs.take i))) ∧ Same H1 H2) ⟨upd_same, same_new hD⟩ (fun i H2 _ ⟨_, s2⟩ => seqT s2 h1) ?_ ?_⟩
            · rintro i x H2 hx ⟨hd, s2⟩
              have hi : i < xs.length := (List.getElem?_eq_some_iff.mp hx).1
              refine ⟨rfl, _, rfl, rfl, !isNon x, by rw [isNon_dec], ?_⟩
              cases e : isNon x with
              | true => exact iteF ⟨by rw [nums_step hx, e]; simpa using hd, s2⟩
              | false =>
                refine iteT ⟨_, rfl, _, hd, ?_, ?_, fun b o z => by rw [upd_ne (ne_of_none z hD)]; exact s2 b o z⟩
                · have := nums_le (xs.take i)
                  rw [List.length_take] at this
                  omega
                · rw [nums_step hx, e]
                  exact upd_same
            · rintro H2 ⟨hd, s2⟩
              rw [List.take_length] at hd
              exact ⟨D, _, rfl, hd, Same.trans s1 s2⟩
          · rintro σ2 H2 ⟨q, v, rfl, hq, s2⟩
            have fln : (nums xs).all flatV = true := flat_sub fl fun y hy => (List.mem_filter.mp hy).1
            have ln := nums_le xs
            refine ⟨fun σ' H' => ∃ v, σ' = [some (.ref a), some (.ref q), v] ∧ H' q = some (.lst (nums xs)) ∧ Same H H' ∧ ∃ ns : List Int, nums xs = ns.map V.int ∧ (xs.take (nums xs).length).any isNon = false ∧ ns.Pairwise (· ≤ ·), ?_, ?_⟩
            · refine ⟨_, rfl, q, _, rfl, SqL.of hq, fln, by omega, fun H3 s3 => ⟨_, rfl, ?_⟩⟩
              have hq3 := s3 _ _ hq
              have sA := Same.trans s2 s3
              cases cN : (nums xs).all numV with
              | false => exact iteT (k false H3 sA ⟨fun z => (by cases z), fun S => absurd S (startOk_no (.inl cN))⟩)
              | true =>
                refine iteF ?_
                obtain ⟨ns, en⟩ := all_ints cN
                refine ⟨_, rfl, _, rfl, q, _, rfl, .inl (SqL.of hq3), _, rfl, a, xs, rfl, hsA.same sA, fun H4 z s4 hz _ => ?_⟩
                rw [cutR ln] at hz
                have flz : (xs.take (nums xs).length).all flatV = true := flat_sub fl fun y hy => List.mem_of_mem_take hy
                refine ⟨z, _, rfl, hz, rfl, flz, ?_⟩
                have sB := Same.trans sA s4
                cases cq : (xs.take (nums xs).length).any isNon with
                | true => exact ⟨true, by show V.bl (inV .non _) = _; rw [inV_non flz, cq], iteT (k false H4 sB ⟨fun z => (by cases z), fun S => absurd S (startOk_no (.inr cq))⟩)⟩
                | false =>
                  refine ⟨false, by show V.bl (inV .non _) = _; rw [inV_non flz, cq], iteF ?_⟩
                  have hq4 := s4 _ _ hq3
                  rw [en] at hq4
                  refine ⟨_, rfl, q, ns, rfl, SqL.of hq4, fun ms p pm srt hp => ?_⟩
                  generalize g5 : upd H4 p _ = H5
                  obtain ⟨s5, f5⟩ := alloc g5 hp
                  have hq5 := s5 _ _ hq4
                  refine ⟨_, rfl, .list (ms.map .int), .list (ns.map .int), .lst (SqL.of f5) (dpAll_int _), .lst (SqL.of hq5) (dpAll_int _), shaped_ints _, shaped_ints _, _, rfl, ?_⟩
                  rw [eqv_ints]
                  have sC := Same.trans sB s5
                  obtain ⟨ex, lx⟩ := start_tail fl c1 c2 en cq
                  have l3 : ns.length + (xs.length - ns.length) = xs.length := by omega
                  by_cases cs : ms = ns
                  · rw [decide_eq_true cs]
                    exact iteF ⟨_, rfl, by rw [en]; exact hq5, sC, ns, en, (by first | exact cq | rfl), (sorted_same pm srt).mp cs⟩
                  · rw [decide_eq_false cs]
                    refine iteT (k false H5 sC ⟨fun z => (by cases z), fun S => ?_⟩)
                    rw [ex, startOk_iff (by omega) (by omega)] at S
                    exact absurd ((sorted_same pm srt).mpr S.1) cs
            · rintro σ3 H3 ⟨v3, rfl, hq3, s3, ns, en, cq, srt⟩
              obtain ⟨ex, lx⟩ := start_tail fl c1 c2 en cq
              have iff := startOk_iff (ns := ns) (k := xs.length - ns.length) (by omega) (by omega)
              rw [← ex] at iff
              rw [en] at hq3
              refine ⟨_, rfl, !(ns.map V.int).isEmpty, .inl ⟨_, SqL.of hq3, rfl⟩, _, rfl, ?_⟩
              cases ns with
              | nil => exact iteT (k true H3 s3 ⟨fun _ => iff.mpr ⟨.nil, fun z h => by cases h⟩, fun _ => rfl⟩)
              | cons n0 r =>
                refine iteF ⟨_, rfl, q, _, _, .int n0, rfl, rfl, SqL.of hq3, atI_nat (j := 0) rfl, _, _, rfl, rfl, _, rfl, ?_⟩
                obtain ⟨z, hz⟩ : ∃ z, (n0 :: r)[(n0 :: r).length - 1]? = some z := ⟨_, List.getElem?_eq_getElem (by simp)⟩
                have bi := bounds_iff srt hz
                have lz : atI ((n0 :: r).map V.int) (-1) = some (.int z) := last_get (by rw [List.length_map, List.getElem?_map, hz]; rfl)
                by_cases b0 : 0 ≤ n0
                · rw [decide_eq_true b0]
                  refine iteT ⟨_, rfl, 1, rfl, q, _, _, .int z, rfl, rfl, SqL.of hq3, lz, _, _, rfl, rfl, k _ H3 s3 ?_⟩
                  rw [decide_eq_true_iff, iff]
                  exact ⟨fun h => ⟨srt, bi.mpr ⟨b0, h⟩⟩, fun h => (bi.mp h.2).2⟩
                · rw [decide_eq_false b0]
                  exact iteF (k false H3 s3 ⟨fun z => (by cases z), fun S => absurd (bi.mp (iff.mp S).2).1 b0⟩)
        · exact ⟨false, bF (by omega), iteT (k false H1 s1 ⟨fun z => (by cases z), fun S => absurd S.l2 c2⟩)⟩
      · exact ⟨false, bF (by omega), iteF ⟨false, rfl, iteT (k false H1 s1 ⟨fun z => (by cases z), fun S => absurd S.l1 c1⟩)⟩⟩
end
end WW
end

section
set_option Elab.async false
set_option linter.all false
set_option maxRecDepth 100000
set_option maxHeartbeats 4000000
namespace WW
open PySem L2 WO WG RZ WQ
section
variable {P : Program} {w : World} {K : PySem.W.Frag} {mg : Str → Option Value} {base : Heap}
theorem ixs {H : Hp} {a : Addr} {xs : List V} {i : Int} {v : V} {Q : VK} (h : SeqA K H a xs) (e : atI xs i = some v) (k : Q v H) : rIx K (.ref a) (.int i) H Q := by
  rcases h with h | h
  · exact .inl ⟨a, xs, i, v, rfl, rfl, h, e, k⟩
  · exact .inr (.inl ⟨a, xs, i, v, rfl, rfl, h, e, k⟩)
/-- whether the first value behind falls below the last one -/
def fallsV (x y : V) (g : Int) (b : Bool) : Prop :=
  (∃ i, x = .int i ∧ ((∃ j, y = .int j ∧ b = decide (i + g < j)) ∨ (y = .non ∧ b = true))) ∨ (x = .non ∧ y = .non ∧ b = false)
def spFalls (K : PySem.W.Frag) : Sp := fun vs H Q _ => ∃ (a : Addr) (xs : List V) (p g : Int) (x y : V) (b : Bool), vs = [.ref a, .int p, .int g] ∧ SeqA K H a xs ∧ atI xs (xs.length - p) = some x ∧ atI xs (-1) = some y ∧ fallsV x y g b ∧ Q (.bl b) H
theorem scFalls : FnScope ["start", "period", "growth", "behind"] ["start", "period", "growth"] (defScope sFalls) := ⟨rfl, rfl, rfl, by decide +kernel, rfl, by decide +kernel, by decide +kernel⟩
theorem ok_falls {f fA : Addr} {fd dA : FuncData} (F : Fun K "falls_behind" "falls_behind" sFalls f fd) (T : CurG mg)
    (GA : FnOk P w K mg base CX0 1 fA dA ["one", "two"] (spAbove K)) (kA : PySem.W.keepIn K (.ref fA) = true) (bA : Binds K dA ["one", "two"] []) (mA : mg "is_above" = some (.ref fA)) :
    FnOk P w K mg base CX0 2 f fd ["start", "period", "growth"] (spFalls K) := by
  refine F.ok scFalls (fun vs H Q E h => ?_) (fun cdv A outer s H vs Q E hr h => ?_)
  · obtain ⟨a, xs, p, g, x, y, b, rfl, _⟩ := h
    rfl
  · obtain ⟨a, xs, p, g, x, y, b, rfl, h, ex, ey, c, k⟩ := h
    refine ⟨_, pss_cons (ps_set (i := 3) scFalls.nd rfl (Or.inl rfl) (pe_ix ix_seq (pv 0) (pe_op op_sub (pe_callB call_len_seq (by rfl) T.len PySem.boot_len (pa_cons (pv 0) pa_nil)) (pv 1)) (fun _ _ => rfl)))
      (pss_cons (ps_if (pt_cmpR op_notN (pv 3) pe_non (nomark _)) (pss_one (ps_set (i := 3) scFalls.nd rfl (Or.inl rfl) (pe_op op_add (pv 3) (pv 2)))) pss_nil)
      (pss_one (ps_ret (pe_call GA hr rfl mA kA bA .nil pass0 (pa_cons (pe_ix ix_seq (pv 0) (pe_un un_neg pe_int) (fun _ _ => rfl)) (pa_cons (pv 3) pa_nil)))))), ?_⟩
    refine ⟨_, rfl, _, rfl, a, xs, rfl, h, _, rfl, _, _, rfl, rfl, ixs h ex ?_⟩
    rcases c with ⟨i, rfl, c⟩ | ⟨rfl, rfl, rfl⟩
    · refine ⟨_, rfl, rfl, true, rfl, iteT ⟨_, rfl, _, rfl, _, _, rfl, rfl, ?_⟩⟩
      refine ⟨_, rfl, 1, rfl, ixs h ey ?_⟩
      refine ⟨_, rfl, ?_⟩
      rcases c with ⟨j, rfl, rfl⟩ | ⟨rfl, rfl⟩
      · exact ⟨.int j, .int (i + g), rfl, .inr ⟨j, rfl, .inr ⟨_, rfl, k⟩⟩⟩
      · exact ⟨.non, .int (i + g), rfl, .inl ⟨rfl, k⟩⟩
    · refine ⟨_, rfl, rfl, false, rfl, iteF ?_⟩
      refine ⟨_, rfl, 1, rfl, ixs h ey ?_⟩
      refine ⟨_, rfl, ?_⟩
      exact above_no (K := K) (E := E0) (.inr (.inr ⟨rfl, rfl⟩)) k
/-! ### slices of lists -/
theorem six_nat {n t : Nat} {d : Nat} (h : t ≤ n) : HT.sIx n d (some (t : Int)) = t := by
  unfold HT.sIx
  dsimp only
  rw [if_neg (by omega), Int.toNat_natCast]
  omega
theorem cutL {xs : List V} {t : Nat} (h : t ≤ xs.length) : cutV xs (some (t : Int)) none = xs.drop t := by
  unfold cutV
  rw [six_nat h]
  exact List.take_of_length_le (by rw [List.length_drop]; exact Nat.le_refl _)
/-! ### least_step -/
section
variable {s : List Int} {p : Nat} {g : Int}
theorem at_get {j : Nat} (h : j < s.length) : s[j]? = some (MF.at_ s p g j) := by
  rw [MF.at_low h, List.getD_eq_getElem?_getD, List.getElem?_eq_getElem h]
  rfl
theorem tail_get {i : Nat} (hp : p ≤ s.length) (hi : i < p) : (((s.map V.int).drop (s.length - p)))[i]? = some (.int (MF.at_ s p g (s.length - p + i))) := by
  rw [List.getElem?_drop, List.getElem?_map, at_get (p := p) (g := g) (by omega)]
  rfl
theorem tail_len (hp : p ≤ s.length) : ((s.map V.int).drop (s.length - p)).length = p := by rw [List.length_drop, List.length_map]; omega
theorem next_get {i : Nat} (h0 : 0 < p) (hp : p ≤ s.length) (hi : i < p) :
    (((s.map V.int).drop (s.length - p)).drop 1 ++ [V.int (MF.at_ s p g (s.length - p) + g)])[i]? = some (.int (MF.at_ s p g (s.length - p + i + 1))) := by
  have l : (((s.map V.int).drop (s.length - p)).drop 1).length = p - 1 := by rw [List.length_drop, tail_len hp]
  by_cases e : i + 1 < p
  · rw [List.getElem?_append_left (by omega), List.getElem?_drop, Nat.add_comm 1 i, tail_get (g := g) hp e]
    rfl
  · rw [List.getElem?_append_right (by omega), l]
    have e2 : i - (p - 1) = 0 := by omega
    rw [e2]
    have q := MF.at_qp (s := s) (g := g) h0 hp (s.length - p) (Nat.le_refl _)
    have e3 : s.length - p + i + 1 = s.length - p + p := by omega
    rw [e3, q]
    rfl
def jumps (s : List Int) (p : Nat) (g : Int) (n : Nat) : List Int := (List.range n).map fun i => MF.D (MF.at_ s p g) (s.length - p + i)
theorem jumps_len (n : Nat) : (jumps s p g n).length = n := by unfold jumps; rw [List.length_map, List.length_range]
theorem jumps_snoc (n : Nat) : (jumps s p g n).map V.int ++ [.int (MF.D (MF.at_ s p g) (s.length - p + n))] = (jumps s p g (n + 1)).map V.int := by
  unfold jumps
  rw [List.range_succ, List.map_append, List.map_append]
  rfl
theorem jumps_get {n i : Nat} (h : i < n) : (jumps s p g n)[i]? = some (MF.D (MF.at_ s p g) (s.length - p + i)) := by
  unfold jumps
  rw [List.getElem?_map, List.getElem?_range h]
  rfl
theorem jumps_A {t : Nat} (ht : t ≤ p) (hd : p % t = 0) : ((jumps s p g p).drop t = (jumps s p g p).take (p - t)) ↔ MF.A (MF.at_ s p g) (s.length - p) p t := by
  constructor
  · intro e
    refine ⟨hd, fun i hi => ?_⟩
    have z : ((jumps s p g p).drop t)[i]? = ((jumps s p g p).take (p - t))[i]? := by rw [e]
    rw [List.getElem?_drop, List.getElem?_take, if_pos hi, jumps_get (by omega), jumps_get (by omega)] at z
    have z' := Option.some.inj z
    have e2 : s.length - p + (t + i) = s.length - p + i + t := by omega
    rw [e2] at z'
    exact z'
  · rintro ⟨_, h⟩
    refine List.ext_getElem? fun i => ?_
    rw [List.getElem?_drop, List.getElem?_take]
    by_cases hi : i < p - t
    · rw [if_pos hi, jumps_get (by omega), jumps_get (by omega)]
      have e2 : s.length - p + (t + i) = s.length - p + i + t := by omega
      rw [e2, h i hi]
    · rw [if_neg hi]
      exact List.getElem?_eq_none (by rw [jumps_len]; omega)
end
def spStep (K : PySem.W.Frag) : Sp := fun vs H Q _ => ∃ (a : Addr) (s : List Int) (p : Nat) (g : Int), vs = [.ref a, .int p, .int g] ∧ SqL K H a (s.map V.int) ∧ 0 < p ∧ p ≤ s.length ∧ s.length ≤ 100000 ∧
  ∀ (q : Nat) (H' : Hp), 0 < q → q ≤ p → MF.A (MF.at_ s p g) (s.length - p) p q → (∀ t, 0 < t → t < q → ¬ MF.A (MF.at_ s p g) (s.length - p) p t) → Same H H' → Q (.int q) H'
abbrev nStep : List Str := ["row", "period", "growth", "least", "tail", "jumps", "step", "one", "two"]
theorem scStep : FnScope nStep ["row", "period", "growth"] (defScope sStep) := ⟨rfl, rfl, rfl, by decide +kernel, rfl, by decide +kernel, by decide +kernel⟩
theorem fmod_nat (p t : Nat) (h : 0 < t) : Int.fmod (p : Int) (t : Int) = ((p % t : Nat) : Int) := by
  rw [Int.fmod_eq_emod_of_nonneg _ (by omega)]
  rfl
theorem fdiv_nat (p t : Nat) : Int.fdiv (p : Int) (t : Int) = ((p / t : Nat) : Int) := by
  rw [Int.fdiv_eq_ediv_of_nonneg _ (by omega)]
  rfl
theorem line_le {n : Nat} (h : n ≤ 200000) : n ≤ sizeLine := Nat.le_trans h (by decide)
theorem line_lt {n : Nat} (h : n < 200000) : n < sizeLine := Nat.lt_of_lt_of_le h (by decide)
theorem ok_step {f : Addr} {fd : FuncData} (F : Fun K "least_step" "least_step" sStep f fd) (T : CurG mg) : FnOk P w K mg base CX0 1 f fd ["row", "period", "growth"] (spStep K) := by
  refine F.ok scStep (fun vs H Q E h => ?_) (fun cdv A outer s H vs Q E hr h => ?_)
  · obtain ⟨a, s, p, g, rfl, _⟩ := h
    rfl
  · obtain ⟨a, sl, p, g, rfl, h, p0, pn, n4, k⟩ := h
    have hu := hr.units
    refine ⟨_, C8.pss_cut (ps_set (i := 3) scStep.nd rfl (Or.inl rfl) (pe_op op_fdivN (pv 1) (pe_callBfun cr_gcd (by rfl) T.gcd (pa_cons (pv 1) (pa_cons (pv 2) pa_nil)))))
      (pss_cons (ps_if (pt_cmpR op_eq (pv 3) (pv 1) (nomark _)) (pss_one (ps_ret (pv 1))) pss_nil)
      (C8.pss_cut (ps_set (i := 4) scStep.nd rfl (Or.inl rfl) (pe_slice sl_list (pv 0) (po_some (pe_op op_sub (pe_callB call_len_seq (by rfl) T.len PySem.boot_len (pa_cons (pv 0) pa_nil)) (pv 1))) po_none))
      (C8.pss_cut (ps_setLc (i := 5) (own := [("one", 7), ("two", 8)]) (g := gTup K 2 (gCons (gName 7) (gCons (gName 8) gNil))) (tt := tYes) rfl scStep.nd rfl rfl (sw_true rfl rfl rfl (by decide +kernel))
          (pi_zip (by rfl) T.zip (pa_cons (pv 4) (pa_cons (pe_op op_cat (pe_slice sl_list (pv 4) (po_some pe_int) po_none) (pe_lst (pa_cons (pe_op op_add (pe_ix ix_list (pv 4) pe_int (fun _ _ => rfl)) (pv 2)) pa_nil))) pa_nil)))
          (blkOk_by (N := nStep) (sc := defScope sStep) (by decide +kernel))
          (fun _ _ _ _ _ => pg_tup rfl (pgs_cons (pg_name (i := 7) scStep.nd rfl (Or.inl rfl)) (pgs_cons (pg_name (i := 8) scStep.nd rfl (Or.inl rfl)) pgs_nil))) (fun _ _ _ _ _ => pts_nil)
          (fun _ _ _ _ _ => pe_op op_sub (pv 8) (pv 7)))
      (pss_cons (ps_for PassesOwn.never rfl (pi_rangeW (by rfl) T.range (pa_cons (pv 3) (pa_cons (pv 1) (pa_cons (pv 3) pa_nil)))) (pg_name (i := 6) scStep.nd rfl (Or.inl rfl))
          (pss_one (ps_if (PW.pt (pw_and (pt_cmpR op_eq (pe_op op_modN (pv 1) (pv 6)) pe_int (nomark _)) (pw_and1 (pt_cmpR (op_eqD hu) (pe_slice sl_list (pv 5) (po_some (pv 6)) po_none) (pe_slice sl_list (pv 5) po_none (po_some (pe_op op_sub (pv 1) (pv 6)))) (nomark _)))))
            (pss_one (ps_ret (pv 6))) pss_nil)))
      (pss_one (ps_ret (pv 1))))))), ?_⟩
    obtain ⟨L, hL⟩ : ∃ L, L = p / Nat.gcd p g.natAbs := ⟨_, rfl⟩
    have QPf := MF.at_qp (s := sl) (g := g) p0 pn
    have L0 : 0 < L := hL ▸ MF.step_pos p0
    have Lp : L ≤ p := hL ▸ MF.step_le
    have hdv : ∀ t, 0 < t → t < p → MF.A (MF.at_ sl p g) (sl.length - p) p t → L ∣ t := fun t t0 tp a => hL ▸ a.dvd p0 QPf t0 (by omega)
    have gp : 0 < Nat.gcd p g.natAbs := Nat.gcd_pos_of_pos_left _ p0
    have gl : Nat.gcd p g.natAbs ≤ p := Nat.le_of_dvd p0 (Nat.gcd_dvd_left ..)
    refine ⟨fun σ' H' => σ' = [some (.ref a), some (.int p), some (.int g), some (.int L), none, none, none, none, none] ∧ H' = H, ?_, ?_⟩
    · refine ⟨_, rfl, _, rfl, _, rfl, p, g, rfl, (p : Int), ((Nat.gcd p g.natAbs : Nat) : Int), rfl, rfl, ⟨by omega, by omega⟩, ?_, rfl⟩
      show [_, _, _, some (V.int (Int.fdiv (p : Int) ((Nat.gcd p g.natAbs : Nat) : Int))), _, _, _, _, _] = _
      rw [fdiv_nat, ← hL]
    rintro σ0 H0 ⟨rfl, rfl⟩
    refine ⟨_, rfl, _, rfl, rfl, decide (L = p), (by show V.bl (decide (V.int (L : Int) = V.int (p : Int))) = _; congr 1; exact decide_eq_decide.mpr ⟨fun z => by have := V.int.inj z; omega, fun z => by rw [z]⟩), ?_⟩
    refine ite2 (fun c => ?_) (fun c => ?_)
    · have c' := of_decide_eq_true c
      refine ⟨_, rfl, k p H0 p0 (Nat.le_refl _) MF.A.self (fun t h1 h2 a => ?_) (Same.refl _)⟩
      have := Nat.le_of_dvd h1 (hdv t h1 h2 a)
      omega
    have hLp : L < p := by
      have : L ≠ p := fun z => c (decide_eq_true z)
      omega
    refine ⟨fun σ' H' => ∃ t, σ' = [some (.ref a), some (.int p), some (.int g), some (.int L), some (.ref t), none, none, none, none] ∧ H' t = some (.lst ((sl.map V.int).drop (sl.length - p))) ∧ Same H0 H', ?_, ?_⟩
    · refine ⟨_, rfl, _, rfl, a, _, rfl, .inl h, _, rfl, _, _, rfl, rfl, _, rfl, a, _, rfl, h, fun t ht => ?_⟩
      rw [List.length_map, show ((sl.length : Nat) : Int) - (p : Int) = ((sl.length - p : Nat) : Int) by omega, cutL (by rw [List.length_map]; omega)]
      exact ⟨t, rfl, upd_same, same_new ht⟩
    · rintro σ1 H1 ⟨t, rfl, h1, s1⟩
      have lX := tail_len (s := sl) pn
      refine ⟨fun σ' H' => ∃ j, σ' = [some (.ref a), some (.int p), some (.int g), some (.int L), some (.ref t), some (.ref j), none, none, none] ∧ H' j = some (.lst ((jumps sl p g p).map V.int)) ∧ Same H0 H', ?_, ?_⟩
      · refine ⟨_, rfl, _, rfl, 1, rfl, t, _, rfl, SqL.of h1, fun t2 ht2 => ?_⟩
        rw [cut1 (by rw [lX]; exact p0)]
        generalize g2 : upd H1 t2 (.lst (((sl.map V.int).drop (sl.length - p)).drop 1)) = H2
        obtain ⟨s2, f2⟩ := alloc g2 ht2
        have e0 : atI ((sl.map V.int).drop (sl.length - p)) 0 = some (.int (MF.at_ sl p g (sl.length - p + 0))) := atI_nat (j := 0) (tail_get pn p0)
        refine ⟨_, rfl, t, _, _, _, rfl, rfl, SqL.of (s2 _ _ h1), e0, _, rfl, _, _, rfl, rfl, (by show 1 ≤ sizeLine; decide), fun t3 ht3 => ?_⟩
        generalize g3 : upd H2 t3 _ = H3
        obtain ⟨s3, f3⟩ := alloc g3 ht3
        refine ⟨t2, t3, _, _, rfl, rfl, s3 _ _ f2, f3, ?_, fun z hz => ?_⟩
        · rw [List.length_drop, lX]
          exact line_le (show p - 1 + 1 ≤ 200000 by omega)
        generalize g4 : upd H3 z _ = H4
        obtain ⟨s4, f4⟩ := alloc g4 hz
        have hz4 : SqL K H4 z ((((sl.map V.int).drop (sl.length - p)).drop 1 ++ [V.int (MF.at_ sl p g (sl.length - p) + g)])) := SqL.of f4
        have ht4 : SqL K H4 t ((sl.map V.int).drop (sl.length - p)) := SqL.of (s4 _ _ (s3 _ _ (s2 _ _ h1)))
        refine ⟨t, z, _, _, rfl, ht4, hz4, fun D hD => lc_it (n := p) (walk_zip (by rw [lX, List.length_append, List.length_drop, lX]; show p = min p (p - 1 + 1); omega))
          (fun i H5 => H5 D = some (.lst ((jumps sl p g i).map V.int)) ∧ Same H4 H5) ⟨upd_same, same_new hD⟩ (fun i H5 _ ⟨_, s5⟩ => ⟨s5.seq ht4, s5.seq hz4⟩) ?_ ?_⟩
        · rintro i v H5 H6 hi ⟨hd5, s5⟩ ⟨tt, x, y, rfl, htt, rfl, hx, hy⟩
          dsimp only at hx hy
          rw [tail_get (g := g) pn hi] at hx
          rw [next_get p0 pn hi] at hy
          cases hx
          cases hy
          refine ⟨tt, _, rfl, SqT.of upd_same, rfl, _, _, rfl, _, _, rfl, rfl, rfl, _, rfl, _, rfl, _, _, rfl, rfl, (jumps sl p g i).map V.int, ?_, ?_, ?_⟩
          · rw [upd_ne (ne_of_none hd5 htt)]; exact hd5
          · rw [List.length_map, jumps_len]; exact line_lt (by omega)
          · have e := jumps_snoc (s := sl) (p := p) (g := g) i
            unfold MF.D at e
            rw [e]
            exact ⟨upd_same, fun b o e => by rw [upd_ne (ne_of_none e hD), upd_ne (ne_of_none (s5 _ _ e) htt)]; exact s5 _ _ e⟩
        · rintro H5 ⟨hd5, s5⟩
          exact ⟨D, rfl, hd5, Same.trans s1 (Same.trans s2 (Same.trans s3 (Same.trans s4 s5)))⟩
      · rintro σ2 H2 ⟨j, rfl, hj, s2⟩
        obtain ⟨N, hN1, hN2⟩ : ∃ N : Nat, p ≤ L * (N + 1) ∧ ∀ m, m < N → L * (m + 1) < p := by
          refine ⟨(p - 1) / L, ?_, fun m hm => ?_⟩
          · have := Nat.lt_mul_div_succ (p - 1) L0
            omega
          · have h2 := Nat.mul_div_le (p - 1) L
            have h3 : L * (m + 1) ≤ L * ((p - 1) / L) := Nat.mul_le_mul_left _ hm
            omega
        have mulc : ∀ m : Nat, (L : Int) + (m : Int) * (L : Int) = ((L * (m + 1) : Nat) : Int) := fun m => by
          rw [Int.natCast_mul, Int.natCast_add, Int.mul_add, Int.mul_comm (m : Int)]
          simp
          omega
        have hNs : N < 2 ^ 60 := by
          have : N ≤ (p - 1) / L ∨ True := .inr trivial
          rcases Nat.eq_zero_or_pos N with z | z
          · omega
          · have := hN2 (N - 1) (by omega)
            have h4 : 1 * N ≤ L * (N - 1 + 1) := by
              rw [show N - 1 + 1 = N by omega]
              exact Nat.mul_le_mul_right _ L0
            omega
        refine ⟨_, rfl, _, rfl, _, rfl, L, p, L, N, rfl, RgW.up (by omega) (by omega) (by omega) (by omega) (by omega) (by omega) hNs ?_ (fun m hm => ?_), for_rangeC (lo := L) (c := L) (n := N) (fun i σ H3 => ∃ v6, σ = [some (.ref a), some (.int p), some (.int g), some (.int L), some (.ref t), some (.ref j), v6, none, none] ∧ Same H2 H3 ∧ ∀ t, 0 < t → t < p → t < L * (i + 1) → ¬ MF.A (MF.at_ sl p g) (sl.length - p) p t) ⟨_, rfl, Same.refl _, fun t h1 h2 h3 z => by have := Nat.le_of_dvd h1 (hdv t h1 h2 z); omega⟩ ?_ ?_⟩
        · have := mulc N
          omega
        · rw [mulc]
          exact Int.ofNat_lt.mpr (hN2 m hm)
        · rintro i σ H3 hi ⟨v6, rfl, s3, no⟩
          have hj3 : H3 j = some (.lst ((jumps sl p g p).map V.int)) := s3 _ _ hj
          rw [mulc i]
          have lJ : ((jumps sl p g p).map V.int).length = p := by rw [List.length_map, jumps_len]
          have q0 : 0 < L * (i + 1) := Nat.mul_pos L0 (by omega)
          have qp : L * (i + 1) < p := hN2 i hi
          have nx : ∀ t, 0 < t → t < p → t < L * (i + 1 + 1) → t ≠ L * (i + 1) → ¬ MF.A (MF.at_ sl p g) (sl.length - p) p t := fun t h1 h2 h3 h4 z => by
            by_cases c5 : t < L * (i + 1)
            · exact no t h1 h2 c5 z
            · obtain ⟨m, hm⟩ := hdv t h1 h2 z
              have e1 : i + 1 ≤ m := by
                refine Nat.le_of_mul_le_mul_left ?_ L0
                omega
              have e2 : m < i + 1 + 1 := by
                refine Nat.lt_of_mul_lt_mul_left (a := L) ?_
                omega
              have e3 : m = i + 1 := by omega
              subst e3
              exact h4 hm
          generalize hq : L * (i + 1) = q at *
          by_cases hd : p % q = 0
          · refine ⟨_, rfl, _, rfl, _, _, rfl, rfl, by omega, rfl, true, bT (by show V.int (Int.fmod (p : Int) (q : Int)) = V.int 0; rw [fmod_nat p q (by omega), hd]; rfl), ?_⟩
            refine iteT ⟨_, rfl, _, rfl, _, rfl, j, _, rfl, SqL.of hj3, fun q1 hq1 => ?_⟩
            rw [cutL (by rw [lJ]; omega)]
            generalize g4 : upd H3 q1 _ = H4
            obtain ⟨s4, f4⟩ := alloc g4 hq1
            refine ⟨_, rfl, _, rfl, _, rfl, _, _, rfl, rfl, ((p - q : Nat) : Int), (by show V.int _ = V.int _; congr 1; omega), j, _, rfl, SqL.of (s4 _ _ hj3), fun q2 hq2 => ?_⟩
            rw [cutR (by rw [lJ]; omega), ← List.map_drop] at *
            rw [← List.map_take]
            generalize g5 : upd H4 q2 _ = H5
            obtain ⟨s5, f5⟩ := alloc g5 hq2
            refine ⟨.list (((jumps sl p g p).drop q).map .int), .list (((jumps sl p g p).take (p - q)).map .int), .lst (SqL.of (s5 _ _ f4)) (dpAll_int _), .lst (SqL.of f5) (dpAll_int _), shaped_ints _, shaped_ints _, _, rfl, ?_⟩
            rw [eqv_ints]
            refine ite2 (fun c => ?_) (fun c => ?_)
            · have c' := of_decide_eq_true c
              exact ⟨_, rfl, k q H5 (by omega) (by omega) ((jumps_A (by omega) hd).mp c') (fun t h1 h2 => no t h1 (by omega) (by omega)) (Same.trans s2 (Same.trans s3 (Same.trans s4 s5)))⟩
            · refine ⟨_, rfl, Same.trans s3 (Same.trans s4 s5), fun t h1 h2 h3 => ?_⟩
              by_cases e : t = q
              · rw [e]
                exact fun z => c (decide_eq_true ((jumps_A (by omega) hd).mpr z))
              · exact nx t h1 h2 h3 e
          · refine ⟨_, rfl, _, rfl, _, _, rfl, rfl, by omega, rfl, false, bF (fun z => hd (by have z' : V.int (Int.fmod (p : Int) (q : Int)) = V.int 0 := z; rw [fmod_nat p q (by omega)] at z'; have := V.int.inj z'; omega)), ?_⟩
            refine iteF ⟨_, rfl, s3, fun t h1 h2 h3 => ?_⟩
            by_cases e : t = q
            · rw [e]
              exact fun z => hd z.1
            · exact nx t h1 h2 h3 e
        · rintro σ H3 ⟨v6, rfl, s3, no⟩
          refine ⟨_, rfl, ?_⟩
          exact k p H3 p0 (Nat.le_refl _) MF.A.self (fun t h1 h2 => no t h1 h2 (by omega)) (Same.trans s2 s3)
end
end WW
end

section
set_option Elab.async false
set_option linter.all false
set_option maxRecDepth 100000
set_option maxHeartbeats 4000000
namespace WW
open PySem L2 WO WG RZ WQ
/-- what a row is told by -/
inductive FormIn : List V → Nat → Int → Prop
  | mkI (s : List Int) (p : Nat) (g : Int) (p0 : 0 < p) (pn : p ≤ s.length) (n4 : s.length ≤ 100000) (g0 : 0 ≤ g) (g1 : g ≤ 1000000000000000000) : FormIn (s.map V.int) p g
  | mkN (s : List Int) (k p : Nat) (g : Int) (n4 : s.length + (k + 1) ≤ 100000) : FormIn (s.map V.int ++ List.replicate (k + 1) .non) p g
inductive FormV : List V → Nat → Int → List V → Int → Int → Prop
  | mkI (s : List Int) (p : Nat) (g : Int) (q : Nat) (r : Int) (b : Nat) (p0 : 0 < p) (pn : p ≤ s.length) (h : MF.IsForm (MF.at_ s p g) q r b) (l : b + q ≤ s.length) :
      FormV (s.map V.int) p g ((List.range (b + q)).map fun j => V.int (MF.at_ s p g j)) q r
  | mkN (s : List Int) (k p : Nat) (g : Int) : FormV (s.map V.int ++ List.replicate (k + 1) .non) p g (s.map V.int ++ [.non]) 1 0
section
variable {P : Program} {w : World} {K : PySem.W.Frag} {mg : Str → Option Value} {base : Heap}
def spForm (K : PySem.W.Frag) : Sp := fun vs H Q _ => ∃ (a : Addr) (xs : List V) (p : Nat) (g : Int), vs = [.ref a, .int p, .int g] ∧ H a = some (.lst xs) ∧ FormIn xs p g ∧
  ∀ (vals : List V) (q r : Int) (t T : Addr) (H' : Hp), FormV xs p g vals q r → H' t = some (.tup vals) → H' T = some (.tup [.ref t, .int q, .int r]) → Same H H' → Q (.ref T) H'
abbrev nForm : List Str := ["row", "period", "growth", "step", "rise", "begin"]
theorem scForm : FnScope nForm ["row", "period", "growth"] (defScope sForm) := ⟨rfl, rfl, rfl, by decide +kernel, rfl, by decide +kernel, by decide +kernel⟩
theorem take_vals {s : List Int} {p n : Nat} {g : Int} (h : n ≤ s.length) : (s.map V.int).take n = (List.range n).map fun j => V.int (MF.at_ s p g j) := by
  refine List.ext_getElem? fun i => ?_
  rw [List.getElem?_take]
  by_cases hi : i < n
  · rw [if_pos hi, List.getElem?_map, at_get (p := p) (g := g) (by omega), List.getElem?_map, List.getElem?_range hi]
    rfl
  · rw [if_neg hi]
    exact (List.getElem?_eq_none (by rw [List.length_map, List.length_range]; omega)).symm
theorem get_map {s : List Int} {p j : Nat} {g : Int} (h : j < s.length) : (s.map V.int)[j]? = some (.int (MF.at_ s p g j)) := by
  rw [List.getElem?_map, at_get (p := p) (g := g) h]
  rfl
theorem nones_get {s : List Int} {k : Nat} (i : Nat) (h1 : s.length ≤ i) (h2 : i < s.length + (k + 1)) : (s.map V.int ++ List.replicate (k + 1) V.non)[i]? = some .non := by
  rw [List.getElem?_append_right (by rw [List.length_map]; exact h1), List.length_map, List.getElem?_replicate, if_pos (by omega)]
theorem ints_get {s : List Int} {r : List V} (i : Nat) (h1 : i < s.length) : ∃ z, (s.map V.int ++ r)[i]? = some (.int z) := by
  rw [List.getElem?_append_left (by rw [List.length_map]; exact h1), List.getElem?_map, List.getElem?_eq_getElem h1]
  exact ⟨_, rfl⟩
theorem ok_form {f fS : Addr} {fd dS : FuncData} (F : Fun K "least_form" "least_form" sForm f fd) (T : CurG mg)
    (GS : FnOk P w K mg base CX0 1 fS dS ["row", "period", "growth"] (spStep K)) (kS : PySem.W.keepIn K (.ref fS) = true) (bS : Binds K dS ["row", "period", "growth"] []) (mS : mg "least_step" = some (.ref fS)) :
    FnOk P w K mg base CX0 2 f fd ["row", "period", "growth"] (spForm K) := by
  refine F.ok scForm (fun vs H Q E h => ?_) (fun cdv A outer s H vs Q E hr h => ?_)
  · obtain ⟨a, xs, p, g, rfl, _⟩ := h
    rfl
  · obtain ⟨a, xs, p, g, rfl, ha, h, k⟩ := h
    have hu := hu_of hr
    refine ⟨_, pss_cons (ps_if (pt_cmpR op_isN (pe_ix ix_list (pv 0) (pe_un un_neg pe_int) (fun _ _ => rfl)) pe_non (nomark _))
        (pss_one (ps_ret (pe_tup (pa_cons (pe_callTy call_tuple_of (by rfl) T.tuple (by decide +kernel) (pa_cons (pe_slice sl_list (pv 0) po_none (po_some (pe_op op_add (pe_bm PySem.F.plainAttrs_list PySem.F.slot_list_index PySem.F.type_list_index mt_index (pv 0) (pa_cons pe_non pa_nil)) pe_int))) pa_nil)) (pa_cons pe_int (pa_cons pe_int pa_nil)))))) pss_nil)
      (C8.pss_cut (ps_set (i := 3) scForm.nd rfl (Or.inl rfl) (pe_call GS hr rfl mS kS bS .nil pass0 (pa_cons (pv 0) (pa_cons (pv 1) (pa_cons (pv 2) pa_nil)))))
      (pss_cons (ps_set (i := 4) scForm.nd rfl (Or.inl rfl) (pe_op op_fdivN (pe_op op_mul (pv 2) (pv 3)) (pv 1)))
      (pss_cons (ps_set (i := 5) scForm.nd rfl (Or.inl rfl) (pe_op op_sub (pe_callB call_len_seq (by rfl) T.len PySem.boot_len (pa_cons (pv 0) pa_nil)) (pv 1)))
      (C8.pss_cut (ps_while PassesOwn.never (PW.pt (pw_and (pt_cmpR op_gt (pv 5) pe_int (nomark _)) (pw_and1 (pt_cmpR op_eq (pe_ix ix_list (pv 0) (pe_op op_add (pe_op op_sub (pv 5) pe_int) (pv 3)) (fun _ _ => rfl)) (pe_op op_add (pe_ix ix_list (pv 0) (pe_op op_sub (pv 5) pe_int) (fun _ _ => rfl)) (pv 4)) (nomark _)))))
          (pss_one (ps_aug (i := 5) scForm.nd rfl (Or.inl rfl) pe_int ip_sub)))
      (pss_one (ps_ret (pe_tup (pa_cons (pe_callTy call_tuple_of (by rfl) T.tuple (by decide +kernel) (pa_cons (pe_slice sl_list (pv 0) po_none (po_some (pe_op op_add (pv 5) (pv 3)))) pa_nil)) (pa_cons (pv 3) (pa_cons (pv 4) pa_nil)))))))))), ?_⟩
    cases h with
    | mkI s p g p0 pn n4 g0 g1 =>
      have el : (s.map V.int)[(s.map V.int).length - 1]? = some (.int (MF.at_ s p g (s.length - 1))) := by
        rw [List.length_map]
        exact get_map (by omega)
      refine ⟨_, rfl, 1, rfl, a, _, _, _, rfl, rfl, SqL.of ha, last_get el, rfl, false, rfl, iteF ?_⟩
      refine ⟨fun σ' H' => ∃ q : Nat, σ' = [some (.ref a), some (.int p), some (.int g), some (.int q), none, none] ∧ 0 < q ∧ q ≤ p ∧ MF.A (MF.at_ s p g) (s.length - p) p q ∧ (∀ t, 0 < t → t < q → ¬ MF.A (MF.at_ s p g) (s.length - p) p t) ∧ Same H H', ?_, ?_⟩
      · exact ⟨_, rfl, _, rfl, _, rfl, a, s, p, g, rfl, SqL.of ha, p0, pn, n4, fun q H' h1 h2 h3 h4 h5 => ⟨q, rfl, h1, h2, h3, h4, h5⟩⟩
      · rintro σ1 H1 ⟨q, rfl, q0, qp, qA, qm, s1⟩
        have QP := MF.at_qp (s := s) (g := g) p0 pn
        have DS := qA.dp q0 qp QP.dp
        have IF := MF.form_of p0 QP q0 qp qA qm
        have ri := MF.rise_of q0 qp QP qA.1 DS
        have ha1 := s1 _ _ ha
        have gm : ∀ j, j < s.length → (s.map V.int)[j]? = some (.int (MF.at_ s p g j)) := fun j h => get_map h
        have tk : ∀ n, n ≤ s.length → (s.map V.int).take n = (List.range n).map fun j => V.int (MF.at_ s p g j) := fun n h => take_vals h
        have fin := fun b q => FormV.mkI s p g q (MF.at_ s p g (s.length - p + q) - MF.at_ s p g (s.length - p)) b p0 pn
        have fin := fin _ q IF (by have := MF.down_le (fun j => decide (MF.at_ s p g (j + q) = MF.at_ s p g j + (MF.at_ s p g (s.length - p + q) - MF.at_ s p g (s.length - p)))) (s.length - p); omega)
        have hb0 : s.length - p + p = s.length := by omega
        generalize hf : MF.at_ s p g = f at *
        generalize hR : f (s.length - p + q) - f (s.length - p) = R at *
        generalize hb : s.length - p = b0 at *
        have e4 : Int.fdiv (g * (q : Int)) (p : Int) = R := by
          rw [ri, Int.mul_fdiv_cancel _ (by omega)]
        refine ⟨_, rfl, _, rfl, _, _, rfl, rfl, .inl ⟨by omega, by omega⟩, _, rfl, _, _, rfl, rfl, ⟨by omega, by omega⟩, ?_⟩
        refine ⟨_, rfl, a, _, rfl, .inl (SqL.of ha1), _, rfl, _, _, rfl, rfl, ?_⟩
        have e5 : ((s.map V.int).length : Int) - (p : Int) = (b0 : Int) := by rw [List.length_map]; omega
        generalize hP : (fun j => decide (f (j + q) = f j + R)) = Pd at *
        have Pe : ∀ j, Pd j = decide (f (j + q) = f j + R) := fun j => by rw [← hP]
        refine ⟨fun σ' H' => σ' = [some (.ref a), some (.int p), some (.int g), some (.int q), some (.int R), some (.int (MF.down Pd b0))] ∧ H' = H1, ?_, ?_⟩
        rotate_left
        · rintro σ2 H2 ⟨rfl, rfl⟩
          have eq : ((MF.down Pd b0 : Nat) : Int) + (q : Int) = ((MF.down Pd b0 + q : Nat) : Int) := by omega
          refine ⟨_, rfl, _, rfl, _, rfl, _, _, rfl, rfl, ((MF.down Pd b0 + q : Nat) : Int), (by show V.int _ = V.int _; rw [eq]), a, _, rfl, SqL.of ha1, fun t ht => ?_⟩
          have lq : MF.down Pd b0 + q ≤ s.length := by have := MF.down_le Pd b0; omega
          rw [cutR (by rw [List.length_map]; exact lq), tk _ lq]
          generalize g3 : upd H2 t _ = H3
          obtain ⟨s3, f3⟩ := alloc g3 ht
          refine ⟨t, _, rfl, .inl ⟨SqL.of f3, fun l hl => ?_⟩⟩
          generalize g4 : upd H3 l _ = H4
          obtain ⟨s4, f4⟩ := alloc g4 hl
          refine ⟨_, rfl, _, rfl, (by show 3 ≤ sizeLine; decide), fun T hT => ?_⟩
          generalize g5 : upd H4 T _ = H5
          obtain ⟨s5, f5⟩ := alloc g5 hT
          exact k _ _ _ l T H5 fin (s5 _ _ f4) f5 (Same.trans s1 (Same.trans s3 (Same.trans s4 s5)))
        refine while_by (fun σ H => ∃ c : Nat, σ = [some (.ref a), some (.int p), some (.int g), some (.int q), some (.int R), some (.int c)] ∧ c ≤ b0 ∧ MF.down Pd c = MF.down Pd b0 ∧ H = H1)
          (fun σ _ => match σ with
            | [_, _, _, _, _, some (.int c)] => c.toNat
            | _ => 0) ⟨b0, ?_, Nat.le_refl _, rfl, rfl⟩ ?_ ?_
        · show [some (V.ref a), some (V.int p), some (V.int g), some (V.int q), some (V.int (Int.fdiv (g * (q : Int)) (p : Int))), some (V.int (((s.map V.int).length : Int) - (p : Int)))] = _
          rw [e4, e5]
        · rintro σ H2 ⟨c, rfl, cb, cd, rfl⟩
          cases c with
          | zero =>
            refine ⟨_, rfl, _, _, rfl, rfl, false, bF (by omega), iteF ?_⟩
            exact iteF ⟨by rw [← cd]; rfl, rfl⟩
          | succ c =>
            have ei : ((c + 1 : Nat) : Int) - 1 + (q : Int) = ((c + q : Nat) : Int) := by omega
            have ej : ((c + 1 : Nat) : Int) - 1 = (c : Int) := by omega
            refine ⟨_, rfl, _, _, rfl, rfl, true, bT (by omega), iteT ?_⟩
            refine ⟨_, rfl, _, rfl, _, _, rfl, rfl, _, rfl, _, _, rfl, rfl, a, _, _, V.int (f (c + q)), rfl, rfl, SqL.of ha1, ?_, ?_⟩
            · show atI _ (((c + 1 : Nat) : Int) - 1 + (q : Int)) = _
              rw [ei]
              exact atI_nat (gm _ (by omega))
            refine ⟨_, rfl, _, rfl, _, _, rfl, rfl, a, _, _, V.int (f c), rfl, rfl, SqL.of ha1, ?_, _, rfl, _, _, rfl, rfl, rfl, Pd c, ?_, ?_⟩
            · show atI _ (((c + 1 : Nat) : Int) - 1) = _
              rw [ej]
              exact atI_nat (gm _ (by omega))
            · rw [Pe]
              show V.bl (decide (V.int (f (c + q)) = V.int (f c + R))) = _
              congr 1
              exact decide_eq_decide.mpr ⟨fun z => V.int.inj z, fun z => by rw [z]⟩
            · have cd : (if Pd c then MF.down Pd c else c + 1) = MF.down Pd b0 := cd
              cases e : Pd c with
              | true =>
                rw [e, if_pos rfl] at cd
                refine iteT ⟨_, rfl, _, _, rfl, rfl, ⟨c, by show [_, _, _, _, _, some (V.int (((c + 1 : Nat) : Int) - 1))] = _; rw [ej], by omega, cd, rfl⟩, ?_⟩
                show (((c + 1 : Nat) : Int) - 1).toNat < ((c + 1 : Nat) : Int).toNat
                omega
              | false =>
                rw [e, if_neg Bool.false_ne_true] at cd
                exact iteF ⟨by rw [← cd], rfl⟩
        · intro σ H Q Q' m h
          obtain ⟨v1, e1, i, j, e2, e3, b, e4, h⟩ := h
          refine ⟨v1, e1, i, j, e2, e3, b, e4, ?_⟩
          cases b with
          | false => exact m _ _ h
          | true =>
            obtain ⟨w1, f1, w2, f2, i1, j1, g1, g2, w3, f3, i2, j2, g3, g4, pp, xs, ii, vv, k1, k2, k3, k4, w4, f4, w5, f5, i3, j3, g5, g6, pp', xs', ii', vv', l1, l2, l3, l4, w6, f6, i4, j4, g7, g8, sc, b2, eb, hQ⟩ := h
            exact ⟨w1, f1, w2, f2, i1, j1, g1, g2, w3, f3, i2, j2, g3, g4, pp, xs, ii, vv, k1, k2, k3, k4, w4, f4, w5, f5, i3, j3, g5, g6, pp', xs', ii', vv', l1, l2, l3, l4, w6, f6, i4, j4, g7, g8, sc, b2, eb, m _ _ hQ⟩
    | mkN s k' p g n4 =>
      have lx : (s.map V.int ++ List.replicate (k' + 1) V.non).length = s.length + (k' + 1) := by rw [List.length_append, List.length_map, List.length_replicate]
      have el : (s.map V.int ++ List.replicate (k' + 1) V.non)[(s.map V.int ++ List.replicate (k' + 1) V.non).length - 1]? = some .non := nones_get _ (by rw [lx]; omega) (by rw [lx]; omega)
      refine ⟨_, rfl, 1, rfl, a, _, _, _, rfl, rfl, SqL.of ha, last_get el, rfl, true, rfl, iteT ?_⟩
      have fl : (s.map V.int ++ List.replicate (k' + 1) V.non).all flatV = true := by
        rw [List.all_eq_true]
        intro x hx
        rcases List.mem_append.mp hx with hx | hx
        · obtain ⟨z, _, rfl⟩ := List.mem_map.mp hx
          rfl
        · rw [(List.mem_replicate.mp hx).2]
          rfl
      have tk : (s.map V.int ++ List.replicate (k' + 1) V.non).take (s.length + 1) = s.map V.int ++ [.non] := by
        rw [List.take_append, List.length_map, show s.length + 1 - s.length = 1 by omega, List.take_of_length_le (by rw [List.length_map]; omega)]
        rfl
      refine ⟨_, rfl, _, rfl, .inl ⟨rfl, _, SqL.of ha⟩, a, _, .non, s.length, .non, rfl, rfl, SqL.of ha, rfl, fl, nones_get _ (Nat.le_refl _) (by omega), rfl, fun m z' hm hz => ?_, _, _, rfl, rfl, ((s.length + 1 : Nat) : Int), rfl, a, _, rfl, SqL.of ha, fun t ht => ?_⟩
      · obtain ⟨z, hz2⟩ := ints_get (s := s) (r := List.replicate (k' + 1) V.non) m hm
        rw [hz2] at hz
        cases hz
        rfl
      rw [cutR (by rw [lx]; omega), tk]
      generalize g3 : upd H t _ = H3
      obtain ⟨s3, f3⟩ := alloc g3 ht
      refine ⟨t, _, rfl, .inl ⟨SqL.of f3, fun l hl => ?_⟩⟩
      generalize g4 : upd H3 l _ = H4
      obtain ⟨s4, f4⟩ := alloc g4 hl
      refine ⟨(by show 3 ≤ sizeLine; decide), fun T hT => ?_⟩
      generalize g5 : upd H4 T _ = H5
      obtain ⟨s5, f5⟩ := alloc g5 hT
      exact k _ _ _ l T H5 (FormV.mkN s k' p g) (s5 _ _ f4) f5 (Same.trans s3 (Same.trans s4 s5))
end
end WW
end

section
set_option Elab.async false
set_option linter.all false
set_option maxRecDepth 100000
set_option maxHeartbeats 4000000
/-! Own errors with one attribute: their making, raised. -/
namespace WT
open PySem PySem.Spec PyProof.Rows L2
/-- the promise of «def __init__(self, f): self.f = f» -/
def spErrI (K : PySem.W.Frag) (f : Str) : Sp := fun vs H Q _ => ∃ (a C : Addr) (y : V), vs = [.ref a, y] ∧ H a = some (exo a C none) ∧ OexC K C ∧ PySem.W.findIn K (.ref C) f = some none ∧
  ∀ d, H d = none → d ≠ a → Q .non (upd (upd H d (exd d [(f, y)])) a (exo a C (some d)))
/-- an own error class x with an attribute f, as the top has made it -/
structure ErrT (P : Program) (w : World) (K : PySem.W.Frag) (mg : Str → Option Value) (base : Heap) (x f : Str) (C fI : Addr) (fd : FuncData) : Prop where
  ox : OexC K C
  iC : PySem.W.findIn K (.ref C) "__init__" = some (some (.ref fI))
  tI : PySem.W.typeIn K (.ref fI) = some (.type "function")
  hf : PySem.W.findIn K (.ref C) f = some none
  hd : PySem.W.hasDictIn K C = true
  ask : AskE K C
  gC : mg x = some (.ref C)
  fn : FnOk P w K mg base CX0 1 fI fd [("self" : Str), f] (spErrI K f)
  bd : Binds K fd [("self" : Str), f] []
/-- how the raising leaves the heap -/
def Raised (H : Hp) (f : Str) (y : V) (d : Addr) (H' : Hp) : Prop := H d = none ∧ H' d = some (.xd [(f, y)]) ∧ Same H H'
theorem mkO_post {P : Program} {w : World} {K : PySem.W.Frag} {mg : Str → Option Value} {base : Heap} {x f : Str} {C fI : Addr} {fd : FuncData} {H : Hp} {y : V} {Q : XK} (T : ErrT P w K mg base x f C fI fd)
    (k : ∀ d H', Raised H f y d H' → Q (.ref C) (some d) H') :
    [y].length ≤ 1000 ∧ ∀ a, H a = none → spErrI K f (.ref a :: ([y] ++ [])) (upd H a (exo a C none))
      (fun v H2 => v = .non ∧ ∃ (d : Addr) (fs : List (Str × V)), H2 a = some (exo a C (some d)) ∧ H2 d = some (exd d fs) ∧ H d = none ∧ Q (.ref C) (some d) (upd (del H2 a) d (.xd fs))) (fun _ _ _ => False) := by
  refine ⟨(by show 1 ≤ 1000; decide), fun a ha => ⟨a, C, y, rfl, upd_same, T.ox, T.hf, fun d hd hne => ?_⟩⟩
  have hd0 : H d = none := by rwa [upd_ne hne] at hd
  refine ⟨rfl, d, [(f, y)], upd_same, by rw [upd_ne hne, upd_same], hd0, k d _ ⟨hd0, upd_same, fun b o e => ?_⟩⟩
  have b1 : b ≠ d := ne_of_none e hd0
  have b2 : b ≠ a := ne_of_none e ha
  rw [upd_ne b1, del_ne b2, upd_ne b2, upd_ne b1, upd_ne b2]
  exact e
/-- an own error class x without an attribute -/
structure PlainT (K : PySem.W.Frag) (mg : Str → Option Value) (x : Str) (C : Addr) : Prop where
  ex : PySem.W.excIn K C [.type "ValueError", .type "Exception", .type "BaseException", .type "object"] "ValueError.__new__" = true
  gC : mg x = some (.ref C)
  kC : PySem.W.keepIn K (.ref C) = true
  sb : PySem.W.subIn K (.ref C) (.type "BaseException") = some true
  ty : PySem.W.typeIn K (.ref C) = some (.type "type")
  ask : AskE K C
/-- the wish of nothing -/
abbrev E00 : XK := fun _ _ _ => False
theorem passF {X : Cx} : Passes (L2.CX X.prog X.w) X E00 := by
  intro pins σ H s e s' I c
  obtain ⟨a, B, H', cls, d, _, _, _, _, _, _, _, z⟩ := c
  exact z.elim
/-- from where an error leaves the def -/
theorem passX {X : Cx} {W : WX} {E : XK} (tk : Takes X W) (h : ∀ cls d σ H, E cls d H → W cls d σ H) : Passes (L2.CX X.prog X.w) X E := passes_call tk h
theorem Raised.same {H H1 H2 : Hp} {f : Str} {y : V} {d : Addr} (s : Same H H1) (r : Raised H1 f y d H2) : Raised H f y d H2 :=
  ⟨s.free r.1, r.2.1, Same.trans s r.2.2⟩
end WT
end

section
set_option Elab.async false
set_option linter.all false
set_option maxRecDepth 100000
set_option maxHeartbeats 4000000
namespace WW
open PySem L2 WO WG RZ WQ WT
def inClass (st : Stmt) (i : Nat) : Stmt := match st with
  | .ClassDef _ _ _ body _ _ _ _ _ _ _ => body.getD i (.Pass ⟨0, 0, 0, 0⟩)
  | s => s
abbrev sInit : Stmt := inClass sCurve 0
abbrev sEq : Stmt := inClass sCurve 1
structure MakeOk (xs : List V) (p : Nat) (g : Int) : Prop where
  st : StartOk xs
  fo : FormIn xs p g
  p1 : 1 ≤ p
  p2 : p ≤ 60
  p3 : p ≤ xs.length
  g0 : 0 ≤ g
  g1 : g ≤ 1000000000
  fa : ∃ x y : V, atI xs ((xs.length : Int) - (p : Int)) = some x ∧ atI xs (-1) = some y ∧ ((∃ i j : Int, x = .int i ∧ y = .int j ∧ j ≤ i + g) ∨ (x = .non ∧ y = .non))
structure CurT (K : PySem.W.Frag) (mg : Str → Option Value) (C fI fE : Addr) : Prop where
  cl : Cls K C
  nS : NoAttr K C "start"
  nP : NoAttr K C "period"
  nG : NoAttr K C "growth"
  cc : PySem.W.findIn K (.ref C) "__class__" = some (some (.builtin "object.__class__"))
  cg : PySem.W.specialIn K (.builtin "object.__class__") "__get__" = some (some (.builtin "getset_descriptor.__get__"))
  ct : PySem.W.takesIn K (.builtin "object.__class__") = some true
  co : PySem.W.mroIn K C (.type "object") = some true
  kC : PySem.W.kitOne K (.ref C) (.ref C) = some true
  kD : PySem.W.kitOne K (.type "dict") (.ref C) = some false
  kT : PySem.W.kitOne K (.type "tuple") (.ref C) = some false
  mC : mg "Curve" = some (.ref C)
  mkC : Mk K C fI
  eqF : PySem.W.findIn K (.ref C) "__eq__" = some (some (.ref fE))
  iE : PySem.W.isFn K (.ref fE) = true
  ne : neB K C fE = true
  nfC : PySem.W.notFirst K C (.ref C) = true
  nfD : PySem.W.notFirst K C (.type "dict") = true
  nfT : PySem.W.notFirst K C (.type "tuple") = true
def curF (t : Addr) (q r : Int) : List (Str × V) := [("start", V.ref t), ("period", .int q), ("growth", .int r)]
def CurveAt (H : Hp) (C x : Addr) (vals : List V) (q r : Int) : Prop := ∃ dx t, H x = some (.ins C dx (curF t q r)) ∧ H t = some (.tup vals)
theorem CurveAt.same {H H' : Hp} {C x : Addr} {vals : List V} {q r : Int} (h : CurveAt H C x vals q r) (s : Same H H') : CurveAt H' C x vals q r := by
  obtain ⟨dx, t, h1, h2⟩ := h
  exact ⟨dx, t, s _ _ h1, s _ _ h2⟩
section
variable {P : Program} {w : World} {K : PySem.W.Frag} {mg : Str → Option Value} {base : Heap}
/-- what may stand in the place of a number -/
def badFrom (K : PySem.W.Frag) (H : Hp) (x : V) (lo hi : Int) : Prop := NumT K H x false ∨ ∃ i : Int, x = .int i ∧ ¬ (lo ≤ i ∧ i ≤ hi)
theorem from_bad {K : PySem.W.Frag} {H : Hp} {x : V} {lo hi : Int} {Q : VK} {E : XK} (h : badFrom K H x lo hi) (k : Q (.bl false) H) : spFrom K [x, .int lo, .int hi] H Q E := by
  rcases h with h | ⟨i, rfl, h⟩
  · exact ⟨_, _, _, rfl, .inr ⟨h, k⟩⟩
  · refine ⟨_, _, _, rfl, .inl ⟨i, lo, hi, rfl, rfl, rfl, ?_⟩⟩
    rw [decide_eq_false h]
    exact k
theorem from_ok {K : PySem.W.Frag} {H : Hp} {i lo hi : Int} {Q : VK} {E : XK} (h : lo ≤ i ∧ i ≤ hi) (k : Q (.bl true) H) : spFrom K [.int i, .int lo, .int hi] H Q E := by
  refine ⟨_, _, _, rfl, .inl ⟨i, lo, hi, rfl, rfl, rfl, ?_⟩⟩
  rw [decide_eq_true h]
  exact k
theorem badFrom.same {K : PySem.W.Frag} {H H' : Hp} {x : V} {lo hi : Int} (h : badFrom K H x lo hi) (s : Same H H') : badFrom K H' x lo hi := by
  rcases h with h | h
  · exact .inl (h.same s)
  · exact .inr h
/-- which part of a curve is told wrong, the first one first -/
inductive InitBad (K : PySem.W.Frag) (H : Hp) (s p g : V) : Str → Prop
  | noList (h : ListT K H s false) : InitBad K H s p g "start"
  | start {a : Addr} {xs : List V} (e : s = .ref a) (h : SeqA K H a xs) (fl : xs.all flatV = true) (hz : xs.length < sizeLine) (no : ¬ StartOk xs) : InitBad K H s p g "start"
  | period {a : Addr} {xs : List V} (e : s = .ref a) (h : SeqA K H a xs) (fl : xs.all flatV = true) (S : StartOk xs) (hp : badFrom K H p 1 ((min 60 xs.length : Nat) : Int)) : InitBad K H s p g "period"
  | growth {a : Addr} {xs : List V} {n : Nat} (e : s = .ref a) (h : SeqA K H a xs) (fl : xs.all flatV = true) (S : StartOk xs) (ep : p = .int n) (p1 : 1 ≤ n) (p2 : n ≤ 60) (p3 : n ≤ xs.length) (hg : badFrom K H g 0 1000000000) : InitBad K H s p g "growth"
  | falls {a : Addr} {xs : List V} {n : Nat} {i : Int} {x y : V} (e : s = .ref a) (h : SeqA K H a xs) (fl : xs.all flatV = true) (S : StartOk xs) (ep : p = .int n) (p1 : 1 ≤ n) (p2 : n ≤ 60) (p3 : n ≤ xs.length) (eg : g = .int i) (g0 : 0 ≤ i) (g1 : i ≤ 1000000000)
      (ex : atI xs ((xs.length : Int) - (n : Int)) = some x) (ey : atI xs (-1) = some y) (fa : fallsV x y i true) : InitBad K H s p g "growth"
theorem StartOk.flat {xs : List V} (S : StartOk xs) : xs.all flatV = true := by
  rw [List.all_eq_true]
  intro x hx
  obtain ⟨i, hi, e⟩ := List.mem_iff_getElem.mp hx
  rcases S.el i x (by rw [List.getElem?_eq_getElem hi, e]) with rfl | ⟨z, rfl, _⟩ <;> rfl
theorem min60 (n : Nat) : (if (n : Int) < 60 then (n : Int) else 60) = ((min 60 n : Nat) : Int) := by
  split <;> omega
def spInit (K : PySem.W.Frag) (C CB : Addr) : Sp := fun vs H Q E => ∃ (x dx : Addr) (s p g : V), vs = [.ref x, s, p, g] ∧ H x = some (.ins C dx []) ∧
  ((∃ (a : Addr) (xs : List V) (n : Nat) (i : Int), s = .ref a ∧ p = .int n ∧ g = .int i ∧ SeqA K H a xs ∧ MakeOk xs n i ∧
    ∀ (vals : List V) (q r : Int) (H' : Hp), FormV xs n i vals q r → CurveAt H' C x vals q r → (∀ b o, H b = some o → b ≠ x → H' b = some o) → Q .non H') ∨
  ∃ part, InitBad K H s p g part ∧ ∀ d H', Raised H "part" (.str part) d H' → E (.ref CB) (some d) H')
theorem scInit : FnScope ["self", "start", "period", "growth"] ["self", "start", "period", "growth"] (defScope sInit) := ⟨rfl, rfl, rfl, by decide +kernel, rfl, by decide +kernel, by decide +kernel⟩
theorem ok_init {f fS fF fA fM C fE CB fI : Addr} {fd dS dF dA dM dI : FuncData} (F : Fun K "__init__" "Curve.__init__" sInit f fd) (T : CurG mg) (U : CurT K mg C f fE) (B : ErrT P w K mg base "BadCurve" "part" CB fI dI)
    (GS : FnOk P w K mg base CX0 3 fS dS ["thing"] (spStart K)) (kS : PySem.W.keepIn K (.ref fS) = true) (bS : Binds K dS ["thing"] []) (mS : mg "is_start" = some (.ref fS))
    (GF : FnOk P w K mg base CX0 2 fF dF ["thing", "low", "high"] (spFrom K)) (kF : PySem.W.keepIn K (.ref fF) = true) (bF : Binds K dF ["thing", "low", "high"] []) (mF : mg "is_from" = some (.ref fF))
    (GA : FnOk P w K mg base CX0 2 fA dA ["start", "period", "growth"] (spFalls K)) (kA : PySem.W.keepIn K (.ref fA) = true) (bA : Binds K dA ["start", "period", "growth"] []) (mA : mg "falls_behind" = some (.ref fA))
    (GM : FnOk P w K mg base CX0 2 fM dM ["row", "period", "growth"] (spForm K)) (kM : PySem.W.keepIn K (.ref fM) = true) (bM : Binds K dM ["row", "period", "growth"] []) (mM : mg "least_form" = some (.ref fM)) :
    FnOk P w K mg base (L2.CX P w) 4 f fd ["self", "start", "period", "growth"] (spInit K C CB) := by
  refine F.okX scInit (fun vs H Q E h => ?_) (fun cdv A outer s H vs Q E hr h => ?_)
  · obtain ⟨x, dx, s, p, g, rfl, _⟩ := h
    rfl
  · obtain ⟨x, dx, sv, pv', gv, rfl, hx, h⟩ := h
    have hr2 := hr.mono (show 2 ≤ 3 by decide)
    obtain ⟨tm, mMost⟩ := T.most
    refine ⟨_, pss_cons (ps_if (pt_not (pt_val (pe_call GS hr rfl mS kS bS .nil pass0 (pa_cons (pv 1) pa_nil))))
        (pss_one (ps_raise rfl (takes_of rfl rfl rfl rfl) (pmk_oex B.ox B.iC B.tI B.fn hr2 B.bd .nil pass0 rfl B.gC (pa_cons pe_str pa_nil)))) pss_nil)
      (pss_cons (ps_if (pt_not (pt_val (pe_call GF hr2 rfl mF kF bF .nil pass0 (pa_cons (pv 2) (pa_cons pe_int (pa_cons (pe_callB (call_min2 rfl) (by rfl) T.min (by decide +kernel) (pa_cons pe_int (pa_cons (pe_callB call_len_seq (by rfl) T.len PySem.boot_len (pa_cons (pv 1) pa_nil)) pa_nil))) pa_nil))))))
        (pss_one (ps_raise rfl (takes_of rfl rfl rfl rfl) (pmk_oex B.ox B.iC B.tI B.fn hr2 B.bd .nil pass0 rfl B.gC (pa_cons pe_str pa_nil)))) pss_nil)
      (pss_cons (ps_if (PW.pt (pw_or (pt_not (pt_val (pe_call GF hr2 rfl mF kF bF .nil pass0 (pa_cons (pv 3) (pa_cons pe_int (pa_cons (pe_glob (v := .int 1000000000) rfl mMost ⟨_, rfl⟩) pa_nil))))))
          (pw_or1 (pt_val (pe_call GA hr2 rfl mA kA bA .nil pass0 (pa_cons (pv 1) (pa_cons (pv 2) (pa_cons (pv 3) pa_nil))))))))
        (pss_one (ps_raise rfl (takes_of rfl rfl rfl rfl) (pmk_oex B.ox B.iC B.tI B.fn hr2 B.bd .nil pass0 rfl B.gC (pa_cons pe_str pa_nil)))) pss_nil)
      (pss_one (ps_asg (pe_call GM hr2 rfl mM kM bM .nil pass0 (pa_cons (pe_callTy call_list_of (by rfl) T.list (by decide +kernel) (pa_cons (pv 1) pa_nil)) (pa_cons (pv 2) (pa_cons (pv 3) pa_nil))))
        (pg_tup rfl (pgs_cons (pg_attr (pv 0)) (pgs_cons (pg_attr (pv 0)) (pgs_cons (pg_attr (pv 0)) pgs_nil)))))))), ?_⟩
    rcases h with ⟨a, xs, p, g, rfl, rfl, rfl, h, M, k⟩ | ⟨part, bad, k⟩
    · obtain ⟨ex, ey, e1, e2, e3⟩ := M.fa
      refine ⟨_, rfl, .ref a, rfl, .inr ⟨a, xs, rfl, h, M.st.flat, by have := M.st.l2; exact small1000' (by omega), fun b H1 s1 ib => ?_⟩⟩
      have hb : b = true := ib.mpr M.st
      subst hb
      refine ⟨true, rfl, iteF ?_⟩
      have h1 := h.same s1
      refine ⟨_, rfl, _, rfl, a, xs, rfl, h1, _, _, rfl, ?_⟩
      refine ⟨_, _, _, rfl, .inl ⟨p, 1, _, rfl, rfl, rfl, ?_⟩⟩
      refine ⟨_, rfl, ?_⟩
      rw [min60, decide_eq_true (show (1 : Int) ≤ p ∧ (p : Int) ≤ ((min 60 xs.length : Nat) : Int) by have := M.p1; have := M.p2; have := M.p3; omega)]
      refine iteF ?_
      refine ⟨_, rfl, _, _, _, rfl, .inl ⟨g, 0, 1000000000, rfl, rfl, rfl, ?_⟩⟩
      refine ⟨_, rfl, ?_⟩
      rw [decide_eq_true (show (0 : Int) ≤ g ∧ g ≤ 1000000000 from ⟨M.g0, M.g1⟩)]
      refine iteF ?_
      have ff : fallsV ex ey g false := by
        rcases e3 with ⟨i, j, rfl, rfl, l⟩ | ⟨rfl, rfl⟩
        · exact .inl ⟨i, rfl, .inl ⟨j, rfl, (decide_eq_false (by omega)).symm⟩⟩
        · exact .inr ⟨rfl, rfl, rfl⟩
      refine ⟨_, rfl, _, rfl, _, rfl, a, xs, p, g, ex, ey, false, rfl, h1, e1, e2, ff, false, rfl, iteF ?_⟩
      refine ⟨_, rfl, a, xs, rfl, h1, fun l hl => ?_⟩
      generalize g2 : upd H1 l _ = H2
      obtain ⟨s2, f2⟩ := alloc g2 hl
      refine ⟨_, rfl, _, rfl, l, xs, p, g, rfl, f2, M.fo, fun vals q r t T' H3 fv ht hT s3 => ?_⟩
      have hx3 : H3 x = some (.ins C dx []) := s3 _ _ (s2 _ _ (s1 _ _ hx))
      refine ⟨T', _, rfl, SqT.of hT, rfl, _, _, rfl, _, rfl, x, C, dx, [], rfl, hx3, U.cl, U.nS, by decide, ?_⟩
      refine ⟨_, _, rfl, _, rfl, x, C, dx, _, rfl, upd_same, U.cl, U.nP, (by show 1 < 1000; decide), ?_⟩
      refine ⟨_, _, rfl, _, rfl, x, C, dx, _, rfl, upd_same, U.cl, U.nG, (by show 2 < 1000; decide), rfl, ?_⟩
      have hxt : t ≠ x := ne_of ht hx3 (by intro z; cases z)
      refine k vals q r _ fv ⟨dx, t, upd_same, by rw [upd_ne hxt, upd_ne hxt, upd_ne hxt]; exact ht⟩ fun b o e hb => ?_
      rw [upd_ne hb, upd_ne hb, upd_ne hb]
      exact s3 _ _ (s2 _ _ (s1 _ _ e))
    · cases bad with
      | noList hl => exact ⟨_, rfl, sv, rfl, .inl ⟨hl, fun H1 s1 => ⟨false, rfl, iteT (mkO_post B fun d H' r => k d H' (Raised.same s1 r))⟩⟩⟩
      | start e h fl hz no =>
        subst e
        refine ⟨_, rfl, _, rfl, .inr ⟨_, _, rfl, h, fl, hz, fun b H1 s1 ib => ?_⟩⟩
        cases b with
        | true => exact absurd (ib.mp rfl) no
        | false => exact ⟨false, rfl, iteT (mkO_post B fun d H' r => k d H' (Raised.same s1 r))⟩
      | period e h fl S hp =>
        subst e
        refine ⟨_, rfl, _, rfl, .inr ⟨_, _, rfl, h, fl, by have := S.l2; exact small1000' (by omega), fun b H1 s1 ib => ?_⟩⟩
        have hb : b = true := ib.mpr S
        subst hb
        refine ⟨true, rfl, iteF ?_⟩
        refine ⟨_, rfl, _, rfl, _, _, rfl, h.same s1, _, _, rfl, ?_⟩
        rcases hp.same s1 with n | ⟨i, e, no⟩
        · exact ⟨_, _, _, rfl, .inr ⟨n, false, rfl, iteT (mkO_post B fun d H' r => k d H' (Raised.same s1 r))⟩⟩
        · subst e
          refine ⟨_, _, _, rfl, .inl ⟨i, 1, _, rfl, rfl, rfl, _, rfl, ?_⟩⟩
          rw [min60, decide_eq_false no]
          exact iteT (mkO_post B fun d H' r => k d H' (Raised.same s1 r))
      | growth e h fl S ep p1 p2 p3 hg =>
        subst e ep
        refine ⟨_, rfl, _, rfl, .inr ⟨_, _, rfl, h, fl, by have := S.l2; exact small1000' (by omega), fun b H1 s1 ib => ?_⟩⟩
        have hb : b = true := ib.mpr S
        subst hb
        refine ⟨true, rfl, iteF ?_⟩
        refine ⟨_, rfl, _, rfl, _, _, rfl, h.same s1, _, _, rfl, ?_⟩
        rename_i xs n
        refine ⟨_, _, _, rfl, .inl ⟨n, 1, _, rfl, rfl, rfl, _, rfl, ?_⟩⟩
        rw [min60, decide_eq_true (show (1 : Int) ≤ n ∧ (n : Int) ≤ ((min 60 xs.length : Nat) : Int) by omega)]
        refine iteF ?_
        rcases hg.same s1 with n' | ⟨i, e, no⟩
        · exact ⟨_, rfl, _, _, _, rfl, .inr ⟨n', false, rfl, iteT (mkO_post B fun d H' r => k d H' (Raised.same s1 r))⟩⟩
        · subst e
          refine ⟨_, rfl, _, _, _, rfl, .inl ⟨i, 0, 1000000000, rfl, rfl, rfl, _, rfl, ?_⟩⟩
          rw [decide_eq_false no]
          exact iteT (mkO_post B fun d H' r => k d H' (Raised.same s1 r))
      | falls e h fl S ep p1 p2 p3 eg g0 g1 ex ey fa =>
        subst e ep eg
        refine ⟨_, rfl, _, rfl, .inr ⟨_, _, rfl, h, fl, by have := S.l2; exact small1000' (by omega), fun b H1 s1 ib => ?_⟩⟩
        have hb : b = true := ib.mpr S
        subst hb
        refine ⟨true, rfl, iteF ?_⟩
        refine ⟨_, rfl, _, rfl, _, _, rfl, h.same s1, _, _, rfl, ?_⟩
        rename_i xs n i x' y'
        refine ⟨_, _, _, rfl, .inl ⟨n, 1, _, rfl, rfl, rfl, _, rfl, ?_⟩⟩
        rw [min60, decide_eq_true (show (1 : Int) ≤ n ∧ (n : Int) ≤ ((min 60 xs.length : Nat) : Int) by omega)]
        refine iteF ?_
        refine ⟨_, rfl, _, _, _, rfl, .inl ⟨i, 0, 1000000000, rfl, rfl, rfl, _, rfl, ?_⟩⟩
        rw [decide_eq_true (show (0 : Int) ≤ i ∧ i ≤ 1000000000 from ⟨g0, g1⟩)]
        refine iteF ?_
        exact ⟨_, rfl, _, rfl, _, rfl, _, _, _, _, _, _, true, rfl, h.same s1, ex, ey, fa, true, rfl, iteT (mkO_post B fun d H' r => k d H' (Raised.same s1 r))⟩
end
end WW
end

section
set_option Elab.async false
set_option linter.all false
set_option maxRecDepth 100000
set_option maxHeartbeats 4000000
namespace WW
open PySem L2 WO WG RZ
/-! ### rows as data -/
def vD : V → PyData
  | .int i => .int i
  | _ => .none
def FlatR (vs : List V) : Prop := ∀ v ∈ vs, v = .non ∨ ∃ i : Int, v = .int i
theorem FlatR.tl {v : V} {r : List V} (h : FlatR (v :: r)) : FlatR r := fun x hx => h x (List.mem_cons_of_mem _ hx)
theorem dpAll_row {K : PySem.W.Frag} {H : Hp} : ∀ vs : List V, FlatR vs → DpAll K H vs (vs.map vD)
  | [], _ => .nil
  | v :: r, h => by
    rcases h v (List.mem_cons_self ..) with rfl | ⟨i, rfl⟩
    · exact .cons .non (dpAll_row r h.tl)
    · exact .cons (.int i) (dpAll_row r h.tl)
theorem can_row : ∀ vs : List V, PyData.canLayAll0 (vs.map vD) = true
  | [] => by simp [PyData.canLayAll0]
  | v :: r => by
    have := can_row r
    cases v <;> simp [PyData.canLayAll0, PyData.canLay0, vD, this]
theorem depth_row : ∀ vs : List V, PyData.depthAll (vs.map vD) = 0
  | [] => by simp [PyData.depthAll]
  | v :: r => by
    have := depth_row r
    cases v <;> simp [PyData.depthAll, PyData.depth, vD, this]
theorem eqvAll_row : ∀ vs us : List V, FlatR vs → FlatR us → PyData.eqvAll (vs.map vD) (us.map vD) = decide (vs = us)
  | [], [], _, _ => by simp [PyData.eqvAll]
  | [], _ :: _, _, _ => by simp [PyData.eqvAll]
  | _ :: _, [], _, _ => by simp [PyData.eqvAll]
  | a :: r, b :: q, h1, h2 => by
    have ih := eqvAll_row r q h1.tl h2.tl
    rcases h1 a (List.mem_cons_self ..) with rfl | ⟨i, rfl⟩ <;> rcases h2 b (List.mem_cons_self ..) with rfl | ⟨j, rfl⟩
    · simp [PyData.eqvAll, PyData.eqv, vD, ih]
    · simp [PyData.eqvAll, PyData.eqv, vD]
    · simp [PyData.eqvAll, PyData.eqv, vD]
    · simp [PyData.eqvAll, PyData.eqv, vD, ih]
      rfl
def rowD (vs : List V) : PyData := .list (vs.map vD)
theorem shaped_row (vs : List V) : SeqAt.shaped (rowD vs) = true := by
  simp [SeqAt.shaped, rowD, PyData.canLay0, PyData.depth, can_row, depth_row]
theorem eqv_row {vs us : List V} (h1 : FlatR vs) (h2 : FlatR us) : PyData.eqv (rowD vs) (rowD us) = decide (vs = us) := by
  rw [← eqvAll_row vs us h1 h2]
  simp [PyData.eqv, rowD]
def curD (vs : List V) (q r : Int) : PyData := .tuple [.tuple (vs.map vD), .int q, .int r]
theorem shaped_cur (vs : List V) (q r : Int) : SeqAt.shaped (curD vs q r) = true := by
  simp [SeqAt.shaped, curD, PyData.canLay0, PyData.canLayAll0, PyData.depth, PyData.depthAll, can_row, depth_row]
theorem eqv_cur {vs us : List V} (h1 : FlatR vs) (h2 : FlatR us) (q r q' r' : Int) : PyData.eqv (curD vs q r) (curD us q' r') = decide (vs = us ∧ q = q' ∧ r = r') := by
  have e := eqvAll_row vs us h1 h2
  simp [PyData.eqv, PyData.eqvAll, curD, e, Bool.decide_and]
  rfl
theorem formV_flat {xs : List V} {p : Nat} {g : Int} {vals : List V} {q r : Int} (h : FormV xs p g vals q r) : FlatR vals := by
  cases h with
  | mkI s p g q r b p0 pn h l =>
    intro v hv
    obtain ⟨j, _, rfl⟩ := List.mem_map.mp hv
    exact .inr ⟨_, rfl⟩
  | mkN s k p g =>
    intro v hv
    rcases List.mem_append.mp hv with hv | hv
    · obtain ⟨j, _, rfl⟩ := List.mem_map.mp hv
      exact .inr ⟨_, rfl⟩
    · rw [List.mem_singleton.mp hv]
      exact .inl rfl
section
variable {P : Program} {w : World} {K : PySem.W.Frag} {mg : Str → Option Value} {base : Heap}
theorem dp_cur {H : Hp} {T t : Addr} {vals : List V} {q r : Int} (h : H T = some (.tup [.ref t, .int q, .int r])) (h2 : H t = some (.tup vals)) (hf : FlatR vals) : Dp K H (.ref T) (curD vals q r) :=
  .tup (SqT.of h) (.cons (.tup (SqT.of h2) (dpAll_row vals hf)) (.cons (.int q) (.cons (.int r) .nil)))
def spEqC (K : PySem.W.Frag) (C : Addr) : Sp := fun vs H Q _ => ∃ (x : Addr) (y : V) (vals : List V) (q r : Int), vs = [.ref x, y] ∧ CurveAt H C x vals q r ∧ FlatR vals ∧
  ((∃ (x' : Addr) (vals' : List V) (q' r' : Int), y = .ref x' ∧ CurveAt H C x' vals' q' r' ∧ FlatR vals' ∧ ∀ H', Same H H' → Q (.bl (decide (vals = vals' ∧ q = q' ∧ r = r'))) H') ∨
   (∃ (t : String), (t = "dict" ∨ t = "tuple") ∧ TyX K H y (.type t) ∧ ∀ H', Same H H' → Q (.bl false) H'))
theorem scEq : FnScope ["self", "other"] ["self", "other"] (defScope sEq) := ⟨rfl, rfl, rfl, by decide +kernel, rfl, by decide +kernel, by decide +kernel⟩
theorem ok_eq {f fI C : Addr} {fd : FuncData} (F : Fun K "__eq__" "Curve.__eq__" sEq f fd) (T : CurG mg) (U : CurT K mg C fI f) :
    FnOk P w K mg base CX0 1 f fd ["self", "other"] (spEqC K C) := by
  refine F.ok scEq (fun vs H Q E h => ?_) (fun cdv A outer s H vs Q E hr h => ?_)
  · obtain ⟨x, y, vals, q, r, rfl, _⟩ := h
    rfl
  · obtain ⟨x, y, vals, q, r, rfl, hx, fl, h⟩ := h
    have hu := hr.units
    refine ⟨_, pss_cons (ps_if (pt_not (pt_val (pe_callB call_isi (by rfl) T.isi (by decide +kernel) (pa_cons (pv 1) (pa_cons (pe_glob (v := .ref C) rfl U.mC rfl) pa_nil))))) (pss_one (ps_ret pe_bl)) pss_nil)
      (pss_one (ps_ret (pe_cmpR (op_eqD hu) (pe_tup (pa_cons (pe_fld (pv 0) rfl) (pa_cons (pe_fld (pv 0) rfl) (pa_cons (pe_fld (pv 0) rfl) pa_nil))))
        (pe_tup (pa_cons (pe_fld (pv 1) rfl) (pa_cons (pe_fld (pv 1) rfl) (pa_cons (pe_fld (pv 1) rfl) pa_nil)))) (nomark _)))), ?_⟩
    rcases h with ⟨x', vals', q', r', rfl, hy, fl', k⟩ | ⟨t, ht, ty, k⟩
    · obtain ⟨dx, t, h1, h2⟩ := id hx
      obtain ⟨dy, t', h3, h4⟩ := id hy
      refine ⟨_, rfl, .ref x', .ref C, .ref C, .ref C, true, rfl, .own C, .base (.ins h3 U.cl U.cc U.cg U.ct U.co), U.kC, true, rfl, iteF ?_⟩
      refine ⟨_, rfl, x, C, dx, _, .ref t, rfl, h1, U.cl, U.nS, rfl, _, rfl, x, C, dx, _, .int q, rfl, h1, U.cl, U.nP, rfl, _, rfl, x, C, dx, _, .int r, rfl, h1, U.cl, U.nG, rfl, (by show 3 ≤ sizeLine; decide), fun T1 hT1 => ?_⟩
      generalize g5 : upd H T1 _ = H1
      obtain ⟨s1, f1⟩ := alloc g5 hT1
      refine ⟨_, rfl, x', C, dy, _, .ref t', rfl, s1 _ _ h3, U.cl, U.nS, rfl, _, rfl, x', C, dy, _, .int q', rfl, s1 _ _ h3, U.cl, U.nP, rfl, _, rfl, x', C, dy, _, .int r', rfl, s1 _ _ h3, U.cl, U.nG, rfl, (by show 3 ≤ sizeLine; decide), fun T2 hT2 => ?_⟩
      generalize g6 : upd H1 T2 _ = H2
      obtain ⟨s2, f2⟩ := alloc g6 hT2
      refine ⟨curD vals q r, curD vals' q' r', dp_cur (s2 _ _ f1) (s2 _ _ (s1 _ _ h2)) fl, dp_cur f2 (s2 _ _ (s1 _ _ h4)) fl', shaped_cur _ _ _, shaped_cur _ _ _, ?_⟩
      rw [eqv_cur fl fl']
      exact k H2 (Same.trans s1 s2)
    · rcases ht with rfl | rfl
      · exact ⟨_, rfl, y, .ref C, .type "dict", .ref C, false, rfl, .own C, ty, U.kD, false, rfl, iteT (k H (Same.refl _))⟩
      · exact ⟨_, rfl, y, .ref C, .type "tuple", .ref C, false, rfl, .own C, ty, U.kT, false, rfl, iteT (k H (Same.refl _))⟩
/-! ### sketches -/
def skKvs (a : Addr) (p g : Int) : List (Key × V) := [(Sum.inr "start", .ref a), (Sum.inr "period", .int p), (Sum.inr "growth", .int g)]
theorem sk_start {H : Hp} {d a : Addr} {p g : Int} (h : H d = some (.dK (skKvs a p g))) : DGet H d (.str "start") (some (.ref a)) := by
  have e : valV (skKvs a p g) (Sum.inr "start" : Key) = some (.ref a) := by rfl
  rw [← e]
  exact DGet.k (k := Sum.inr "start") h
theorem sk_period {H : Hp} {d a : Addr} {p g : Int} (h : H d = some (.dK (skKvs a p g))) : DGet H d (.str "period") (some (.int p)) := by
  have e : valV (skKvs a p g) (Sum.inr "period" : Key) = some (.int p) := by rfl
  rw [← e]
  exact DGet.k (k := Sum.inr "period") h
theorem sk_growth {H : Hp} {d a : Addr} {p g : Int} (h : H d = some (.dK (skKvs a p g))) : DGet H d (.str "growth") (some (.int g)) := by
  have e : valV (skKvs a p g) (Sum.inr "growth" : Key) = some (.int g) := by rfl
  rw [← e]
  exact DGet.k (k := Sum.inr "growth") h
end
end WW
end

section
set_option Elab.async false
set_option linter.all false
set_option maxRecDepth 100000
set_option maxHeartbeats 4000000
namespace WW
open PySem L2 WO WG RZ
abbrev sSteps : Stmt := top 66
abbrev sSketch : Stmt := top 67
/-- a sketch, apart from the draw -/
structure SkAt (H : Hp) (d l e a : Addr) (xs : List V) (p : Nat) (g : Int) : Prop where
  ob : H e = some (.dK (skKvs a p g))
  li : H a = some (.lst xs)
  ed : e ≠ d
  el : e ≠ l
  ad : a ≠ d
  al : a ≠ l
theorem SkAt.keep {H H' : Hp} {d l e a : Addr} {xs : List V} {p : Nat} {g : Int} (h : SkAt H d l e a xs p g) (k : KeepD H H' d l) : SkAt H' d l e a xs p g :=
  ⟨k _ _ h.ob h.ed h.el, k _ _ h.li h.ad h.al, h.ed, h.el, h.ad, h.al⟩
theorem DrawAt.some_d {H : Hp} {d l c : Addr} (D : DrawAt H d l c) : ∃ o, H d = some o := by obtain ⟨⟨r, t, h⟩, _⟩ := D; exact ⟨_, h⟩
theorem DrawAt.some_l {H : Hp} {d l c : Addr} (D : DrawAt H d l c) : ∃ o, H l = some o := by obtain ⟨_, ⟨la, h, _⟩, _⟩ := D; exact ⟨_, h⟩
theorem DrawAt.nd {H : Hp} {d l c p : Addr} (D : DrawAt H d l c) (h : H p = none) : p ≠ d := fun e => by
  obtain ⟨o, q⟩ := D.some_d
  rw [← e, h] at q
  cases q
theorem DrawAt.nl {H : Hp} {d l c p : Addr} (D : DrawAt H d l c) (h : H p = none) : p ≠ l := fun e => by
  obtain ⟨o, q⟩ := D.some_l
  rw [← e, h] at q
  cases q
theorem DrawAt.nc {H : Hp} {d l c p : Addr} (D : DrawAt H d l c) (h : H p = none) : p ≠ c := fun e => by
  obtain ⟨_, _, ⟨ce, q, _⟩, _⟩ := D
  rw [← e, h] at q
  cases q
theorem DrawAt.put {H : Hp} {d l c p : Addr} {o : HO} (D : DrawAt H d l c) (pd : p ≠ d) (pl : p ≠ l) (pc : p ≠ c) : DrawAt (upd H p o) d l c := by
  obtain ⟨⟨r, t, h⟩, ⟨la, h2, h3⟩, ⟨ce, h4, h5⟩, h6⟩ := D
  exact ⟨⟨r, t, by rw [upd_ne pd.symm]; exact h⟩, ⟨la, by rw [upd_ne pl.symm]; exact h2, h3⟩, ⟨ce, by rw [upd_ne pc.symm]; exact h4, h5⟩, h6⟩
theorem KeepD.trans' {H H1 : Hp} {d l p : Addr} {o : HO} (k : KeepD H H1 d l) (h : H p = none) : KeepD H (upd H1 p o) d l := fun b u e h1 h2 => by
  rw [upd_ne (ne_of_none e h)]
  exact k b u e h1 h2
/-- nondecreasing -/
def Asc (s : List Int) : Prop := ∀ (i : Nat) (x y : Int), s[i]? = some x → s[i + 1]? = some y → x ≤ y
def Within (s : List Int) (B : Int) : Prop := ∀ (i : Nat) (x : Int), s[i]? = some x → 0 ≤ x ∧ x ≤ B
section
variable {P : Program} {w : World} {K : PySem.W.Frag} {mg : Str → Option Value} {base : Heap}
theorem pick4 {a b c r : Int} {i : Nat} {x : V} (h : [V.int a, .int b, .int c, .int r][i]? = some x) {M : Int} (ha : 0 ≤ a ∧ a ≤ M) (hb : 0 ≤ b ∧ b ≤ M) (hc : 0 ≤ c ∧ c ≤ M) (hr : 0 ≤ r ∧ r ≤ M) : ∃ z : Int, x = .int z ∧ 0 ≤ z ∧ z ≤ M := by
  match i, h with
  | 0, h => exact ⟨a, (Option.some.inj h).symm, ha⟩
  | 1, h => exact ⟨b, (Option.some.inj h).symm, hb⟩
  | 2, h => exact ⟨c, (Option.some.inj h).symm, hc⟩
  | 3, h => exact ⟨r, (Option.some.inj h).symm, hr⟩
theorem asc_snoc {s : List Int} {y z : Int} (h : Asc s) (hl : s[s.length - 1]? = some y) (hz : y ≤ z) : Asc (s ++ [z]) := by
  intro i x1 x2 h1 h2
  by_cases e : i + 1 < s.length
  · rw [List.getElem?_append_left (by omega)] at h1
    rw [List.getElem?_append_left e] at h2
    exact h i x1 x2 h1 h2
  · by_cases e2 : i + 1 = s.length
    · rw [List.getElem?_append_left (by omega)] at h1
      rw [List.getElem?_append_right (by omega), e2, Nat.sub_self] at h2
      cases h2
      have e3 : i = s.length - 1 := by omega
      rw [e3, hl] at h1
      cases h1
      exact hz
    · rw [List.getElem?_eq_none (by rw [List.length_append]; simp only [List.length_cons, List.length_nil]; omega)] at h2
      cases h2
theorem within_snoc {s : List Int} {z B B' : Int} (h : Within s B) (hB : B ≤ B') (h0 : 0 ≤ z) (h1 : z ≤ B') : Within (s ++ [z]) B' := by
  intro i x hx
  by_cases e : i < s.length
  · rw [List.getElem?_append_left e] at hx
    have := h i x hx
    omega
  · rw [List.getElem?_append_right (by omega)] at hx
    have e2 : i - s.length = 0 := by
      rcases Nat.eq_zero_or_pos (i - s.length) with q | q
      · exact q
      · rw [List.getElem?_eq_none (by simp only [List.length_cons, List.length_nil]; omega)] at hx
        cases hx
    rw [e2] at hx
    cases hx
    exact ⟨h0, h1⟩
theorem lastInt {s : List Int} (h : 0 < s.length) : ∃ y, s[s.length - 1]? = some y ∧ atI (s.map V.int) (-1) = some (.int y) := by
  refine ⟨s[s.length - 1]'(by omega), List.getElem?_eq_getElem _, last_get ?_⟩
  rw [List.length_map, List.getElem?_map, List.getElem?_eq_getElem (by omega)]
  rfl
def spSteps (K : PySem.W.Frag) : Sp := fun vs H Q _ => ∃ (d l c : Addr) (n : Nat) (m : Int), vs = [.ref d, .int n, .int m] ∧ DrawAt H d l c ∧ 0 < n ∧ n ≤ 100 ∧ 1 ≤ m ∧ m ≤ 1000 ∧
  ∀ (a : Addr) (s : List Int) (H' : Hp), H a = none → H' a = some (.lst (s.map V.int)) → s.length = n → Asc s → Within s (m * n) → DrawAt H' d l c → KeepD H H' d l → Q (.ref a) H'
theorem scSteps : FnScope ["draw", "size", "most", "found", "lap"] ["draw", "size", "most"] (defScope sSteps) := ⟨rfl, rfl, rfl, by decide +kernel, rfl, by decide +kernel, by decide +kernel⟩
theorem ok_steps {f fP fT : Addr} {fd dP dT : FuncData} (F : Fun K "_law_steps" "_law_steps" sSteps f fd) (G : CurG mg)
    (GP : FnOk P w K mg base CX0 3 fP dP ["draw", "some"] (spPick K)) (kP : PySem.W.keepIn K (.ref fP) = true) (bP : Binds K dP ["draw", "some"] []) (mP : mg "_law_pick" = some (.ref fP))
    (GT : FnOk P w K mg base CX0 2 fT dT ["draw", "amount"] (spTake K)) (kT : PySem.W.keepIn K (.ref fT) = true) (bT : Binds K dT ["draw", "amount"] []) (mT : mg "_law_take" = some (.ref fT)) :
    FnOk P w K mg base CX0 4 f fd ["draw", "size", "most"] (spSteps K) := by
  refine F.ok scSteps (fun vs H Q E h => ?_) (fun cdv A outer s H vs Q E hr h => ?_)
  · obtain ⟨d, l, c, n, m, rfl, _⟩ := h
    rfl
  · obtain ⟨d, l, c, n, m, rfl, D, n0, n1, m0, m1, k⟩ := h
    have hr2 := hr.mono (show 2 ≤ 3 by decide)
    refine ⟨_, pss_cons (ps_set (i := 3) scSteps.nd rfl (Or.inl rfl) (pe_lst (pa_cons (pe_call GP hr rfl mP kP bP .nil pass0 (pa_cons (pv 0) (pa_cons (pe_lst (pa_cons pe_int (pa_cons pe_int (pa_cons pe_int (pa_cons
          (pe_call GT hr2 rfl mT kT bT .nil pass0 (pa_cons (pv 0) (pa_cons (pe_op op_add (pv 2) pe_int) pa_nil))) pa_nil))))) pa_nil))) pa_nil)))
      (pss_cons (ps_for PassesOwn.never rfl (pi_range1 rfl G.range (pa_cons (pe_op op_sub (pv 1) pe_int) pa_nil)) (pg_name (i := 4) scSteps.nd rfl (Or.inl rfl))
        (pss_one (ps_expr (pe_bm PySem.F.plainAttrs_list PySem.F.slot_list_append PySem.F.type_list_append mt_append (pv 3) (pa_cons (pe_op op_add (pe_ix ix_list (pv 3) (pe_un un_neg pe_int) (fun _ _ => rfl))
          (pe_call GP hr rfl mP kP bP .nil pass0 (pa_cons (pv 0) (pa_cons (pe_lst (pa_cons pe_int (pa_cons pe_int (pa_cons pe_int (pa_cons
            (pe_call GT hr2 rfl mT kT bT .nil pass0 (pa_cons (pv 0) (pa_cons (pe_op op_add (pv 2) pe_int) pa_nil))) pa_nil))))) pa_nil)))) pa_nil)))))
      (pss_one (ps_ret (pv 3)))), ?_⟩
    refine ⟨_, rfl, _, rfl, _, rfl, _, _, rfl, rfl, d, l, c, _, rfl, D, by omega, by omega, fun r H1 r0 r1 D1 k1 => ⟨(by show 4 ≤ sizeLine; decide), fun p1 hp1 => ?_⟩⟩
    generalize g1 : upd H1 p1 _ = H2
    obtain ⟨s2, f2⟩ := alloc g1 hp1
    refine ⟨d, l, c, p1, _, rfl, D1.same s2, f2, D1.nl hp1, (by show 0 < 4; decide), (by show 4 ≤ 2 ^ 100; decide), fun i x H3 hx D3 k3 => ?_⟩
    obtain ⟨z, rfl, z0, z1⟩ := pick4 (M := m) hx (by omega) (by omega) (by omega) ⟨r0, by omega⟩
    have kk3 : KeepD H H3 d l := k1.trans ((Same.keepD d l s2).trans k3)
    refine ⟨(by show 1 ≤ sizeLine; decide), fun a ha => ?_⟩
    have haH : H a = none := D.keepF kk3 D3 ha
    generalize g4 : upd H3 a _ = H4
    obtain ⟨s4, f4⟩ := alloc g4 ha
    have kk4 : KeepD H H4 d l := kk3.trans (Same.keepD d l s4)
    refine ⟨_, rfl, _, _, rfl, rfl, (n : Int) - 1, rfl, by omega, by omega, for_range (lo := 0) (n := ((n : Int) - 1).toNat) (fun i σ H5 => ∃ (v4 : Option V) (s : List Int), σ = [some (.ref d), some (.int n), some (.int m), some (.ref a), v4] ∧ H5 a = some (.lst (s.map V.int)) ∧ s.length = i + 1 ∧ Asc s ∧ Within s (m * (i + 1)) ∧ DrawAt H5 d l c ∧ KeepD H H5 d l)
      ⟨_, [z], rfl, f4, rfl, fun i x y h1 h2 => ?_, fun i x h1 => ?_, D3.same s4, kk4⟩ ?_ ?_⟩
    · cases h2
    · match i, h1 with
      | 0, h1 =>
        cases h1
        refine ⟨z0, ?_⟩
        show _ ≤ m * (0 + 1)
        omega
    · rintro i σ H5 hi ⟨v4, s, rfl, h5, l5, a5, w5, D5, k5⟩
      obtain ⟨y, hy, hy2⟩ := lastInt (s := s) (by omega)
      have hal : a ≠ l := D.nl haH
      have had : a ≠ d := D.nd haH
      refine ⟨_, rfl, .inl ⟨rfl, _, SqL.of h5⟩, _, rfl, 1, rfl, a, _, _, _, rfl, rfl, SqL.of h5, hy2, _, rfl, _, rfl, _, rfl, _, _, rfl, rfl, d, l, c, _, rfl, D5, by omega, by omega, fun r H6 r0 r1 D6 k6 => ⟨(by show 4 ≤ sizeLine; decide), fun p1 hp1 => ?_⟩⟩
      generalize g7 : upd H6 p1 _ = H7
      obtain ⟨s7, f7⟩ := alloc g7 hp1
      refine ⟨d, l, c, p1, _, rfl, D6.same s7, f7, D6.nl hp1, (by show 0 < 4; decide), (by show 4 ≤ 2 ^ 100; decide), fun j x H8 hx D8 k8 => ?_⟩
      obtain ⟨z, rfl, z0, z1⟩ := pick4 (M := m) hx (by omega) (by omega) (by omega) ⟨r0, by omega⟩
      have kk8 : KeepD H5 H8 d l := k6.trans ((Same.keepD d l s7).trans k8)
      have h8 : H8 a = some (.lst (s.map V.int)) := kk8 _ _ h5 had hal
      refine ⟨_, _, rfl, rfl, a, _, _, rfl, rfl, h8, by rw [List.length_map]; exact small1000 (by omega), ?_⟩
      refine ⟨_, s ++ [y + z], rfl, ?_, by rw [List.length_append, l5]; rfl, asc_snoc a5 hy (by omega), ?_, ?_, ?_⟩
      · rw [List.map_append]; exact upd_same
      · have wy := w5 _ _ hy
        have em : m * (((i + 1 : Nat) : Int) + 1) = m * ((i : Int) + 1) + m := by
          rw [Int.natCast_add, Int.mul_add m (((i : Nat) : Int) + ((1 : Nat) : Int)), Int.mul_one]
          rfl
        exact within_snoc w5 (by omega) (by omega) (by omega)
      · exact D8.put had hal (D.nc haH)
      · exact (k5.trans kk8).trans' haH
    · rintro σ H5 ⟨v4, s, rfl, h5, l5, a5, w5, D5, k5⟩
      refine ⟨_, rfl, ?_⟩
      have en : (((((n : Int) - 1).toNat : Nat) : Int) + 1) = (n : Int) := by omega
      rw [en] at w5
      exact k a s H5 haH h5 (by omega) a5 w5 D5 k5
end
end WW
end

section
set_option Elab.async false
set_option linter.all false
set_option maxRecDepth 100000
set_option maxHeartbeats 4000000
namespace WW
open PySem L2 WO WG RZ
structure SkI (L pm : Nat) (B : Int) (s : List Int) (p : Nat) (g : Int) : Prop where
  p0 : 0 < p
  pn : p ≤ s.length
  pm : p ≤ pm
  le : s.length ≤ L
  asc : Asc s
  wi : Within s B
  g0 : 0 ≤ g
  g1 : g ≤ B
  fit : ∀ x y, s[s.length - p]? = some x → s[s.length - 1]? = some y → y ≤ x + g
inductive Sk (L pm : Nat) (B : Int) : List V → Nat → Int → Prop
  | mkI (s : List Int) (p : Nat) (g : Int) (h : SkI L pm B s p g) : Sk L pm B (s.map V.int) p g
  | mkN (s : List Int) (k : Nat) (g : Int) (le : s.length + (k + 1) ≤ L) (asc : Asc s) (wi : Within s B) (g0 : 0 ≤ g) (g1 : g ≤ B) : Sk L pm B (s.map V.int ++ List.replicate (k + 1) .non) 1 g
theorem Sk.make {L pm : Nat} {B : Int} {xs : List V} {p : Nat} {g : Int} (h : Sk L pm B xs p g) (hL : L ≤ 400) (hp : pm ≤ 60) (hB : B ≤ 1000000000) : MakeOk xs p g := by
  cases h with
  | mkI s p g h =>
    have n0 : 0 < s.length := Nat.lt_of_lt_of_le h.p0 h.pn
    refine ⟨⟨by rw [List.length_map]; omega, by rw [List.length_map]; have := h.le; omega, ?_, ?_⟩, .mkI s p g h.p0 h.pn (by have := h.le; omega) h.g0 (by have := h.g1; omega), h.p0, by have := h.pm; omega, by rw [List.length_map]; exact h.pn, h.g0, by have := h.g1; omega, ?_⟩
    · intro i x hx
      rw [List.getElem?_map] at hx
      cases e : s[i]? with
      | none => rw [e] at hx; cases hx
      | some z =>
        rw [e] at hx
        have := h.wi i z e
        exact .inr ⟨z, (Option.some.inj hx).symm, by omega, by omega⟩
    · intro i x y hx hy
      rw [List.getElem?_map] at hx hy
      cases e : s[i]? with
      | none => rw [e] at hx; cases hx
      | some z =>
        cases e2 : s[i + 1]? with
        | none => rw [e2] at hy; cases hy
        | some z2 =>
          rw [e] at hx
          rw [e2] at hy
          exact .inl ⟨z, z2, (Option.some.inj hx).symm, (Option.some.inj hy).symm, h.asc i z z2 e e2⟩
    · obtain ⟨y, hy, hy2⟩ := lastInt n0
      have hx : s[s.length - p]? = some (s[s.length - p]'(by have := h.p0; omega)) := List.getElem?_eq_getElem _
      refine ⟨.int _, .int y, ?_, hy2, .inl ⟨_, _, rfl, rfl, h.fit _ _ hx hy⟩⟩
      rw [List.length_map, show (s.length : Int) - (p : Int) = ((s.length - p : Nat) : Int) by have := h.pn; omega]
      refine atI_nat ?_
      rw [List.getElem?_map, hx]
      rfl
  | mkN s k g le asc wi g0 g1 =>
    have lx : (s.map V.int ++ List.replicate (k + 1) V.non).length = s.length + (k + 1) := by rw [List.length_append, List.length_map, List.length_replicate]
    refine ⟨⟨by rw [lx]; omega, by rw [lx]; omega, ?_, ?_⟩, .mkN s k 1 g (by omega), Nat.le_refl _, by omega, by rw [lx]; omega, g0, by omega, .non, .non, ?_, ?_, .inr ⟨rfl, rfl⟩⟩
    · intro i x hx
      have hi : i < s.length + (k + 1) := by rw [← lx]; exact (List.getElem?_eq_some_iff.mp hx).1
      by_cases c : i < s.length
      · rw [List.getElem?_append_left (by rw [List.length_map]; exact c), List.getElem?_map, List.getElem?_eq_getElem c] at hx
        have := wi i _ (List.getElem?_eq_getElem c)
        exact .inr ⟨_, (Option.some.inj hx).symm, by omega, by omega⟩
      · rw [nones_get i (by omega) hi] at hx
        exact .inl (Option.some.inj hx).symm
    · intro i x y hx hy
      have hi : i + 1 < s.length + (k + 1) := by rw [← lx]; exact (List.getElem?_eq_some_iff.mp hy).1
      by_cases c : i + 1 < s.length
      · rw [List.getElem?_append_left (by rw [List.length_map]; omega), List.getElem?_map, List.getElem?_eq_getElem (show i < s.length by omega)] at hx
        rw [List.getElem?_append_left (by rw [List.length_map]; exact c), List.getElem?_map, List.getElem?_eq_getElem c] at hy
        exact .inl ⟨_, _, (Option.some.inj hx).symm, (Option.some.inj hy).symm, asc i _ _ (List.getElem?_eq_getElem _) (List.getElem?_eq_getElem _)⟩
      · rw [nones_get (i + 1) (by omega) hi] at hy
        by_cases c2 : i < s.length
        · obtain ⟨z, hz⟩ := ints_get (s := s) (r := List.replicate (k + 1) V.non) i c2
          rw [hz] at hx
          exact .inr (.inl ⟨⟨z, (Option.some.inj hx).symm⟩, (Option.some.inj hy).symm⟩)
        · rw [nones_get i (by omega) (by omega)] at hx
          exact .inr (.inr ⟨(Option.some.inj hx).symm, (Option.some.inj hy).symm⟩)
    · rw [lx, show ((s.length + (k + 1) : Nat) : Int) - ((1 : Nat) : Int) = ((s.length + k : Nat) : Int) by omega]
      exact atI_nat (nones_get _ (by omega) (by omega))
    · exact last_get (nones_get _ (by rw [lx]; omega) (by rw [lx]; omega))
theorem asc_le {s : List Int} (h : Asc s) : ∀ (k i : Nat) (x y : Int), s[i]? = some x → s[i + k]? = some y → x ≤ y := by
  intro k
  induction k with
  | zero => intro i x y h1 h2; rw [Nat.add_zero, h1] at h2; cases h2; exact Int.le_refl _
  | succ k ih =>
    intro i x y h1 h2
    have hl : i + k < s.length := by have := (List.getElem?_eq_some_iff.mp h2).1; omega
    have h3 := List.getElem?_eq_getElem hl
    have := ih i x _ h1 h3
    have := h (i + k) _ y h3 h2
    omega
theorem asc_take {s : List Int} {n : Nat} (h : Asc s) : Asc (s.take n) := by
  intro i x y h1 h2
  rw [List.getElem?_take] at h1 h2
  split at h1
  · split at h2
    · exact h i x y h1 h2
    · cases h2
  · cases h1
theorem within_take {s : List Int} {n : Nat} {B : Int} (h : Within s B) : Within (s.take n) B := by
  intro i x h1
  rw [List.getElem?_take] at h1
  split at h1
  · exact h i x h1
  · cases h1
section
variable {P : Program} {w : World} {K : PySem.W.Frag} {mg : Str → Option Value} {base : Heap}
/-- without end, nothing grows -/
def SkZ (xs : List V) (g : Int) : Prop := xs[xs.length - 1]? = some .non → g = 0
theorem skz_int {s : List Int} {g : Int} : SkZ (s.map V.int) g := fun h => by
  rw [List.getElem?_map] at h
  obtain ⟨_, _, e⟩ := Option.map_eq_some_iff.mp h
  cases e
def spSketch (K : PySem.W.Frag) : Sp := fun vs H Q _ => ∃ (d l c : Addr) (N : Nat) (m : Int), vs = [.ref d, .int N, .int m] ∧ DrawAt H d l c ∧ 1 ≤ N ∧ N ≤ 100 ∧ 1 ≤ m ∧ m ≤ 1000 ∧
  ∀ (e a : Addr) (xs : List V) (p : Nat) (g : Int) (H' : Hp), H e = none → H a = none → SkAt H' d l e a xs p g → Sk N 6 (m * (N + 1)) xs p g → SkZ xs g → DrawAt H' d l c → KeepD H H' d l → Q (.ref e) H'
abbrev nSketch : List Str := ["draw", "long", "most", "size", "period_here", "start_here", "growth_here"]
theorem scSketch : FnScope nSketch ["draw", "long", "most"] (defScope sSketch) := ⟨rfl, rfl, rfl, by decide +kernel, rfl, by decide +kernel, by decide +kernel⟩
theorem ok_sketch {f fP fT fS : Addr} {fd dP dT dS : FuncData} (F : Fun K "_law_sketch" "_law_sketch" sSketch f fd) (G : CurG mg)
    (GP : FnOk P w K mg base CX0 3 fP dP ["draw", "some"] (spPick K)) (kP : PySem.W.keepIn K (.ref fP) = true) (bP : Binds K dP ["draw", "some"] []) (mP : mg "_law_pick" = some (.ref fP))
    (GT : FnOk P w K mg base CX0 2 fT dT ["draw", "amount"] (spTake K)) (kT : PySem.W.keepIn K (.ref fT) = true) (bT : Binds K dT ["draw", "amount"] []) (mT : mg "_law_take" = some (.ref fT))
    (GS : FnOk P w K mg base CX0 4 fS dS ["draw", "size", "most"] (spSteps K)) (kS : PySem.W.keepIn K (.ref fS) = true) (bS : Binds K dS ["draw", "size", "most"] []) (mS : mg "_law_steps" = some (.ref fS)) :
    FnOk P w K mg base CX0 5 f fd ["draw", "long", "most"] (spSketch K) := by
  refine F.ok scSketch (fun vs H Q E h => ?_) (fun cdv A outer s H vs Q E hr h => ?_)
  · obtain ⟨d, l, c, N, m, rfl, _⟩ := h
    rfl
  · obtain ⟨d, l, c, N, m, rfl, D, N0, N1, m0, m1, k⟩ := h
    have hr2 := hr.mono (show 2 ≤ 4 by decide)
    have hr3 := hr.mono (show 3 ≤ 4 by decide)
    refine ⟨_, C8.pss_cut (ps_set (i := 3) scSketch.nd rfl (Or.inl rfl) (pe_op op_add pe_int (pe_call GT hr2 rfl mT kT bT .nil pass0 (pa_cons (pv 0) (pa_cons (pv 1) pa_nil)))))
      (C8.pss_cut (ps_par (i := 4) (j := 5) (by rfl) scSketch.nd rfl rfl (by decide) rfl rfl
          (pa_cons (pe_op op_add pe_int (pe_call GT hr2 rfl mT kT bT .nil pass0 (pa_cons (pv 0) (pa_cons (pe_callB (call_min2 rfl) (by rfl) G.min (by decide +kernel) (pa_cons (pv 3) (pa_cons pe_int pa_nil))) pa_nil))))
          (pa_cons (pe_call GS hr rfl mS kS bS .nil pass0 (pa_cons (pv 0) (pa_cons (pv 3) (pa_cons (pv 2) pa_nil)))) pa_nil)) (by rfl))
      (C8.pss_cut (ps_set (i := 6) scSketch.nd rfl (Or.inl rfl) (pe_op op_add (pe_op op_sub (pe_ix ix_list (pv 5) (pe_un un_neg pe_int) (fun _ _ => rfl)) (pe_ix ix_list (pv 5) (pe_op op_sub (pv 3) (pv 4)) (fun _ _ => rfl)))
          (pe_call GP hr3 rfl mP kP bP .nil pass0 (pa_cons (pv 0) (pa_cons (pe_lst (pa_cons pe_int (pa_cons pe_int (pa_cons pe_int (pa_cons
            (pe_call GT hr2 rfl mT kT bT .nil pass0 (pa_cons (pv 0) (pa_cons (pe_op op_add (pv 2) pe_int) pa_nil))) pa_nil))))) pa_nil)))))
      (C8.pss_cut (ps_if (pt_cmpR op_eq (pe_call GT hr2 rfl mT kT bT .nil pass0 (pa_cons (pv 0) (pa_cons pe_int pa_nil))) pe_int (nomark _))
          (pss_cons (ps_set (i := 5) scSketch.nd rfl (Or.inl rfl) (pe_op op_cat (pe_slice sl_list (pv 5) po_none (po_some (pe_call GT hr2 rfl mT kT bT .nil pass0 (pa_cons (pv 0) (pa_cons (pv 3) pa_nil))))) (pe_lst (pa_cons pe_non pa_nil))))
          (pss_one (ps_asg (pe_tup (pa_cons pe_int (pa_cons pe_int pa_nil))) (pg_tup rfl (pgs_cons (pg_name (i := 4) scSketch.nd rfl (Or.inl rfl)) (pgs_cons (pg_name (i := 6) scSketch.nd rfl (Or.inl rfl)) pgs_nil)))))) pss_nil)
      (pss_one (ps_ret (pe_disp (pps_cons pe_str (pv 5) (pps_cons pe_str (pv 4) (pps_cons pe_str (pv 6) pps_nil))) (by rfl) (by rfl) (fun z => by cases z) (by decide))))))), ?_⟩
    refine ⟨fun σ H1 => ∃ n : Nat, σ = [some (.ref d), some (.int N), some (.int m), some (.int n), none, none, none] ∧ 0 < n ∧ n ≤ N ∧ DrawAt H1 d l c ∧ KeepD H H1 d l, ?_, ?_⟩
    · refine ⟨_, rfl, _, rfl, d, l, c, _, rfl, D, by omega, by omega, fun r H1 r0 r1 D1 k1 => ⟨_, _, rfl, rfl, (1 + r).toNat, ?_, by omega, by omega, D1, k1⟩⟩
      show [_, _, _, some (V.int (1 + r)), _, _, _] = _
      rw [show (((1 + r).toNat : Nat) : Int) = 1 + r by omega]
    · rintro σ H1 ⟨n, rfl, n0, n1, D1, k1⟩
      refine ⟨fun σ H2 => ∃ (p : Nat) (a : Addr) (s : List Int), σ = [some (.ref d), some (.int N), some (.int m), some (.int n), some (.int p), some (.ref a), none] ∧ 0 < p ∧ p ≤ n ∧ p ≤ 6 ∧ H a = none ∧ H2 a = some (.lst (s.map V.int)) ∧ s.length = n ∧ Asc s ∧ Within s (m * n) ∧ DrawAt H2 d l c ∧ KeepD H H2 d l, ?_, ?_⟩
      · refine ⟨_, rfl, _, rfl, n, 6, rfl, d, l, c, _, rfl, D1, ?_, ?_, fun r H2 r0 r1 D2 k2 => ⟨_, _, rfl, rfl, _, rfl, _, rfl, _, rfl, d, l, c, n, m, rfl, D2, n0, by omega, m0, m1, fun a s H3 h1 h2 h3 h4 h5 D3 k3 => ?_⟩⟩
        · split <;> omega
        · split <;> omega
        · have q := k1.trans k2
          refine ⟨_, _, rfl, (1 + r).toNat, a, s, ?_, ?_, ?_, ?_, D.keepF q D2 h1, h2, h3, h4, h5, D3, q.trans k3⟩
          · show [_, _, _, _, some (V.int (1 + r)), _, _] = _
            rw [show (((1 + r).toNat : Nat) : Int) = 1 + r by omega]
          · omega
          · split at r1 <;> omega
          · split at r1 <;> omega
      · rintro σ H2 ⟨p, a, s, rfl, p0, pn, p6, ha, h2, ls, as, ws, D2, k2⟩
        refine ⟨fun σ H3 => ∃ g : Int, σ = [some (.ref d), some (.int N), some (.int m), some (.int n), some (.int p), some (.ref a), some (.int g)] ∧ SkI N 6 (m * (N + 1)) s p g ∧ H3 a = some (.lst (s.map V.int)) ∧ DrawAt H3 d l c ∧ KeepD H H3 d l, ?_, ?_⟩
        · obtain ⟨y, hy, hy2⟩ := lastInt (s := s) (by omega)
          have hx : s[s.length - p]? = some (s[s.length - p]'(by omega)) := List.getElem?_eq_getElem _
          generalize hxv : s[s.length - p]'(by omega) = x at hx
          have hx2 : atI (s.map V.int) ((n : Int) - (p : Int)) = some (.int x) := by
            rw [show (n : Int) - (p : Int) = ((s.length - p : Nat) : Int) by omega]
            refine atI_nat ?_
            rw [List.getElem?_map, hx]
            rfl
          have xy : x ≤ y := asc_le as (p - 1) (s.length - p) x y hx (by rw [show s.length - p + (p - 1) = s.length - 1 by omega]; exact hy)
          have wx := ws _ _ hx
          have bN : m * (n : Int) ≤ m * (N : Int) := Int.mul_le_mul_of_nonneg_left (by omega) (by omega)
          have eN : m * ((N : Int) + 1) = m * (N : Int) + m := by rw [Int.mul_add, Int.mul_one]
          have wy := ws _ _ hy
          refine ⟨_, rfl, 1, rfl, a, _, _, _, rfl, rfl, SqL.of h2, hy2, _, rfl, _, rfl, _, rfl, _, _, rfl, rfl, a, _, _, _, rfl, rfl, SqL.of h2, hx2, _, _, rfl, rfl, _, rfl, _, rfl, _, rfl, _, _, rfl, rfl, d, l, c, _, rfl, D2, by omega, by omega, fun r H3 r0 r1 D3 k3 => ⟨(by show 4 ≤ sizeLine; decide), fun p1 hp1 => ?_⟩⟩
          generalize g7 : upd H3 p1 _ = H7
          obtain ⟨s7, f7⟩ := alloc g7 hp1
          refine ⟨d, l, c, p1, _, rfl, D3.same s7, f7, D3.nl hp1, (by show 0 < 4; decide), (by show 4 ≤ 2 ^ 100; decide), fun j x' H8 hx' D8 k8 => ?_⟩
          obtain ⟨z, rfl, z0, z1⟩ := pick4 (M := m) hx' (by omega) (by omega) (by omega) ⟨r0, by omega⟩
          have kk : KeepD H2 H8 d l := k3.trans ((Same.keepD d l s7).trans k8)
          refine ⟨_, _, rfl, rfl, y - x + z, rfl, ⟨p0, by omega, p6, by omega, as, fun i v h => by have := ws i v h; omega, by omega, by omega, fun x' y' h1 h2 => ?_⟩, kk _ _ h2 (D.nd ha) (D.nl ha), D8, k2.trans kk⟩
          rw [hx] at h1
          rw [hy] at h2
          cases h1
          cases h2
          omega
        · rintro σ H3 ⟨g, rfl, S, h3, D3, k3⟩
          refine ⟨fun σ H4 => ∃ (p : Nat) (a : Addr) (xs : List V) (g : Int), σ = [some (.ref d), some (.int N), some (.int m), some (.int n), some (.int p), some (.ref a), some (.int g)] ∧ Sk N 6 (m * (N + 1)) xs p g ∧ SkZ xs g ∧ H a = none ∧ H4 a = some (.lst xs) ∧ DrawAt H4 d l c ∧ KeepD H H4 d l, ?_, ?_⟩
          · refine ⟨_, rfl, d, l, c, 10, rfl, D3, by decide, by decide, fun r H4 r0 r1 D4 k4 => ⟨rfl, _, rfl, ?_⟩⟩
            have h4 := k4 _ _ h3 (D.nd ha) (D.nl ha)
            refine ite2 (fun _ => ?_) (fun _ => ⟨p, a, _, g, rfl, .mkI s p g S, skz_int, ha, h4, D4, k3.trans k4⟩)
            refine ⟨_, rfl, _, rfl, _, rfl, d, l, c, n, rfl, D4, by omega, by omega, fun r2 H5 r20 r21 D5 k5 => ⟨_, rfl, a, _, rfl, SqL.of (k5 _ _ h4 (D.nd ha) (D.nl ha)), fun q hq => ?_⟩⟩
            rw [show r2 = ((r2.toNat : Nat) : Int) by omega, cutR (by rw [List.length_map]; omega), ← List.map_take]
            generalize g6 : upd H5 q _ = H6
            obtain ⟨s6, f6⟩ := alloc g6 hq
            refine ⟨(by show 1 ≤ sizeLine; decide), fun u hu => ?_⟩
            generalize g7 : upd H6 u _ = H7
            obtain ⟨s7, f7⟩ := alloc g7 hu
            refine ⟨q, u, _, _, rfl, rfl, s7 _ _ f6, f7, ?_, fun z hz => ?_⟩
            · rw [List.length_map, List.length_take]
              exact Nat.le_of_lt (small1000 (show min r2.toNat s.length + 1 ≤ 1000 by omega))
            generalize g8 : upd H7 z _ = H8
            obtain ⟨s8, f8⟩ := alloc g8 hz
            refine ⟨(by show 2 ≤ sizeLine; decide), fun t ht => ?_⟩
            generalize g9 : upd H8 t _ = H9
            obtain ⟨s9, f9⟩ := alloc g9 ht
            have kk : KeepD H H7 d l := ((k3.trans k4).trans k5).trans (Same.keepD d l (Same.trans s6 s7))
            have ss : Same H5 H9 := Same.trans s6 (Same.trans s7 (Same.trans s8 s9))
            refine ⟨t, _, rfl, SqT.of f9, rfl, _, _, rfl, _, _, rfl, rfl, 1, z, (s.take r2.toNat).map V.int ++ List.replicate 1 .non, 0, rfl, ?_, fun _ => rfl, ?_, s9 _ _ f8, D5.same ss, ((k3.trans k4).trans k5).trans (Same.keepD d l ss)⟩
            · refine Sk.mkN (s.take r2.toNat) 0 0 ?_ (asc_take S.asc) (within_take S.wi) (by omega) (Int.le_trans S.g0 S.g1)
              rw [List.length_take]
              omega
            · exact D.keepF kk ((D5.same s6).same s7) hz
          · rintro σ H4 ⟨p, a, xs, g, rfl, S, Z, ha, h4, D4, k4⟩
            refine fun e he => ⟨_, rfl, _, rfl, _, rfl, upd_same, skKvs a p g, rfl, (by show 3 ≤ 15; decide), ?_⟩
            have heH := D.keepF k4 D4 he
            refine k e a xs p g _ heH ha ⟨upd_same, ?_, D.nd heH, D.nl heH, D.nd ha, D.nl ha⟩ S Z ?_ ?_
            · rw [upd_ne (ne_of_none h4 he), upd_ne (ne_of_none h4 he)]; exact h4
            · exact (D4.put (D.nd heH) (D.nl heH) (D.nc heH)).put (D.nd heH) (D.nl heH) (D.nc heH)
            · exact (k4.trans' heH).trans' heH
end
end WW
end

section
set_option Elab.async false
set_option linter.all false
set_option maxRecDepth 100000
set_option maxHeartbeats 4000000
namespace WW
open PySem L2 WO WG RZ
abbrev sAt : Stmt := top 69
def FN (s : List Int) (j : Nat) : V := if j < s.length then .int (s.getD j 0) else .non
inductive RowF : List V → Nat → Int → (Nat → V) → Prop
  | mkI (s : List Int) (p : Nat) (g : Int) (p0 : 0 < p) (pn : p ≤ s.length) (pb : p ≤ 1000000) : RowF (s.map V.int) p g (fun j => .int (MF.at_ s p g j))
  | mkN (s : List Int) (k p : Nat) (g : Int) : RowF (s.map V.int ++ List.replicate (k + 1) .non) p g (FN s)
theorem RowF.flat {xs : List V} {p : Nat} {g : Int} {F : Nat → V} (h : RowF xs p g F) (j : Nat) : F j = .non ∨ ∃ i : Int, F j = .int i := by
  cases h with
  | mkI s p g => exact .inr ⟨_, rfl⟩
  | mkN s k p g =>
    unfold FN
    split
    · exact .inr ⟨_, rfl⟩
    · exact .inl rfl
theorem flat_range {F : Nat → V} (h : ∀ j, F j = .non ∨ ∃ i : Int, F j = .int i) (n : Nat) : FlatR ((List.range n).map F) := by
  intro v hv
  obtain ⟨j, _, rfl⟩ := List.mem_map.mp hv
  exact h j
section
variable {P : Program} {w : World} {K : PySem.W.Frag} {mg : Str → Option Value} {base : Heap}
def spAt (K : PySem.W.Frag) : Sp := fun vs H Q _ => ∃ (e a : Addr) (xs : List V) (p b : Nat) (g : Int) (F : Nat → V), vs = [.ref e, .int b] ∧ H e = some (.dK (skKvs a p g)) ∧ H a = some (.lst xs) ∧ RowF xs p g F ∧ b ≤ 10000000000000 ∧ Q (F b) H
theorem scAt : FnScope ["sketch", "beat", "start_here", "laps"] ["sketch", "beat"] (defScope sAt) := ⟨rfl, rfl, rfl, by decide +kernel, rfl, by decide +kernel, by decide +kernel⟩
theorem ok_at {f : Addr} {fd : FuncData} (F : Fun K "_law_at" "_law_at" sAt f fd) (T : CurG mg) : FnOk P w K mg base CX0 1 f fd ["sketch", "beat"] (spAt K) := by
  refine F.ok scAt (fun vs H Q E h => ?_) (fun cdv A outer s H vs Q E hr h => ?_)
  · obtain ⟨e, a, xs, p, b, g, F, rfl, _⟩ := h
    rfl
  · obtain ⟨e, a, xs, p, b, g, F, rfl, he, ha, R, hb, k⟩ := h
    have hu := hu_of hr
    refine ⟨_, pss_cons (ps_set (i := 2) scAt.nd rfl (Or.inl rfl) (pe_dget hu (pv 0) pe_str (fun _ _ => rfl)))
      (pss_cons (ps_if (pt_cmpR op_lt (pv 1) (pe_callB call_len_seq (by rfl) T.len PySem.boot_len (pa_cons (pv 2) pa_nil)) (nomark _)) (pss_one (ps_ret (pe_ix ix_list (pv 2) (pv 1) (fun _ _ => rfl)))) pss_nil)
      (pss_cons (ps_if (pt_cmpR op_isN (pe_ix ix_list (pv 2) (pe_un un_neg pe_int) (fun _ _ => rfl)) pe_non (nomark _)) (pss_one (ps_ret pe_non)) pss_nil)
      (pss_cons (ps_set (i := 3) scAt.nd rfl (Or.inl rfl) (pe_op op_add (pe_op op_fdivN (pe_op op_sub (pv 1) (pe_callB call_len_seq (by rfl) T.len PySem.boot_len (pa_cons (pv 2) pa_nil))) (pe_dget hu (pv 0) pe_str (fun _ _ => rfl))) pe_int))
      (pss_one (ps_ret (pe_op op_add (pe_ix ix_list (pv 2) (pe_op op_sub (pv 1) (pe_op op_mul (pv 3) (pe_dget hu (pv 0) pe_str (fun _ _ => rfl)))) (fun _ _ => rfl)) (pe_op op_mul (pv 3) (pe_dget hu (pv 0) pe_str (fun _ _ => rfl))))))))), ?_⟩
    refine ⟨_, rfl, e, _, rfl, sk_start he, ?_⟩
    refine ⟨_, rfl, _, rfl, a, xs, rfl, .inl (SqL.of ha), _, _, rfl, rfl, ?_⟩
    cases R with
    | mkI s p g p0 pn pb =>
      by_cases hl : b < s.length
      · refine ⟨true, bT (by rw [List.length_map]; omega), iteT ⟨_, rfl, _, rfl, a, _, _, _, rfl, rfl, SqL.of ha, atI_nat (get_map (p := p) (g := g) hl), k⟩⟩
      · refine ⟨false, bF (by rw [List.length_map]; omega), iteF ?_⟩
        have n0 : 0 < s.length := by omega
        have el : (s.map V.int)[(s.map V.int).length - 1]? = some (.int (MF.at_ s p g (s.length - 1))) := by
          rw [List.length_map]
          exact get_map (by omega)
        refine ⟨_, rfl, 1, rfl, a, _, _, _, rfl, rfl, SqL.of ha, last_get el, rfl, false, rfl, iteF ?_⟩
        have hm := Nat.mod_add_div (b - s.length) p
        have hml := Nat.mod_lt (b - s.length) p0
        have hq : (b - s.length) / p ≤ b - s.length := Nat.div_le_self _ _
        generalize hqq : (b - s.length) / p = qq at *
        have hmul : (qq + 1) * p = p * qq + p := by rw [Nat.succ_mul, Nat.mul_comm]
        have e1 : Int.fdiv ((b : Int) - (s.length : Int)) (p : Int) = (qq : Int) := by
          rw [show (b : Int) - (s.length : Int) = ((b - s.length : Nat) : Int) by omega, Int.fdiv_eq_ediv_of_nonneg _ (by omega), ← hqq]
          rfl
        have hg : MF.at_ s p g b = s.getD (b - (qq + 1) * p) 0 + (qq + 1 : Nat) * g := by
          unfold MF.at_
          rw [if_neg hl, hqq]
        have hi : b - (qq + 1) * p < s.length := by omega
        have gi : (s.map V.int)[b - (qq + 1) * p]? = some (.int (s.getD (b - (qq + 1) * p) 0)) := by
          rw [List.getElem?_map, List.getD_eq_getElem?_getD, List.getElem?_eq_getElem hi]
          rfl
        refine ⟨_, rfl, _, rfl, a, _, rfl, .inl (SqL.of ha), _, _, rfl, rfl, _, rfl, e, _, rfl, sk_period he, _, _, rfl, rfl, ⟨by omega, by omega⟩, _, _, rfl, rfl, ?_⟩
        rw [List.length_map, e1]
        have e2 : (b : Int) - ((qq : Int) + 1) * (p : Int) = ((b - (qq + 1) * p : Nat) : Int) := by
          have : ((qq : Int) + 1) * (p : Int) = (((qq + 1) * p : Nat) : Int) := by rw [Int.natCast_mul]; rfl
          rw [this]
          omega
        refine ⟨_, rfl, _, rfl, _, rfl, _, rfl, e, _, rfl, sk_period he, _, _, rfl, rfl, .inl ⟨by omega, by omega⟩, _, _, rfl, rfl, a, _, _, .int (s.getD (b - (qq + 1) * p) 0), rfl, rfl, SqL.of ha, ?_, _, rfl, _, rfl, e, _, rfl, sk_growth he, _, _, rfl, rfl, .inl ⟨by omega, by omega⟩, _, _, rfl, rfl, ?_⟩
        · show atI _ ((b : Int) - ((qq : Int) + 1) * (p : Int)) = _
          rw [e2]
          exact atI_nat gi
        · have k' := k
          dsimp only at k'
          rw [hg] at k'
          exact k'
    | mkN s k' p g =>
      have lx : (s.map V.int ++ List.replicate (k' + 1) V.non).length = s.length + (k' + 1) := by rw [List.length_append, List.length_map, List.length_replicate]
      by_cases hl : b < s.length + (k' + 1)
      · refine ⟨true, bT (by rw [lx]; omega), iteT ⟨_, rfl, _, rfl, a, _, _, FN s b, rfl, rfl, SqL.of ha, atI_nat ?_, k⟩⟩
        unfold FN
        by_cases c : b < s.length
        · rw [if_pos c, List.getElem?_append_left (by rw [List.length_map]; exact c), List.getElem?_map, List.getD_eq_getElem?_getD, List.getElem?_eq_getElem c]
          rfl
        · rw [if_neg c]
          exact nones_get b (by omega) hl
      · refine ⟨false, bF (by rw [lx]; omega), iteF ?_⟩
        refine ⟨_, rfl, 1, rfl, a, _, _, _, rfl, rfl, SqL.of ha, last_get (nones_get _ (by rw [lx]; omega) (by rw [lx]; omega)), rfl, true, rfl, iteT ?_⟩
        unfold FN at k
        rw [if_neg (by omega)] at k
        exact k
end
end WW
end

section
set_option Elab.async false
set_option linter.all false
set_option maxRecDepth 100000
set_option maxHeartbeats 4000000
namespace WW
open PySem L2 WO WG RZ
abbrev sHas : Stmt := top 27
section
variable {P : Program} {w : World} {K : PySem.W.Frag} {mg : Str → Option Value} {base : Heap}
def spHas (K : PySem.W.Frag) (C : Addr) : Sp := fun vs H Q _ => ∃ (x : Addr) (v : List V) (q r : Int) (lv : V), vs = [.ref x] ∧ CurveAt H C x v q r ∧ v[v.length - 1]? = some lv ∧ Q (.bl (decide (lv = .non))) H
theorem scHas : FnScope ["curve"] ["curve"] (defScope sHas) := ⟨rfl, rfl, rfl, by decide +kernel, rfl, by decide +kernel, by decide +kernel⟩
theorem ok_has {f fI fE C : Addr} {fd : FuncData} (F : Fun K "has_none" "has_none" sHas f fd) (U : CurT K mg C fI fE) : FnOk P w K mg base CX0 1 f fd ["curve"] (spHas K C) := by
  refine F.ok scHas (fun vs H Q E h => ?_) (fun cdv A outer s H vs Q E hr h => ?_)
  · obtain ⟨x, v, q, r, lv, rfl, _⟩ := h
    rfl
  · obtain ⟨x, v, q, r, lv, rfl, ⟨dx, t, h1, h2⟩, hl, k⟩ := h
    refine ⟨_, pss_one (ps_ret (pe_cmpR op_isN (pe_ix ix_tup (pe_fld (pv 0) rfl) (pe_un un_neg pe_int) (fun _ _ => rfl)) pe_non (nomark _))), ?_⟩
    exact ⟨_, rfl, x, C, dx, _, .ref t, rfl, h1, U.cl, U.nS, rfl, 1, rfl, t, _, _, _, rfl, rfl, SqT.of h2, last_get hl, rfl, k⟩
end
end WW
end

section
set_option Elab.async false
set_option linter.all false
set_option maxRecDepth 100000
set_option maxHeartbeats 4000000
/-! lists made item by item, as one word -/
namespace LM
open PySem PySem.Spec PyProof.Rows L2
theorem sNew {H : Hp} {p : Addr} {o : HO} (h : H p = none) : Same H (upd H p o) := fun b u e => by rw [upd_ne (ne_of_none e h)]; exact e
theorem sPut {H H' : Hp} {p : Addr} {o : HO} (h : H p = none) (s : Same H H') : Same H (upd H' p o) := fun b u e => by rw [upd_ne (ne_of_none e h)]; exact s _ _ e
theorem cut_whole {xs : List V} {lo hi : Option Int} (h : HT.sIx xs.length 0 lo = 0 ∧ HT.sIx xs.length xs.length hi = xs.length) : cutV xs lo hi = xs := by
  unfold cutV
  rw [h.1, h.2, List.drop_zero, Nat.sub_zero, List.take_length]
/-- a part of a tuple, whether it is the tuple itself or a new one -/
theorem slT {K : PySem.W.Frag} {H : Hp} {a : Addr} {xs : List V} {lo hi : Option Int} {Q : VK} (h : SqT K H a xs) (k : ∀ a' H1, SqT K H1 a' (cutV xs lo hi) → Same H H1 → Q (.ref a') H1) :
    (HT.sIx xs.length 0 lo = 0 ∧ HT.sIx xs.length xs.length hi = xs.length → Q (.ref a) H) ∧ (¬ (HT.sIx xs.length 0 lo = 0 ∧ HT.sIx xs.length xs.length hi = xs.length) → ∀ p, H p = none → Q (.ref p) (upd H p (.tup (cutV xs lo hi)))) := by
  refine ⟨fun w => k a H ?_ (Same.refl _), fun _ p hp => k p _ (SqT.of upd_same) (sNew hp)⟩
  rw [cut_whole w]
  exact h
def rSlN (K : PySem.W.Frag) : V → Option Int → Option Int → Hp → VK → Prop := fun x lo hi H Q => ∃ a xs, x = .ref a ∧ SqT K H a xs ∧ ∀ a' H1, SqT K H1 a' (cutV xs lo hi) → Same H H1 → Q (.ref a') H1
theorem sl_tupN {X : Cx} : SlR X (rSlN X.K) := fun pins s σ H x v vl vu lo hi sl Q I rx hs pl pu ⟨a, xs, e, hx, k⟩ => sl_tupA pins s σ H x v vl vu lo hi sl Q I rx hs pl pu ⟨a, xs, e, hx, slT hx k⟩
section
variable {J : It} {n : Nat} {G : Hp → Prop} {Y : Nat → Hp → V → Hp → Prop}
/-- [e for .. in ..], each item F i -/
theorem lcM (w : Walk J n G Y) {g : TG} {tt : TT} {te : TE} {vs : List Nat} {σ : L2.St} {H1 : Hp} {D : Addr} {Qd : Hp → Prop} (F : Nat → V) (hD : H1 D = none) (hn : n ≤ 200000) (hG : ∀ H, Same H1 H → G H)
    (hs : ∀ i x H H', i < n → Same H1 H → Y i H x H' → ∀ (R : V → Hp → Prop) (N : Hp → Prop), (∀ H4, Same H H4 → R (F i) H4) → g x (wipe σ vs) H' fun σ2 H2 => wipe σ2 vs = wipe σ vs ∧ tt σ2 H2 fun b H3 => if b = true then te σ2 H3 R else N H3)
    (hd : ∀ H, H D = some (.lst ((List.range n).map F)) → Same H1 H → Qd H) :
    ∃ W : Nat → Nat → Hp → Prop, (∃ m, W 0 m (upd H1 D (.lst []))) ∧ ∀ i m H, W i m H →
      (J.stop i H ∧ Qd H) ∨ (J.go i H ∧ ∃ Nx : Hp → Prop, (∀ H', Nx H' → ∃ m', m' < m ∧ W (i + 1) m' H') ∧ ∀ x H', J.yld i H x H' → g x (wipe σ vs) H' fun σ2 H2 => wipe σ2 vs = wipe σ vs ∧ tt σ2 H2 fun b H3 =>
        if b = true then te σ2 H3 fun y H4 => ∃ acc, H4 D = some (.lst acc) ∧ acc.length < sizeLine ∧ Nx (upd H4 D (.lst (acc ++ [y]))) else Nx H3) := by
  refine lc_it w (fun i H => H D = some (.lst ((List.range i).map F)) ∧ Same H1 H) ⟨upd_same, sNew hD⟩ (fun i H _ h => hG H h.2) (fun i x H H' hi ⟨d, s⟩ y => ?_) (fun H ⟨d, s⟩ => hd H d s)
  refine hs i x H H' hi s y _ _ fun H4 s4 => ⟨_, s4 _ _ d, ?_, ?_, sPut hD (Same.trans s s4)⟩
  · rw [List.length_map, List.length_range]
    exact Nat.lt_of_lt_of_le (show i < 200001 by omega) (by decide)
  · rw [List.range_succ, List.map_append]
    exact upd_same
/-- any loop over heaps: what a turn does is B -/
theorem itB (w : Walk J n G Y) {Qd : Hp → Prop} {H0 : Hp} {B : (Hp → Prop) → V → Hp → Prop} (Pv : Nat → Hp → Prop) (h0 : Pv 0 H0) (hG : ∀ i H, i ≤ n → Pv i H → G H)
    (hs : ∀ i x H H', i < n → Pv i H → Y i H x H' → B (Pv (i + 1)) x H') (hd : ∀ H, Pv n H → Qd H) :
    ∃ W : Nat → Nat → Hp → Prop, (∃ m, W 0 m H0) ∧ ∀ i m H, W i m H →
      (J.stop i H ∧ Qd H) ∨ (J.go i H ∧ ∃ Nx : Hp → Prop, (∀ H', Nx H' → ∃ m', m' < m ∧ W (i + 1) m' H') ∧ ∀ x H', J.yld i H x H' → B Nx x H') := by
  refine ⟨fun i m H => m = n - i ∧ i ≤ n ∧ Pv i H, ⟨n, by simp, Nat.zero_le _, h0⟩, ?_⟩
  rintro i m H ⟨rfl, hi, p⟩
  have q := hG i H hi p
  by_cases hlt : i < n
  · exact .inr ⟨w.goes i H hlt q, Pv (i + 1), fun H' p' => ⟨n - (i + 1), by omega, rfl, hlt, p'⟩, fun x H' y => hs i x H H' hlt p (w.yields i H x H' hlt q y)⟩
  · have e : i = n := by omega
    subst e
    exact .inl ⟨w.stops H q, hd H p⟩
end
end LM
end

section
set_option linter.all false
/-! rows that never fall -/
namespace MF
def Mono (f : Nat → Int) : Prop := ∀ j, f j ≤ f (j + 1)
theorem Mono.le {f : Nat → Int} (h : Mono f) {i j : Nat} (l : i ≤ j) : f i ≤ f j := by
  induction j with
  | zero => rw [Nat.le_zero.mp l]; exact Int.le_refl _
  | succ j ih =>
    rcases Nat.lt_or_ge j i with q | q
    · rw [show i = j + 1 by omega]; exact Int.le_refl _
    · exact Int.le_trans (ih q) (h j)
/-- a row that never falls, and whose first value behind isn't below its last one -/
theorem mono_at {s : List Int} {p : Nat} {g : Int} (p0 : 0 < p) (pn : p ≤ s.length) (asc : s.Pairwise (· ≤ ·)) (fa : at_ s p g (s.length - 1) ≤ at_ s p g (s.length - p) + g) : Mono (at_ s p g) := by
  have QPf := at_qp (s := s) (g := g) p0 pn
  intro j
  induction j using Nat.strongRecOn with
  | ind j ih =>
    rcases Nat.lt_or_ge (j + 1) s.length with h | h
    · rw [at_low h, at_low (show j < s.length by omega), List.getD_eq_getElem?_getD, List.getD_eq_getElem?_getD, List.getElem?_eq_getElem h, List.getElem?_eq_getElem (show j < s.length by omega)]
      exact List.pairwise_iff_getElem.mp asc j (j + 1) (by omega) h (by omega)
    · rcases Nat.lt_or_ge s.length (j + 1) with h2 | h2
      · have q1 := QPf (j - p) (by omega)
        have q2 := QPf (j + 1 - p) (by omega)
        rw [show j - p + p = j by omega] at q1
        rw [show j + 1 - p + p = j + 1 by omega] at q2
        have i := ih (j - p) (by omega)
        rw [show j - p + 1 = j + 1 - p by omega] at i
        omega
      · have q1 := QPf (s.length - p) (Nat.le_refl _)
        rw [show s.length - p + p = s.length by omega] at q1
        rw [show j = s.length - 1 by omega, show s.length - 1 + 1 = s.length by omega]
        omega
theorem Mono.rise {f : Nat → Int} (h : Mono f) {q : Nat} {r : Int} {b : Nat} (Q : QP f q r b) : 0 ≤ r := by
  have a := Q b (Nat.le_refl _)
  have m := h.le (show b ≤ b + q by omega)
  omega
/-- a rise of 0 is that of the period 1 -/
theorem Mono.flat {f : Nat → Int} (h : Mono f) {q : Nat} {b : Nat} (F : IsForm f q 0 b) : q = 1 := by
  have l := F.least 1 (by omega) ⟨b, fun j hj => by
    have q0 := F.pos
    have key : ∀ i, b ≤ i → f (i + 1) = f i := fun i hi => by
      have a := F.qp i hi
      have m1 := h i
      have m2 := h.le (show i + 1 ≤ i + q by omega)
      omega
    unfold D
    rw [key (j + 1) (by omega), key j hj]⟩
  have := F.pos
  omega
theorem form_rise {f : Nat → Int} {p q : Nat} {g r : Int} {b c : Nat} (p0 : 0 < p) (P : QP f p g c) (F : IsForm f q r b) : (p : Int) * r = (q : Int) * g := by
  have m1 := P.mul (j := b + c) (by omega) q
  have m2 := F.qp.mul (j := b + c) (by omega) p
  rw [Nat.mul_comm q p] at m1
  omega
theorem form_le {f : Nat → Int} {p q : Nat} {g r : Int} {b c : Nat} (p0 : 0 < p) (g0 : 0 ≤ g) (P : QP f p g c) (F : IsForm f q r b) : r ≤ g ∧ q ≤ p := by
  have e := form_rise p0 P F
  have l := F.least p p0 ⟨c, P.dp⟩
  refine ⟨?_, l⟩
  have h : (q : Int) * g ≤ (p : Int) * g := Int.mul_le_mul_of_nonneg_right (by omega) g0
  exact Int.le_of_mul_le_mul_left (a := (p : Int)) (by omega) (by omega)
end MF
end

section
set_option Elab.async false
set_option linter.all false
set_option maxRecDepth 100000
set_option maxHeartbeats 4000000
namespace WW
open PySem L2 WO WG RZ
abbrev sFirst : Stmt := top 30
abbrev sBehind : Stmt := top 31
abbrev sRegular : Stmt := top 29
theorem RowF.get {xs : List V} {p : Nat} {g : Int} {F : Nat → V} (R : RowF xs p g F) {j : Nat} (h : j < xs.length) : xs[j]? = some (F j) := by
  cases R with
  | mkI s p g p0 pn pb => rw [List.length_map] at h; exact get_map h
  | mkN s k p g =>
    rw [List.length_append, List.length_map, List.length_replicate] at h
    unfold FN
    by_cases c : j < s.length
    · rw [if_pos c, List.getElem?_append_left (by rw [List.length_map]; exact c), List.getElem?_map, List.getD_eq_getElem?_getD, List.getElem?_eq_getElem c]
      rfl
    · rw [if_neg c]
      exact nones_get j (by omega) h
theorem RowF.take {xs : List V} {p : Nat} {g : Int} {F : Nat → V} (R : RowF xs p g F) {n : Nat} : xs.take n = (List.range (min n xs.length)).map F := by
  refine List.ext_getElem? fun i => ?_
  rw [List.getElem?_take, List.getElem?_map]
  by_cases h : i < n
  · by_cases h2 : i < xs.length
    · rw [if_pos h, R.get h2, List.getElem?_range (by omega)]
      rfl
    · rw [if_pos h, List.getElem?_eq_none (by omega), List.getElem?_eq_none (by rw [List.length_range]; omega)]
      rfl
  · rw [if_neg h, List.getElem?_eq_none (by rw [List.length_range]; omega)]
    rfl
theorem cutR' {xs : List V} {n : Nat} : cutV xs none (some (n : Int)) = xs.take n := by
  have e : HT.sIx xs.length xs.length (some (n : Int)) = min n xs.length := by
    unfold HT.sIx
    dsimp only
    rw [if_neg (by omega), Int.toNat_natCast]
  unfold cutV
  rw [e]
  show (xs.drop 0).take (min n xs.length - 0) = _
  rw [List.drop_zero, Nat.sub_zero, ← List.take_take, List.take_length]
theorem rep_flat (n : Nat) : (List.replicate n [V.non]).flatten = List.replicate n V.non := by
  induction n with
  | zero => rfl
  | succ n ih => rw [List.replicate_succ, List.flatten_cons, ih]; rfl
theorem line_of {n : Nat} (h : n ≤ 100000) : n ≤ sizeLine := Nat.le_trans h (by decide)
theorem line_of' {n : Nat} (h : n < 100000) : n < sizeLine := Nat.lt_of_lt_of_le h (by decide)
section
variable {P : Program} {w : World} {K : PySem.W.Frag} {mg : Str → Option Value} {base : Heap}
def spRegular (K : PySem.W.Frag) (C : Addr) : Sp := fun vs H Q _ => ∃ (x : Addr) (v : List V) (p : Nat) (r : Int), vs = [.ref x] ∧ CurveAt H C x v p r ∧ p ≤ v.length ∧ Q (.int ((v.length - p : Nat) : Int)) H
theorem scRegular : FnScope ["curve"] ["curve"] (defScope sRegular) := ⟨rfl, rfl, rfl, by decide +kernel, rfl, by decide +kernel, by decide +kernel⟩
theorem ok_regular {f fI fE C : Addr} {fd : FuncData} (F : Fun K "regular_from" "regular_from" sRegular f fd) (T : CurG mg) (U : CurT K mg C fI fE) : FnOk P w K mg base CX0 1 f fd ["curve"] (spRegular K C) := by
  refine F.ok scRegular (fun vs H Q E h => ?_) (fun cdv A outer s H vs Q E hr h => ?_)
  · obtain ⟨x, v, p, r, rfl, _⟩ := h
    rfl
  · obtain ⟨x, v, p, r, rfl, ⟨dx, t, h1, h2⟩, hp, k⟩ := h
    refine ⟨_, pss_one (ps_ret (pe_op op_sub (pe_callB call_len_seq (by rfl) T.len PySem.boot_len (pa_cons (pe_fld (pv 0) rfl) pa_nil)) (pe_fld (pv 0) rfl))), ?_⟩
    refine ⟨_, rfl, x, C, dx, _, .ref t, rfl, h1, U.cl, U.nS, rfl, t, v, rfl, .inr (SqT.of h2), _, rfl, x, C, dx, _, .int p, rfl, h1, U.cl, U.nP, rfl, _, _, rfl, rfl, ?_⟩
    rw [← show (v.length : Int) - (p : Int) = ((v.length - p : Nat) : Int) by omega] at k
    exact k
/-- the values behind the start, from the first one -/
def beh (s : List Int) (p : Nat) (g : Int) (n : Nat) : List Int := (List.range n).map fun j => MF.at_ s p g (s.length + j)
theorem beh_len {s : List Int} {p : Nat} {g : Int} {n : Nat} : (beh s p g n).length = n := by unfold beh; rw [List.length_map, List.length_range]
theorem beh_snoc {s : List Int} {p : Nat} {g : Int} (n : Nat) : (beh s p g n).map V.int ++ [.int (MF.at_ s p g (s.length + n))] = (beh s p g (n + 1)).map V.int := by
  unfold beh
  rw [List.range_succ, List.map_append, List.map_append]
  rfl
theorem beh_get {s : List Int} {p : Nat} {g : Int} {n i : Nat} (h : i < n) : ((beh s p g n).map V.int)[i]? = some (.int (MF.at_ s p g (s.length + i))) := by
  unfold beh
  rw [List.getElem?_map, List.getElem?_map, List.getElem?_range h]
  rfl
/-- n values in steps of L values that rise by G -/
theorem beh_add {s : List Int} {p L : Nat} {g G : Int} (h : MF.QP (MF.at_ s p g) L G (s.length - p)) (n m : Nat) (hm : m ≤ n) (hn : n ≤ m + L) (hL : L ≤ n) : MF.at_ s p g (s.length + n) = MF.at_ s p g (s.length + (n - L)) + G := by
  have := h (s.length + (n - L)) (by omega)
  rw [show s.length + (n - L) + L = s.length + n by omega] at this
  exact this
def spBehind (K : PySem.W.Frag) (C : Addr) : Sp := fun vs H Q _ => ∃ (x : Addr) (s : List Int) (p n : Nat) (g : Int), vs = [.ref x, .int n] ∧ CurveAt H C x (s.map V.int) p g ∧ 0 < p ∧ p ≤ s.length ∧ s.length ≤ 100000 ∧ 0 < n ∧ n ≤ 50000 ∧ 0 ≤ g ∧ g < 2 ^ 30 ∧ (∀ z ∈ s, -(2 ^ 50) ≤ z ∧ z < 2 ^ 50) ∧ (g = 0 → p = 1) ∧
  ∀ (z : Addr) (H' : Hp), H z = none → H' z = some (.lst ((beh s p g n).map V.int)) → Same H H' → Q (.ref z) H'
abbrev nBehind : List Str := ["curve", "many", "growth", "row", "rounds", "one", "lift"]
theorem scBehind : FnScope nBehind ["curve", "many"] (defScope sBehind) := ⟨rfl, rfl, rfl, by decide +kernel, rfl, by decide +kernel, by decide +kernel⟩
theorem ok_behind {f fR fI fE C : Addr} {fd dR : FuncData} (F : Fun K "values_behind" "values_behind" sBehind f fd) (T : CurG mg) (few : ∃ t, mg "FEW" = some (.int 12 t)) (U : CurT K mg C fI fE)
    (GR : FnOk P w K mg base CX0 1 fR dR ["curve"] (spRegular K C)) (kR : PySem.W.keepIn K (.ref fR) = true) (bR : Binds K dR ["curve"] []) (mR : mg "regular_from" = some (.ref fR)) :
    FnOk P w K mg base CX0 2 f fd ["curve", "many"] (spBehind K C) := by
  refine F.ok scBehind (fun vs H Q E h => ?_) (fun cdv A outer s H vs Q E hr h => ?_)
  · obtain ⟨x, s, p, n, g, rfl, _⟩ := h
    rfl
  · obtain ⟨x, sl, p, n, g, rfl, cu, p0, pn, n4, n0, n5, g0, g1, bd, gp, k⟩ := h
    obtain ⟨dx, t, h1, h2⟩ := id cu
    obtain ⟨tf, mF⟩ := few
    have hu := hr.units
    refine ⟨_, pss_cons (ps_set (i := 2) scBehind.nd rfl (Or.inr rfl) (pe_fld (pv 0) rfl))
      (C8.pss_cut (ps_set (i := 3) scBehind.nd rfl (Or.inr rfl) (pe_lc (own := [("one", 5)]) (g := gName 5) (tt := tYes) rfl scBehind.nd
          (pi_tup (pe_slice LM.sl_tupN (pe_fld (pv 0) rfl) (po_some (pe_call GR hr rfl mR kR bR .nil pass0 (pa_cons (pv 0) pa_nil))) po_none)) (blkOk_by (N := nBehind) (sc := defScope sBehind) (by decide +kernel))
          (fun _ _ _ _ _ => pg_name (i := 5) scBehind.nd rfl (Or.inl rfl)) (fun _ _ _ _ _ => pts_nil) (fun _ _ _ _ _ => pe_op op_add (pv 5) (pv 2))))
      (pss_cons (ps_if (pt_cmpR op_eq (pv 2) pe_int (nomark _)) (pss_one (ps_ret (pe_op op_rep (pv 3) (pv 1)))) pss_nil)
      (pss_cons (ps_if (pt_cmpR op_eq (pe_callB call_len_seq (by rfl) T.len PySem.boot_len (pa_cons (pv 3) pa_nil)) pe_int (nomark _))
        (pss_one (ps_ret (pe_listRgW rfl (by rfl) T.list (by rfl) T.range (pa_cons (pe_ix ix_list (pv 3) pe_int (fun _ _ => rfl)) (pa_cons (pe_op op_add (pe_ix ix_list (pv 3) pe_int (fun _ _ => rfl)) (pe_op op_mul (pv 2) (pv 1))) (pa_cons (pv 2) pa_nil)))))) pss_nil)
      (C8.pss_cut (ps_while PassesOwn.never (pt_cmpR op_lt (pe_callB call_len_seq (by rfl) T.len PySem.boot_len (pa_cons (pv 3) pa_nil)) (pe_glob (v := .int 12) rfl mF ⟨_, rfl⟩) (nomark _))
        (pss_cons (ps_set (i := 3) scBehind.nd rfl (Or.inr rfl) (pe_op op_cat (pv 3) (pe_lc (own := [("one", 5)]) (g := gName 5) (tt := tYes) rfl scBehind.nd (pi_list (pv 3)) (blkOk_by (N := nBehind) (sc := defScope sBehind) (by decide +kernel))
          (fun _ _ _ _ _ => pg_name (i := 5) scBehind.nd rfl (Or.inl rfl)) (fun _ _ _ _ _ => pts_nil) (fun _ _ _ _ _ => pe_op op_add (pv 5) (pv 2)))))
        (pss_one (ps_set (i := 2) scBehind.nd rfl (Or.inr rfl) (pe_op op_add (pv 2) (pv 2))))))
      (C8.pss_cut (ps_set (i := 4) scBehind.nd rfl (Or.inl rfl) (pe_un un_neg (pe_op op_fdivN (pe_un un_neg (pv 1)) (pe_callB call_len_seq (by rfl) T.len PySem.boot_len (pa_cons (pv 3) pa_nil)))))
      (pss_one (ps_ret (pe_slice sl_list (pe_lc2 (own := [("one", 5), ("lift", 6)]) (vs1 := [5]) (g := gName 6) (tt := tYes) (g1 := gName 5) (tt1 := tYes) (wi1 := iList K (tVar 3)) rfl scBehind.nd (pi_rangeW (by rfl) T.range (pa_cons pe_int (pa_cons (pe_op op_mul (pv 2) (pv 4)) (pa_cons (pv 2) pa_nil))))
          (blkOk_by (N := nBehind) (sc := defScope sBehind) (by decide +kernel)) (by decide) (fun _ _ _ _ _ => pg_name (i := 6) scBehind.nd rfl (Or.inl rfl)) (fun _ _ _ _ _ => pts_nil)
          (fun _ _ _ _ _ => pi_list (pv 3)) (fun _ _ _ _ _ => pg_name (i := 5) scBehind.nd rfl (Or.inl rfl)) (fun _ _ _ _ _ => pts_nil) (fun _ _ _ _ _ => pe_op op_add (pv 5) (pv 6))) po_none (po_some (pv 1)))))))))), ?_⟩
    have QP0 := MF.at_qp (s := sl) (g := g) p0 pn
    have lX := tail_len (s := sl) pn
    refine ⟨_, rfl, x, C, dx, _, .int g, rfl, h1, U.cl, U.nG, rfl, ?_⟩
    refine ⟨fun σ' H' => ∃ z, σ' = [some (.ref x), some (.int n), some (.int g), some (.ref z), none, none, none] ∧ H z = none ∧ H' z = some (.lst ((beh sl p g p).map V.int)) ∧ Same H H', ?_, ?_⟩
    · refine ⟨_, rfl, x, C, dx, _, .ref t, rfl, h1, U.cl, U.nS, rfl, _, rfl, x, _, p, g, rfl, cu, by rw [List.length_map]; exact pn, _, rfl, t, _, rfl, SqT.of h2, fun a' H1 ha s1 => ?_⟩
      rw [List.length_map, cutL (by rw [List.length_map]; omega)] at ha
      refine ⟨a', rfl, ⟨_, ha⟩, fun D hD => LM.lcM (walk_tup (K := K) (a := a') (xs := (sl.map V.int).drop (sl.length - p))) (fun i => V.int (MF.at_ sl p g (sl.length + i))) hD (by rw [lX]; omega) (fun H2 s2 => seqT s2 ha) ?_ ?_⟩
      · rintro i v H2 H3 hi s2 ⟨rfl, hv⟩ R N kk
        rw [lX] at hi
        rw [tail_get (g := g) pn hi] at hv
        cases hv
        have q := QP0 (sl.length - p + i) (by omega)
        rw [show sl.length - p + i + p = sl.length + i by omega] at q
        have kk' := kk _ (Same.refl _)
        rw [q] at kk'
        exact ⟨rfl, _, rfl, _, rfl, _, _, rfl, rfl, kk'⟩
      · intro H2 hd s2
        rw [lX] at hd
        refine ⟨D, rfl, s1.free hD, ?_, Same.trans s1 s2⟩
        rw [hd]
        unfold beh
        rw [List.map_map]
        rfl
    rintro σ1 H1 ⟨z, rfl, hz, f1, s1⟩
    refine ⟨_, rfl, rfl, decide (g = 0), (by show V.bl (decide (V.int g = V.int 0)) = _; congr 1; exact decide_eq_decide.mpr ⟨fun z => V.int.inj z, fun z => by rw [z]⟩), ?_⟩
    refine ite2 (fun c => ?_) (fun c => ?_)
    · have g0 : g = 0 := of_decide_eq_true c
      have p1 := gp g0
      subst p1 g0
      have e1 : (beh sl 1 0 1).map V.int = [V.int (MF.at_ sl 1 0 sl.length)] := rfl
      rw [e1] at f1
      refine ⟨_, rfl, _, rfl, z, n, _, rfl, rfl, f1, by omega, by omega, (by show 1 * _ ≤ sizeLine; exact line_le (by omega)), fun q hq => ?_⟩
      have e2 : (List.replicate (n : Int).toNat [V.int (MF.at_ sl 1 0 sl.length)]).flatten = (beh sl 1 0 n).map V.int := by
        rw [Int.toNat_natCast]
        unfold beh
        rw [List.map_map]
        refine List.ext_getElem? fun j => ?_
        have fl : ∀ m, (List.replicate m [V.int (MF.at_ sl 1 0 sl.length)]).flatten = List.replicate m (V.int (MF.at_ sl 1 0 sl.length)) := fun m => by
          induction m with
          | zero => rfl
          | succ m ih => rw [List.replicate_succ, List.flatten_cons, ih]; rfl
        rw [fl, List.getElem?_replicate, List.getElem?_map]
        by_cases hj : j < n
        · rw [if_pos hj, List.getElem?_range hj]
          have m := QP0.mul (j := sl.length) (by omega) j
          rw [Nat.mul_one, Int.mul_zero, Int.add_zero] at m
          show _ = some (V.int (MF.at_ sl 1 0 (sl.length + j)))
          rw [m]
        · rw [if_neg hj, List.getElem?_eq_none (by rw [List.length_range]; omega)]
          rfl
      rw [e2]
      exact k q _ (s1.free hq) upd_same (Same.trans s1 (same_new hq))
    have gpos : 0 < g := by
      have : g ≠ 0 := fun z => c (decide_eq_true z)
      omega
    have lb : ((beh sl p g p).map V.int).length = p := by rw [List.length_map, beh_len]
    refine ⟨_, rfl, z, _, rfl, .inl (SqL.of f1), rfl, decide (p = 1), (by rw [lb]; show V.bl (decide (V.int (p : Int) = V.int 1)) = _; congr 1; exact decide_eq_decide.mpr ⟨fun z => by have := V.int.inj z; omega, fun z => by rw [z]; rfl⟩), ?_⟩
    have vb : ∀ j, j < sl.length → -(2 ^ 50) ≤ MF.at_ sl p g j ∧ MF.at_ sl p g j < 2 ^ 50 := fun j hj => by
      rw [MF.at_low hj, List.getD_eq_getElem?_getD, List.getElem?_eq_getElem hj]
      exact bd _ (List.getElem_mem hj)
    have e0 : atI ((beh sl p g p).map V.int) 0 = some (.int (MF.at_ sl p g sl.length)) := atI_nat (j := 0) (beh_get p0)
    have w0 : -(2 ^ 50) ≤ MF.at_ sl p g sl.length ∧ MF.at_ sl p g sl.length < 2 ^ 51 := by
      have q := QP0 (sl.length - p) (by omega)
      rw [show sl.length - p + p = sl.length by omega] at q
      have v := vb (sl.length - p) (by omega)
      omega
    have gn : g * (n : Int) < 2 ^ 50 ∧ 0 < g * (n : Int) := by
      refine ⟨?_, Int.mul_pos gpos (by omega)⟩
      have h1 : g * (n : Int) ≤ 2 ^ 30 * (n : Int) := Int.mul_le_mul_of_nonneg_right (by omega) (by omega)
      omega
    refine ite2 (fun c1 => ?_) (fun c1 => ?_)
    · have p1 : p = 1 := of_decide_eq_true c1
      subst p1
      refine ⟨_, rfl, z, _, _, _, rfl, rfl, SqL.of f1, e0, _, rfl, z, _, _, _, rfl, rfl, SqL.of f1, e0, _, rfl, _, rfl, _, _, rfl, rfl, .inl ⟨by omega, by omega⟩, _, _, rfl, rfl, _, rfl, MF.at_ sl 1 g sl.length, _, g, n, rfl, RgW.up (by omega) (by omega) (by omega) (by omega) gpos (by omega) (by omega) ?_ ?_, by omega, fun q hq => ?_⟩
      · rw [Int.mul_comm g]
        omega
      · intro m hm
        have h1 : (m : Int) * g < (n : Int) * g := Int.mul_lt_mul_of_pos_right (by omega) gpos
        rw [Int.mul_comm g]
        omega
      · have e2 : rgC (MF.at_ sl 1 g sl.length) g n = (beh sl 1 g n).map V.int := by
          unfold rgC beh
          rw [List.map_map]
          refine List.map_congr_left fun j _ => ?_
          have m := QP0.mul (j := sl.length) (by omega) j
          rw [Nat.mul_one] at m
          show V.int _ = V.int (MF.at_ sl 1 g (sl.length + j))
          rw [m]
        rw [e2]
        exact k q _ (s1.free hq) upd_same (Same.trans s1 (same_new hq))
    have p2 : 2 ≤ p := by
      have : p ≠ 1 := fun z => c1 (decide_eq_true z)
      omega
    refine ⟨fun σ' H' => ∃ (z : Addr) (m : Nat), σ' = [some (.ref x), some (.int n), some (.int (m * g)), some (.ref z), none, none, none] ∧ H z = none ∧ H' z = some (.lst ((beh sl p g (m * p)).map V.int)) ∧ 1 ≤ m ∧ m ≤ 12 ∧ 12 ≤ m * p ∧ m * p ≤ 100024 ∧ Same H H', ?_, ?_⟩
    · refine while_by (fun σ' H' => ∃ (z : Addr) (m : Nat), σ' = [some (.ref x), some (.int n), some (.int (m * g)), some (.ref z), none, none, none] ∧ H z = none ∧ H' z = some (.lst ((beh sl p g (m * p)).map V.int)) ∧ 1 ≤ m ∧ m ≤ 12 ∧ m * p ≤ 100024 ∧ Same H H')
          (fun σ' H' => match σ' with
            | [_, _, _, some (.ref z), _, _, _] => (match H' z with
              | some (.lst l) => 12 - l.length
              | _ => 0)
            | _ => 0) ⟨z, 1, by rw [Int.ofNat_one, Int.one_mul], hz, by rw [Nat.one_mul]; exact f1, by omega, by omega, by omega, s1⟩ ?_ ?_
      · rintro σ' H2 ⟨z, m, rfl, hz, f2, m1, m12, mp, s2⟩
        have lm : ((beh sl p g (m * p)).map V.int).length = m * p := by rw [List.length_map, beh_len]
        by_cases c2 : m * p < 12
        · have m6 : m < 6 := by
            rcases Nat.lt_or_ge m 6 with h | h
            · exact h
            · have := Nat.mul_le_mul h p2
              omega
          refine ⟨_, rfl, z, _, rfl, .inl (SqL.of f2), _, _, rfl, rfl, true, bT (by rw [lm]; omega), iteT ?_⟩
          refine ⟨_, rfl, _, rfl, z, rfl, ⟨_, SqL.of f2⟩, fun D hD => LM.lcM (walk_list (K := K) (a := z) (xs := (beh sl p g (m * p)).map V.int)) (fun i => V.int (MF.at_ sl p g (sl.length + (m * p + i)))) hD (by rw [lm]; omega) (fun H3 s3 => SqL.of (s3 _ _ f2)) ?_ ?_⟩
          · rintro i v H3 H4 hi s3 ⟨rfl, hv⟩ R N kk
            rw [lm] at hi
            rw [beh_get hi] at hv
            cases hv
            have q := QP0.mul (j := sl.length + i) (by omega) m
            rw [show sl.length + i + m * p = sl.length + (m * p + i) by omega] at q
            have kk' := kk _ (Same.refl _)
            rw [q] at kk'
            exact ⟨rfl, _, rfl, _, rfl, _, _, rfl, rfl, kk'⟩
          · intro H3 hd s3
            rw [lm] at hd
            refine ⟨z, D, _, _, rfl, rfl, s3 _ _ f2, hd, (by rw [lm, List.length_map, List.length_range]; exact line_le (by omega)), fun q hq => ?_⟩
            have e3 : (beh sl p g (m * p)).map V.int ++ (List.range (m * p)).map (fun i => V.int (MF.at_ sl p g (sl.length + (m * p + i)))) = (beh sl p g ((m + m) * p)).map V.int := by
              unfold beh
              rw [Nat.add_mul, List.range_add, List.map_map, List.map_map, List.map_append, List.map_map]
              rfl
            rw [e3]
            have e4 : ((m + m : Nat) : Int) * g = (m : Int) * g + (m : Int) * g := by rw [Int.natCast_add, Int.add_mul]
            have e5 : (m + m) * p = m * p + m * p := Nat.add_mul ..
            refine ⟨_, rfl, _, rfl, _, _, rfl, rfl, ⟨q, m + m, by rw [e4]; rfl, s2.free (s3.free hq), upd_same, by omega, by omega, by omega, Same.trans s2 (Same.trans s3 (same_new hq))⟩, ?_⟩
            show (match (upd H3 q (HO.lst ((beh sl p g ((m + m) * p)).map V.int))) q with
              | some (.lst l) => 12 - l.length
              | _ => 0) < (match H2 z with
              | some (.lst l) => 12 - l.length
              | _ => 0)
            rw [upd_same, f2]
            show 12 - ((beh sl p g ((m + m) * p)).map V.int).length < 12 - ((beh sl p g (m * p)).map V.int).length
            rw [List.length_map, beh_len, lm]
            have : 0 < m * p := Nat.mul_pos m1 p0
            omega
        · refine ⟨_, rfl, z, _, rfl, .inl (SqL.of f2), _, _, rfl, rfl, false, bF (by rw [lm]; omega), iteF ⟨z, m, rfl, hz, f2, m1, m12, by omega, mp, s2⟩⟩
      · intro σ H Q Q' m h
        obtain ⟨w1, f1, w2, w3, f2, f3, i, j, f5, f6, b, eb, hQ⟩ := h
        exact ⟨w1, f1, w2, w3, f2, f3, i, j, f5, f6, b, eb, m _ _ hQ⟩
    rintro σ2 H2 ⟨z2, m, rfl, hz2, f2, m1, m12, L12, mp, s2⟩
    have lm : ((beh sl p g (m * p)).map V.int).length = m * p := by rw [List.length_map, beh_len]
    have QPL : MF.QP (MF.at_ sl p g) (m * p) (m * g) (sl.length - p) := fun j hj => QP0.mul hj m
    have mg : 0 < (m : Int) * g ∧ (m : Int) * g < 2 ^ 34 := by
      refine ⟨Int.mul_pos (by omega) gpos, ?_⟩
      have h1 : (m : Int) * g ≤ 12 * g := Int.mul_le_mul_of_nonneg_right (by omega) (by omega)
      omega
    generalize hL : m * p = L at *
    generalize hG : (m : Int) * g = G at *
    obtain ⟨R, eR, R1, R2⟩ : ∃ R : Nat, -(Int.fdiv (-(n : Int)) (L : Int)) = (R : Int) ∧ n ≤ R * L ∧ R * L < n + L := by
      rw [Int.fdiv_eq_ediv_of_nonneg _ (by omega)]
      have h1 := Int.mul_ediv_add_emod (-(n : Int)) (L : Int)
      have h2 := Int.emod_nonneg (-(n : Int)) (show (L : Int) ≠ 0 by omega)
      have h3 := Int.emod_lt_of_pos (-(n : Int)) (show (0 : Int) < L by omega)
      generalize hq : -(n : Int) / (L : Int) = q at *
      have hq0 : q ≤ 0 := by
        rcases Int.lt_or_le 0 q with h | h
        · have : (L : Int) * 1 ≤ (L : Int) * q := Int.mul_le_mul_of_nonneg_left h (by omega)
          omega
        · exact h
      obtain ⟨R, rfl⟩ : ∃ R : Nat, q = -(R : Int) := ⟨(-q).toNat, by omega⟩
      have e : (L : Int) * -(R : Int) = -((R * L : Nat) : Int) := by
        rw [Int.mul_neg, Int.mul_comm, Int.natCast_mul]
      exact ⟨R, by omega, by omega, by omega⟩
    refine ⟨fun σ' H' => σ' = [some (.ref x), some (.int n), some (.int G), some (.ref z2), some (.int R), none, none] ∧ H' = H2, ?_, ?_⟩
    · refine ⟨_, rfl, _, rfl, _, rfl, z2, _, rfl, .inl (SqL.of f2), _, _, rfl, rfl, ⟨by rw [lm]; omega, by rw [lm]; omega⟩, _, rfl, ?_, rfl⟩
      show [_, _, _, _, some (V.int (-(Int.fdiv (-(n : Int)) (((beh sl p g L).map V.int).length : Int)))), _, _] = _
      rw [lm, eR]
    rintro σ3 H3 ⟨rfl, rfl⟩
    have hR : R ≤ 200000 := by
      have : R * 12 ≤ R * L := Nat.mul_le_mul_left _ L12
      omega
    have GR : G * (R : Int) < 2 ^ 58 ∧ 0 ≤ G * (R : Int) := by
      refine ⟨?_, Int.mul_nonneg (by omega) (by omega)⟩
      have h1 : G * (R : Int) ≤ 2 ^ 34 * (R : Int) := Int.mul_le_mul_of_nonneg_right (by omega) (by omega)
      omega
    refine ⟨_, rfl, _, rfl, _, _, rfl, rfl, .inl ⟨by omega, by omega⟩, _, rfl, 0, _, G, R, rfl, RgW.up (by omega) (by omega) (by omega) (by omega) mg.1 (by omega) (by omega) (by rw [Int.mul_comm G]; omega) ?_, fun D hD => ?_⟩
    · intro i hi
      have h1 : (i : Int) * G < (R : Int) * G := Int.mul_lt_mul_of_pos_right (by omega) mg.1
      rw [Int.mul_comm G]
      omega
    refine LM.itB (walk_rangeC (lo := 0) (c := G) (n := R)) (fun i H' => H' D = some (.lst ((beh sl p g (i * L)).map V.int)) ∧ Same H3 H') ⟨by rw [Nat.zero_mul]; exact upd_same, LM.sNew hD⟩ (fun _ _ _ _ => trivial) ?_ ?_
    · rintro i v H4 H5 hi ⟨d4, s4⟩ ⟨rfl, rfl⟩
      have hiL : i * L + L ≤ R * L := by
        rw [← Nat.succ_mul]
        exact Nat.mul_le_mul_right _ hi
      refine ⟨rfl, _, rfl, z2, rfl, ⟨_, SqL.of (s4 _ _ f2)⟩, LM.itB (walk_list (K := K) (a := z2) (xs := (beh sl p g L).map V.int)) (fun j H' => H' D = some (.lst ((beh sl p g (i * L + j)).map V.int)) ∧ Same H3 H') ⟨d4, s4⟩ (fun _ _ _ h => SqL.of (h.2 _ _ f2)) ?_ ?_⟩
      · rintro j u H6 H7 hj ⟨d6, s6⟩ ⟨rfl, hu⟩
        rw [lm] at hj
        rw [beh_get hj] at hu
        cases hu
        have q := QPL.mul (j := sl.length + j) (by omega) i
        rw [show sl.length + j + i * L = sl.length + (i * L + j) by omega] at q
        refine ⟨rfl, _, rfl, _, rfl, _, _, rfl, rfl, _, d6, (by rw [List.length_map, beh_len]; exact line_lt (by omega)), ?_, LM.sPut hD s6⟩
        have e := beh_snoc (s := sl) (p := p) (g := g) (i * L + j)
        rw [q] at e
        rw [← Nat.add_assoc, ← e, Int.zero_add]
        exact upd_same
      · rintro H6 ⟨d6, s6⟩
        rw [lm, ← Nat.succ_mul] at d6
        exact ⟨d6, s6⟩
    · rintro H4 ⟨d4, s4⟩
      refine ⟨_, rfl, (n : Int), rfl, D, _, rfl, SqL.of d4, fun q hq => ?_⟩
      have e5 : cutV ((beh sl p g (R * L)).map V.int) none (some (n : Int)) = (beh sl p g n).map V.int := by
        rw [cutR', ← List.map_take]
        unfold beh
        rw [← List.map_take, List.take_range, Nat.min_eq_left R1]
      rw [e5]
      exact k q _ (s2.free (s4.free hq)) upd_same (Same.trans s2 (Same.trans s4 (same_new hq)))
/-- what is known of a curve's form beside its values: numbers of bounded size, growth 0 for a period of 1 alone -/
structure Calm (v : List V) (p : Nat) (g : Int) : Prop where
  g0 : 0 ≤ g
  g1 : g < 2 ^ 30
  bd : ∀ z : Int, V.int z ∈ v → -(2 ^ 50) ≤ z ∧ z < 2 ^ 50
  gp : g = 0 → p = 1
def spFirst (K : PySem.W.Frag) (C : Addr) : Sp := fun vs H Q _ => ∃ (x : Addr) (v : List V) (p n : Nat) (g : Int) (F : Nat → V), vs = [.ref x, .int n] ∧ CurveAt H C x v p g ∧ RowF v p g F ∧ Calm v p g ∧ 0 < v.length ∧ v.length ≤ 100000 ∧ n ≤ 50000 ∧
  ∀ (z : Addr) (H' : Hp), H z = none → H' z = some (.lst ((List.range n).map F)) → Same H H' → Q (.ref z) H'
abbrev nFirst : List Str := ["curve", "many", "row", "lack", "period"]
theorem scFirst : FnScope nFirst ["curve", "many"] (defScope sFirst) := ⟨rfl, rfl, rfl, by decide +kernel, rfl, by decide +kernel, by decide +kernel⟩
theorem ok_first {f fN fB fI fE C : Addr} {fd dN dB : FuncData} (F : Fun K "first_values" "first_values" sFirst f fd) (T : CurG mg) (few : ∃ t, mg "FEW" = some (.int 12 t)) (U : CurT K mg C fI fE)
    (GN : FnOk P w K mg base CX0 1 fN dN ["curve"] (spHas K C)) (kN : PySem.W.keepIn K (.ref fN) = true) (bN : Binds K dN ["curve"] []) (mN : mg "has_none" = some (.ref fN))
    (GB : FnOk P w K mg base CX0 2 fB dB ["curve", "many"] (spBehind K C)) (kB : PySem.W.keepIn K (.ref fB) = true) (bB : Binds K dB ["curve", "many"] []) (mB : mg "values_behind" = some (.ref fB)) :
    FnOk P w K mg base CX0 3 f fd ["curve", "many"] (spFirst K C) := by
  refine F.ok scFirst (fun vs H Q E h => ?_) (fun cdv A outer s H vs Q E hr h => ?_)
  · obtain ⟨x, v, p, n, g, F, rfl, _⟩ := h
    rfl
  · obtain ⟨x, v, p, n, g, F, rfl, cu, R, CM, v0, v4, hn, k⟩ := h
    obtain ⟨dx, t, h1, h2⟩ := id cu
    obtain ⟨tf, mF⟩ := few
    have hr1 := hr.mono (show 1 ≤ 2 by decide)
    refine ⟨_, C8.pss_cut (ps_set (i := 2) scFirst.nd rfl (Or.inl rfl) (pe_callTy call_list_of (by rfl) T.list (by decide +kernel) (pa_cons (pe_slice sl_tupA (pe_fld (pv 0) rfl) po_none (po_some (pv 1))) pa_nil)))
      (C8.pss_cut (ps_set (i := 3) scFirst.nd rfl (Or.inl rfl) (pe_op op_sub (pv 1) (pe_callB call_len_seq (by rfl) T.len PySem.boot_len (pa_cons (pv 2) pa_nil))))
      (pss_cons (ps_if (pt_cmpR op_le (pv 3) pe_int (nomark _)) (pss_one (ps_ret (pv 2))) pss_nil)
      (pss_cons (ps_if (pt_val (pe_call GN hr1 rfl mN kN bN .nil pass0 (pa_cons (pv 0) pa_nil))) (pss_one (ps_ret (pe_op op_cat (pv 2) (pe_op op_rep (pe_lst (pa_cons pe_non pa_nil)) (pv 3))))) pss_nil)
      (pss_cons (ps_if (pt_cmpR op_gt (pv 3) (pe_glob (v := .int 12) rfl mF ⟨_, rfl⟩) (nomark _)) (pss_one (ps_ret (pe_op op_cat (pv 2) (pe_call GB hr rfl mB kB bB .nil pass0 (pa_cons (pv 0) (pa_cons (pv 3) pa_nil)))))) pss_nil)
      (pss_cons (ps_set (i := 4) scFirst.nd rfl (Or.inl rfl) (pe_fld (pv 0) rfl))
      (C8.pss_cut (ps_while PassesOwn.never (pt_cmpR op_lt (pe_callB call_len_seq (by rfl) T.len PySem.boot_len (pa_cons (pv 2) pa_nil)) (pv 1) (nomark _))
          (pss_one (ps_expr (pe_bm PySem.F.plainAttrs_list PySem.F.slot_list_append PySem.F.type_list_append mt_append (pv 2) (pa_cons (pe_op op_add (pe_ix ix_list (pv 2) (pe_op op_sub (pe_callB call_len_seq (by rfl) T.len PySem.boot_len (pa_cons (pv 2) pa_nil)) (pv 4)) (fun _ _ => rfl)) (pe_fld (pv 0) rfl)) pa_nil)))))
      (pss_one (ps_ret (pv 2))))))))), ?_⟩
    refine ⟨fun σ H' => ∃ z, σ = [some (.ref x), some (.int n), some (.ref z), none, none] ∧ H z = none ∧ H' z = some (.lst ((List.range (min n v.length)).map F)) ∧ Same H H', ?_, ?_⟩
    · refine ⟨_, rfl, x, C, dx, _, .ref t, rfl, h1, U.cl, U.nS, rfl, _, rfl, _, rfl, t, v, rfl, SqT.of h2, ?_, ?_⟩
      · rintro ⟨_, e⟩
        have e' : min n v.length = v.length := by
          unfold HT.sIx at e
          dsimp only at e
          rw [if_neg (by omega), Int.toNat_natCast] at e
          exact e
        refine ⟨t, v, rfl, .inr (SqT.of h2), fun z hz => ⟨z, rfl, hz, ?_, same_new hz⟩⟩
        have tk := R.take (n := n)
        rw [List.take_of_length_le (by omega)] at tk
        rw [← tk]
        exact upd_same
      · intro _ q hq
        rw [cutR', R.take]
        generalize g3 : upd H q _ = H1
        obtain ⟨s1, f1⟩ := alloc g3 hq
        exact ⟨q, _, rfl, .inr (SqT.of f1), fun z hz => ⟨z, rfl, s1.free hz, upd_same, Same.trans s1 (same_new hz)⟩⟩
    rintro σ H1 ⟨z, rfl, hz, h3, s1⟩
    have lr : ((List.range (min n v.length)).map F).length = min n v.length := by rw [List.length_map, List.length_range]
    refine ⟨fun σ H' => σ = [some (.ref x), some (.int n), some (.ref z), some (.int ((n - min n v.length : Nat) : Int)), none] ∧ H' = H1, ?_, ?_⟩
    · refine ⟨_, rfl, _, rfl, z, _, rfl, .inl (SqL.of h3), _, _, rfl, rfl, ?_, rfl⟩
      show [_, _, _, some (V.int ((n : Int) - (((List.range (min n v.length)).map F).length : Int))), _] = _
      rw [lr, show (n : Int) - ((min n v.length : Nat) : Int) = ((n - min n v.length : Nat) : Int) by omega]
    rintro σ H0 ⟨rfl, rfl⟩
    have cu1 := cu.same s1
    have gl : v[v.length - 1]? = some (F (v.length - 1)) := R.get (by omega)
    by_cases c0 : n ≤ v.length
    · refine ⟨_, rfl, _, _, rfl, rfl, true, bT (by omega), iteT ⟨_, rfl, ?_⟩⟩
      rw [Nat.min_eq_left c0] at h3
      exact k z _ hz h3 s1
    have mn : min n v.length = v.length := by omega
    rw [mn] at h3 lr ⊢
    refine ⟨_, rfl, _, _, rfl, rfl, false, bF (by omega), iteF ?_⟩
    refine ⟨_, rfl, x, v, _, _, _, rfl, cu1, gl, ?_⟩
    cases R with
    | mkN s k' p g =>
      have lx : (s.map V.int ++ List.replicate (k' + 1) V.non).length = s.length + (k' + 1) := by rw [List.length_append, List.length_map, List.length_replicate]
      refine ⟨true, ?_, iteT ?_⟩
      · have : FN s ((s.map V.int ++ List.replicate (k' + 1) V.non).length - 1) = .non := by
          unfold FN
          rw [if_neg (by rw [lx]; omega)]
        exact bT this
      refine ⟨_, rfl, (by show 1 ≤ sizeLine; decide), fun u hu => ?_⟩
      generalize g4 : upd H0 u _ = H2
      obtain ⟨s2, f2⟩ := alloc g4 hu
      have h3' := s2 _ _ h3
      refine ⟨_, rfl, u, _, [.non], rfl, rfl, f2, by omega, by omega, ?_, fun y hy => ?_⟩
      · show 1 * _ ≤ sizeLine
        exact line_of (by omega)
      rw [rep_flat, Int.toNat_natCast]
      generalize g5 : upd H2 y _ = H3
      obtain ⟨s3, f3⟩ := alloc g5 hy
      refine ⟨z, y, _, _, rfl, rfl, s3 _ _ h3', f3, ?_, fun o ho => ?_⟩
      · rw [lr, List.length_replicate]
        exact line_of (by omega)
      have e : (List.range (s.map V.int ++ List.replicate (k' + 1) V.non).length).map (FN s) ++ List.replicate (n - (s.map V.int ++ List.replicate (k' + 1) V.non).length) V.non = (List.range n).map (FN s) := by
        refine List.ext_getElem? fun i => ?_
        by_cases c : i < (s.map V.int ++ List.replicate (k' + 1) V.non).length
        · rw [List.getElem?_append_left (by rw [lr]; exact c), List.getElem?_map, List.getElem?_map, List.getElem?_range c, List.getElem?_range (by omega)]
        · rw [List.getElem?_append_right (by rw [lr]; omega), lr, List.getElem?_replicate, List.getElem?_map]
          by_cases c2 : i < n
          · rw [if_pos (by omega), List.getElem?_range c2]
            have : FN s i = .non := by
              unfold FN
              rw [if_neg (by rw [lx] at c; omega)]
            rw [Option.map_some, this]
          · rw [if_neg (by omega), List.getElem?_eq_none (by rw [List.length_range]; omega)]
            rfl
      rw [e]
      have ss := Same.trans s1 (Same.trans s2 s3)
      exact k o _ (ss.free ho) upd_same (Same.trans ss (same_new ho))
    | mkI s p g p0 pn pb =>
      have QP := MF.at_qp (s := s) (g := g) p0 pn
      rw [List.length_map] at v0 v4 lr c0 mn
      rw [List.length_map] at h3 ⊢
      refine ⟨false, bF (by intro z; cases z), iteF ?_⟩
      have sp : (List.range n).map (fun j => V.int (MF.at_ s p g j)) = (List.range s.length).map (fun j => V.int (MF.at_ s p g j)) ++ (beh s p g (n - s.length)).map V.int := by
        unfold beh
        rw [show n = s.length + (n - s.length) by omega, List.range_add, List.map_append, List.map_map, List.map_map]
        rw [show s.length + (n - s.length) - s.length = n - s.length by omega]
        rfl
      by_cases c3 : 12 < n - s.length
      · refine ⟨_, rfl, _, _, rfl, rfl, true, bT (by omega), iteT ?_⟩
        refine ⟨_, rfl, _, rfl, _, rfl, x, s, p, n - s.length, g, rfl, cu1, p0, pn, v4, by omega, by omega, CM.g0, CM.g1, fun z hz => CM.bd z (List.mem_map.mpr ⟨z, hz, rfl⟩), CM.gp, fun y H2 hy f2 s2 => ?_⟩
        refine ⟨z, y, _, _, rfl, rfl, s2 _ _ h3, f2, (by rw [List.length_map, List.length_range, List.length_map, beh_len]; exact line_of (by omega)), fun o ho => ?_⟩
        rw [← sp]
        exact k o _ (s1.free (s2.free ho)) upd_same (Same.trans s1 (Same.trans s2 (same_new ho)))
      refine ⟨_, rfl, _, _, rfl, rfl, false, bF (by omega), iteF ?_⟩
      refine ⟨_, rfl, x, C, dx, _, .int p, rfl, s1 _ _ h1, U.cl, U.nP, rfl, ?_⟩
      refine ⟨fun σ H' => σ = [some (.ref x), some (.int n), some (.ref z), some (.int ((n - s.length : Nat) : Int)), some (.int p)] ∧ H' z = some (.lst ((List.range n).map fun j => V.int (MF.at_ s p g j))) ∧ Same H H', ?_, ?_⟩
      · refine while_by (fun σ H' => ∃ c : Nat, σ = [some (.ref x), some (.int n), some (.ref z), some (.int ((n - s.length : Nat) : Int)), some (.int p)] ∧ H' z = some (.lst ((List.range c).map fun j => V.int (MF.at_ s p g j))) ∧ c ≤ n ∧ (c < n → s.length ≤ c) ∧ Same H H')
          (fun _ H' => match H' z with
            | some (.lst l) => n - l.length
            | _ => 0) ⟨s.length, rfl, h3, by omega, fun c => by omega, s1⟩ ?_ ?_
        · rintro σ H2 ⟨c, rfl, hz2, cn, cs, s2⟩
          have lc : ((List.range c).map fun j => V.int (MF.at_ s p g j)).length = c := by rw [List.length_map, List.length_range]
          by_cases c1 : c < n
          · have cs' := cs c1
            have q := QP (c - p) (by omega)
            rw [show c - p + p = c by omega] at q
            refine ⟨_, rfl, z, _, rfl, .inl (SqL.of hz2), _, rfl, _, _, rfl, rfl, true, bT (by rw [lc]; omega), iteT ?_⟩
            refine ⟨_, rfl, .inl ⟨rfl, _, SqL.of hz2⟩, _, rfl, _, rfl, z, _, rfl, .inl (SqL.of hz2), _, rfl, _, _, rfl, rfl, z, _, _, .int (MF.at_ s p g (c - p)), rfl, rfl, SqL.of hz2, ?_, _, rfl, x, C, dx, _, .int g, rfl, s2 _ _ h1, U.cl, U.nG, rfl, _, _, rfl, rfl, z, _, _, rfl, rfl, hz2, by rw [lc]; exact line_of' (by omega), ?_⟩
            · rw [lc, show (c : Int) - (p : Int) = ((c - p : Nat) : Int) by omega]
              refine atI_nat ?_
              rw [List.getElem?_map, List.getElem?_range (by omega)]
              rfl
            · have e : (List.range c).map (fun j => V.int (MF.at_ s p g j)) ++ [V.int (MF.at_ s p g (c - p) + g)] = (List.range (c + 1)).map fun j => V.int (MF.at_ s p g j) := by
                rw [List.range_succ, List.map_append, ← q]
                rfl
              refine ⟨⟨c + 1, rfl, by rw [← e]; exact upd_same, by omega, fun _ => by omega, fun b o h => by rw [upd_ne (ne_of_none h hz)]; exact s2 _ _ h⟩, ?_⟩
              rw [hz2, upd_same]
              show n - ((List.range c).map (fun j => V.int (MF.at_ s p g j)) ++ [V.int (MF.at_ s p g (c - p) + g)]).length < n - ((List.range c).map fun j => V.int (MF.at_ s p g j)).length
              rw [e, lc, List.length_map, List.length_range]
              omega
          · refine ⟨_, rfl, z, _, rfl, .inl (SqL.of hz2), _, rfl, _, _, rfl, rfl, false, bF (by rw [lc]; omega), iteF ⟨rfl, ?_, s2⟩⟩
            rw [show n = c by omega]
            exact hz2
        · intro σ H Q Q' m h
          obtain ⟨w1, f1, w2, w3, f2, f3, w4, f4, i, j, f5, f6, b, eb, hQ⟩ := h
          exact ⟨w1, f1, w2, w3, f2, f3, w4, f4, i, j, f5, f6, b, eb, m _ _ hQ⟩
      · rintro σ H2 ⟨rfl, hz2, s2⟩
        exact ⟨_, rfl, k z H2 hz hz2 s2⟩
/-- what Curve(..) makes -/
theorem calm_of {xs vals : List V} {p : Nat} {g q r : Int} (M : MakeOk xs p g) (fv : FormV xs p g vals q r) : ∃ q' : Nat, q = q' ∧ Calm vals q' r := by
  have ok : ∀ (z : Int), V.int z ∈ xs → 0 ≤ z ∧ z ≤ 1000000000 := fun z hz => by
    obtain ⟨n, hn⟩ := List.getElem?_of_mem hz
    rcases M.st.el n _ hn with e | ⟨i, e, q1, q2⟩
    · cases e
    · cases e; exact ⟨q1, q2⟩
  cases fv with
  | mkI s p g q r b p0 pn h l =>
    obtain ⟨ex, ey, hx, hy, fa⟩ := M.fa
    have S := M.st
    have asc : s.Pairwise (· ≤ ·) := by
      obtain ⟨ns, j, e, pw, _⟩ := startOk_row S.el S.asc
      have e' : s = ns := by
        have := row_inj (ns := s) (ms := ns) (j := 0) (k := j) (by rw [List.replicate_zero, List.append_nil]; exact e)
        exact this
      rw [e']
      exact pw
    have fall : MF.at_ s p g (s.length - 1) ≤ MF.at_ s p g (s.length - p) + g := by
      have gx : atI (s.map V.int) (((s.map V.int).length : Int) - (p : Int)) = some (.int (MF.at_ s p g (s.length - p))) := by
        rw [List.length_map, show (s.length : Int) - (p : Int) = ((s.length - p : Nat) : Int) by omega]
        exact atI_nat (get_map (by omega))
      have gy : atI (s.map V.int) (-1) = some (.int (MF.at_ s p g (s.length - 1))) := last_get (by rw [List.length_map]; exact get_map (by omega))
      rw [gx] at hx
      rw [gy] at hy
      cases hx
      cases hy
      rcases fa with ⟨i, j, e1, e2, l⟩ | ⟨e1, _⟩
      · cases e1
        cases e2
        exact l
      · cases e1
    have mono := MF.mono_at p0 pn asc fall
    have QPf := MF.at_qp (s := s) (g := g) p0 pn
    have le := MF.form_le p0 M.g0 QPf h
    refine ⟨q, rfl, mono.rise h.qp, by have := M.g1; omega, fun z hz => ?_, fun e => ?_⟩
    · obtain ⟨j, hj, e⟩ := List.mem_map.mp hz
      have hj' := List.mem_range.mp hj
      have := ok z (by rw [← e]; exact List.mem_of_getElem? (get_map (s := s) (p := p) (g := g) (j := j) (by omega)))
      omega
    · subst e
      exact mono.flat h
  | mkN s k p g =>
    refine ⟨1, rfl, by omega, by omega, fun z hz => ?_, fun _ => rfl⟩
    rcases List.mem_append.mp hz with h | h
    · have := ok z (List.mem_append.mpr (.inl h))
      omega
    · cases List.mem_singleton.mp h
end
end WW
end

section
set_option Elab.async false
set_option linter.all false
set_option maxRecDepth 100000
set_option maxHeartbeats 4000000
namespace WW
open PySem L2 WO WG RZ WQ WT
abbrev sNeedNum : Stmt := top 13
abbrev sNeedCur : Stmt := top 26
abbrev sValues : Stmt := top 32
section
variable {P : Program} {w : World} {K : PySem.W.Frag} {mg : Str → Option Value} {base : Heap}
def spNeedNum (K : PySem.W.Frag) (CN : Addr) : Sp := fun vs H Q E => ∃ (x : V) (lo hi : Int) (part : Str), vs = [x, .int lo, .int hi, .str part] ∧
  ((∃ i : Int, x = .int i ∧ lo ≤ i ∧ i ≤ hi ∧ Q .non H) ∨ (badFrom K H x lo hi ∧ ∀ d H', Raised H "part" (.str part) d H' → E (.ref CN) (some d) H'))
theorem scNeedNum : FnScope ["thing", "low", "high", "part"] ["thing", "low", "high", "part"] (defScope sNeedNum) := ⟨rfl, rfl, rfl, by decide +kernel, rfl, by decide +kernel, by decide +kernel⟩
theorem ok_needNum {f fF fI CN : Addr} {fd dF dI : FuncData} (F : Fun K "need_number" "need_number" sNeedNum f fd) (B : ErrT P w K mg base "BadNumber" "part" CN fI dI)
    (GF : FnOk P w K mg base CX0 2 fF dF ["thing", "low", "high"] (spFrom K)) (kF : PySem.W.keepIn K (.ref fF) = true) (bF : Binds K dF ["thing", "low", "high"] []) (mF : mg "is_from" = some (.ref fF)) :
    FnOk P w K mg base (L2.CX P w) 4 f fd ["thing", "low", "high", "part"] (spNeedNum K CN) := by
  refine F.okX scNeedNum (fun vs H Q E h => ?_) (fun cdv A outer s H vs Q E hr h => ?_)
  · obtain ⟨x, lo, hi, part, rfl, _⟩ := h
    rfl
  · obtain ⟨x, lo, hi, part, rfl, h⟩ := h
    have hr2 := hr.mono (show 2 ≤ 3 by decide)
    refine ⟨_, pss_one (ps_if (pt_not (pt_val (pe_call GF hr2 rfl mF kF bF .nil pass0 (pa_cons (pv 0) (pa_cons (pv 1) (pa_cons (pv 2) pa_nil))))))
        (pss_one (ps_raise rfl (takes_of rfl rfl rfl rfl) (pmk_oex B.ox B.iC B.tI B.fn hr2 B.bd .nil pass0 rfl B.gC (pa_cons (pv 3) pa_nil)))) pss_nil), ?_⟩
    rcases h with ⟨i, rfl, h1, h2, k⟩ | ⟨bad, k⟩
    · refine ⟨_, rfl, _, rfl, _, rfl, _, _, _, rfl, .inl ⟨i, lo, hi, rfl, rfl, rfl, _, rfl, ?_⟩⟩
      rw [decide_eq_true ⟨h1, h2⟩]
      exact iteF k
    · rcases bad with n | ⟨i, rfl, no⟩
      · exact ⟨_, rfl, _, rfl, _, rfl, _, _, _, rfl, .inr ⟨n, false, rfl, iteT ⟨_, rfl, mkO_post B k⟩⟩⟩
      · refine ⟨_, rfl, _, rfl, _, rfl, _, _, _, rfl, .inl ⟨i, lo, hi, rfl, rfl, rfl, _, rfl, ?_⟩⟩
        rw [decide_eq_false no]
        exact iteT ⟨_, rfl, mkO_post B k⟩
/-- no curve -/
def NoCur (K : PySem.W.Frag) (H : Hp) (C : Addr) (x : V) : Prop := ∃ t : Value, TyX K H x t ∧ PySem.W.kitOne K t (.ref C) = some false
def spNeedCur (K : PySem.W.Frag) (C CB : Addr) : Sp := fun vs H Q E => ∃ x : V, vs = [x] ∧
  ((∃ (a : Addr) (vals : List V) (q r : Int), x = .ref a ∧ CurveAt H C a vals q r ∧ Q .non H) ∨ (NoCur K H C x ∧ ∀ d H', Raised H "part" .non d H' → E (.ref CB) (some d) H'))
theorem scNeedCur : FnScope ["thing"] ["thing"] (defScope sNeedCur) := ⟨rfl, rfl, rfl, by decide +kernel, rfl, by decide +kernel, by decide +kernel⟩
theorem ok_needCur {f fI fE fX C CB : Addr} {fd dI : FuncData} (F : Fun K "need_curve" "need_curve" sNeedCur f fd) (T : CurG mg) (U : CurT K mg C fX fE) (B : ErrT P w K mg base "BadCurve" "part" CB fI dI) :
    FnOk P w K mg base (L2.CX P w) 3 f fd ["thing"] (spNeedCur K C CB) := by
  refine F.okX scNeedCur (fun vs H Q E h => ?_) (fun cdv A outer s H vs Q E hr h => ?_)
  · obtain ⟨x, rfl, _⟩ := h
    rfl
  · obtain ⟨x, rfl, h⟩ := h
    refine ⟨_, pss_one (ps_if (pt_not (pt_val (pe_callB call_isi (by rfl) T.isi (by decide +kernel) (pa_cons (pv 0) (pa_cons (pe_glob (v := .ref C) rfl U.mC rfl) pa_nil)))))
        (pss_one (ps_raise rfl (takes_of rfl rfl rfl rfl) (pmk_oex B.ox B.iC B.tI B.fn hr B.bd .nil pass0 rfl B.gC (pa_cons pe_non pa_nil)))) pss_nil), ?_⟩
    rcases h with ⟨a, vals, q, r, rfl, ⟨dx, t, h1, h2⟩, k⟩ | ⟨⟨t, ty, kt⟩, k⟩
    · exact ⟨_, rfl, .ref a, .ref C, .ref C, .ref C, true, rfl, .own C, .base (.ins h1 U.cl U.cc U.cg U.ct U.co), U.kC, true, rfl, iteF k⟩
    · exact ⟨_, rfl, x, .ref C, t, .ref C, false, rfl, .own C, ty, kt, false, rfl, iteT (mkO_post B k)⟩
/-! ### value, values, rate -/
end
end WW
end

section
set_option Elab.async false
set_option linter.all false
set_option maxRecDepth 100000
set_option maxHeartbeats 4000000
namespace WW
open PySem L2 WO WG RZ WQ WT
section
variable {P : Program} {w : World} {K : PySem.W.Frag} {mg : Str → Option Value} {base : Heap}
theorem pss_never {X : Cx} {st : List Stmt} : PSs X st (fun _ _ _ => False) := ⟨fun _ _ _ _ _ _ h => h.elim⟩
def spValues (K : PySem.W.Frag) (C CB CN : Addr) : Sp := fun vs H Q E => ∃ x y : V, vs = [x, y] ∧
  ((∃ (a : Addr) (v : List V) (p n : Nat) (g : Int) (F : Nat → V), x = .ref a ∧ y = .int n ∧ CurveAt H C a v p g ∧ RowF v p g F ∧ Calm v p g ∧ 0 < v.length ∧ v.length ≤ 100000 ∧ n ≤ 4000 ∧ ∀ z H', H z = none → H' z = some (.lst ((List.range n).map F)) → Same H H' → Q (.ref z) H') ∨
   (NoCur K H C x ∧ ∀ d H', Raised H "part" .non d H' → E (.ref CB) (some d) H') ∨
   (∃ (a : Addr) (v : List V) (q r : Int), x = .ref a ∧ CurveAt H C a v q r ∧ badFrom K H y 0 4000 ∧ ∀ d H', Raised H "part" (.str "beats") d H' → E (.ref CN) (some d) H'))
theorem scValues : FnScope ["curve", "beats"] ["curve", "beats"] (defScope sValues) := ⟨rfl, rfl, rfl, by decide +kernel, rfl, by decide +kernel, by decide +kernel⟩
theorem ok_values {f fC fN fA C CB CN : Addr} {fd dC dN dA : FuncData} (F : Fun K "values" "values" sValues f fd) (MM : ∃ t, mg "MOST_MADE" = some (.int 4000 t))
    (GC : FnOk P w K mg base (L2.CX P w) 3 fC dC ["thing"] (spNeedCur K C CB)) (kC : PySem.W.keepIn K (.ref fC) = true) (bC : Binds K dC ["thing"] []) (mC : mg "need_curve" = some (.ref fC))
    (GN : FnOk P w K mg base (L2.CX P w) 4 fN dN ["thing", "low", "high", "part"] (spNeedNum K CN)) (kN : PySem.W.keepIn K (.ref fN) = true) (bN : Binds K dN ["thing", "low", "high", "part"] []) (mN : mg "need_number" = some (.ref fN))
    (GA : FnOk P w K mg base CX0 3 fA dA ["curve", "many"] (spFirst K C)) (kA : PySem.W.keepIn K (.ref fA) = true) (bA : Binds K dA ["curve", "many"] []) (mA : mg "first_values" = some (.ref fA)) :
    FnOk P w K mg base (L2.CX P w) 5 f fd ["curve", "beats"] (spValues K C CB CN) := by
  refine F.okX scValues (fun vs H Q E h => ?_) (fun cdv A outer s H vs Q E hr h => ?_)
  · obtain ⟨x, y, rfl, _⟩ := h
    rfl
  · obtain ⟨x, y, rfl, h⟩ := h
    have hr3 := hr.mono (show 3 ≤ 4 by decide)
    obtain ⟨tm, mM⟩ := MM
    refine ⟨_, pss_cons (ps_expr (pe_call GC hr3 rfl mC kC bC .nil (passX (E := E) (takes_of rfl rfl rfl rfl) (fun _ _ _ _ h => h)) (pa_cons (pv 0) pa_nil)))
      (pss_cons (ps_expr (pe_call GN hr rfl mN kN bN .nil (passX (E := E) (takes_of rfl rfl rfl rfl) (fun _ _ _ _ h => h)) (pa_cons (pv 1) (pa_cons pe_int (pa_cons (pe_glob (v := .int 4000) rfl mM ⟨_, rfl⟩) (pa_cons pe_str pa_nil))))))
      (pss_one (ps_ret (pe_call GA hr3 rfl mA kA bA .nil pass0 (pa_cons (pv 0) (pa_cons (pv 1) pa_nil)))))), ?_⟩
    rcases h with ⟨a, v, p, n, g, F, rfl, rfl, cu, R, CM, l0, l1, hb, k⟩ | ⟨no, k⟩ | ⟨a, v, q, r, rfl, cu, bad, k⟩
    · refine ⟨_, rfl, _, rfl, .inl ⟨a, v, _, _, rfl, cu, ?_⟩⟩
      refine ⟨_, rfl, .int n, 0, 4000, "beats", rfl, .inl ⟨_, rfl, by omega, by omega, ?_⟩⟩
      exact ⟨_, rfl, _, rfl, a, v, p, n, g, F, rfl, cu, R, CM, l0, l1, by omega, k⟩
    · exact ⟨_, rfl, _, rfl, .inr ⟨no, k⟩⟩
    · refine ⟨_, rfl, _, rfl, .inl ⟨a, v, _, _, rfl, cu, ?_⟩⟩
      exact ⟨_, rfl, y, 0, 4000, "beats", rfl, .inr ⟨bad, k⟩⟩
/-- a promise that asks more -/
theorem FnOk.weaken {CX : CXT} {n : Nat} {f : Addr} {fd : FuncData} {ps : List Str} {sp sp' : Sp} (F : FnOk P w K mg base CX n f fd ps sp) (h : ∀ vs H Q E, sp' vs H Q E → sp vs H Q E) : FnOk P w K mg base CX n f fd ps sp' :=
  ⟨fun vs H Q E q => F.len vs H Q E (h _ _ _ _ q), fun A outer s H args us vs Q E hr e0 hb hv hs => F.run A outer s H args us vs Q E hr e0 hb hv (h _ _ _ _ hs)⟩
end
end WW
end

section
set_option Elab.async false
set_option linter.all false
set_option maxRecDepth 100000
set_option maxHeartbeats 4000000
namespace WW
open PySem L2 WO WG RZ WQ WT
/-! ### curves as functions of their beats -/
/-- the least form of L -/
inductive FormG : (Nat → V) → List V → Nat → Int → Prop
  | mkI (f : Nat → Int) (q : Nat) (r : Int) (b : Nat) (h : MF.IsForm f q r b) : FormG (fun j => .int (f j)) ((List.range (b + q)).map fun j => V.int (f j)) q r
  | mkN (s : List Int) : FormG (FN s) (s.map V.int ++ [.non]) 1 0
theorem fn_low {s : List Int} {j : Nat} (h : j < s.length) : FN s j = .int (s.getD j 0) := by unfold FN; rw [if_pos h]
theorem fn_high {s : List Int} {j : Nat} (h : s.length ≤ j) : FN s j = .non := by unfold FN; rw [if_neg (by omega)]
theorem fn_inj {s t : List Int} (h : ∀ j, FN s j = FN t j) : s = t := by
  have key : ∀ {s t : List Int}, (∀ j, FN s j = FN t j) → s.length ≤ t.length := fun {s t} h => by
    rcases Nat.lt_or_ge t.length s.length with q | q
    · have e := h t.length
      rw [fn_low q, fn_high (Nat.le_refl _)] at e
      cases e
    · exact q
  have l := Nat.le_antisymm (key h) (key fun j => (h j).symm)
  refine List.ext_getElem l fun i h1 h2 => ?_
  have e := h i
  rw [fn_low h1, fn_low h2] at e
  have e2 := V.int.inj e
  rw [List.getD_eq_getElem?_getD, List.getD_eq_getElem?_getD, List.getElem?_eq_getElem h1, List.getElem?_eq_getElem h2] at e2
  exact e2
theorem FormG.cases' {L : Nat → V} {v : List V} {q : Nat} {r : Int} (h : FormG L v q r) :
    (∃ (f : Nat → Int) (b : Nat), (∀ j, L j = .int (f j)) ∧ MF.IsForm f q r b ∧ v = (List.range (b + q)).map fun j => V.int (f j)) ∨ (∃ s : List Int, (∀ j, L j = FN s j) ∧ v = s.map V.int ++ [.non] ∧ q = 1 ∧ r = 0) := by
  cases h with
  | mkI f q r b h => exact .inl ⟨f, b, fun _ => rfl, h, rfl⟩
  | mkN s => exact .inr ⟨s, fun _ => rfl, rfl, rfl, rfl⟩
theorem FormG.uniq {L : Nat → V} {v v' : List V} {q q' : Nat} {r r' : Int} (h : FormG L v q r) (h' : FormG L v' q' r') : v = v' ∧ q = q' ∧ r = r' := by
  rcases h.cases' with ⟨f, b, e, hf, rfl⟩ | ⟨s, e, rfl, rfl, rfl⟩ <;> rcases h'.cases' with ⟨f', b', e', hf', rfl⟩ | ⟨s', e', rfl, rfl, rfl⟩
  · have ff : ∀ j, f j = f' j := fun j => V.int.inj ((e j).symm.trans (e' j))
    obtain ⟨rfl, rfl, rfl⟩ := (hf.same ff).uniq hf'
    have : f = f' := funext ff
    rw [this]
    exact ⟨rfl, rfl, rfl⟩
  · have z := (e s'.length).symm.trans (e' s'.length)
    rw [fn_high (Nat.le_refl _)] at z
    cases z
  · have z := (e' s.length).symm.trans (e s.length)
    rw [fn_high (Nat.le_refl _)] at z
    cases z
  · have := fn_inj fun j => (e j).symm.trans (e' j)
    rw [this]
    exact ⟨rfl, rfl, rfl⟩
theorem FormG.flat {L : Nat → V} {v : List V} {q : Nat} {r : Int} (h : FormG L v q r) : FlatR v := by
  rcases h.cases' with ⟨f, b, e, hf, rfl⟩ | ⟨s, e, rfl, rfl, rfl⟩
  · intro x hx
    obtain ⟨j, _, rfl⟩ := List.mem_map.mp hx
    exact .inr ⟨_, rfl⟩
  · intro x hx
    rcases List.mem_append.mp hx with hx | hx
    · obtain ⟨z, _, rfl⟩ := List.mem_map.mp hx
      exact .inr ⟨_, rfl⟩
    · exact .inl (List.mem_singleton.mp hx)
theorem FormG.len {L : Nat → V} {v : List V} {q : Nat} {r : Int} (h : FormG L v q r) : 0 < q ∧ q ≤ v.length := by
  rcases h.cases' with ⟨f, b, e, hf, rfl⟩ | ⟨s, e, rfl, rfl, rfl⟩
  · rw [List.length_map, List.length_range]
    have := hf.pos
    omega
  · rw [List.length_append]
    show 0 < 1 ∧ 1 ≤ _ + 1
    omega
theorem row_int {f : Nat → Int} {n p : Nat} {g : Int} (p0 : 0 < p) (pn : p ≤ n) (pb : p ≤ 1000000) (h : MF.QP f p g (n - p)) : RowF ((List.range n).map fun j => V.int (f j)) p g (fun j => .int (f j)) := by
  have e1 : ((List.range n).map fun j => V.int (f j)) = ((List.range n).map f).map V.int := by rw [List.map_map]; rfl
  have ls : ((List.range n).map f).length = n := by simp
  have e2 : (fun j => V.int (f j)) = fun j => V.int (MF.at_ ((List.range n).map f) p g j) := by
    funext j
    congr 1
    have Q2 := MF.at_qp (s := (List.range n).map f) (g := g) p0 (by rw [ls]; omega)
    rw [ls] at Q2
    refine MF.QP.ext p0 h Q2 (fun j hj => ?_) j
    rw [MF.at_low (s := (List.range n).map f) (by rw [ls]; omega), List.getD_eq_getElem?_getD, List.getElem?_map, List.getElem?_range (by omega)]
    rfl
  rw [e1, e2]
  exact .mkI _ p g p0 (by rw [ls]; omega) pb
theorem range_fn {s : List Int} {n : Nat} (h : s.length ≤ n) : (List.range n).map (FN s) = s.map V.int ++ List.replicate (n - s.length) V.non := by
  refine List.ext_getElem? fun i => ?_
  rw [List.getElem?_map]
  by_cases c : i < s.length
  · rw [List.getElem?_range (by omega), List.getElem?_append_left (by rw [List.length_map]; exact c), List.getElem?_map, List.getElem?_eq_getElem c, Option.map_some, Option.map_some, fn_low c, List.getD_eq_getElem?_getD, List.getElem?_eq_getElem c]
    rfl
  · rw [List.getElem?_append_right (by rw [List.length_map]; omega), List.length_map, List.getElem?_replicate]
    by_cases c2 : i < n
    · rw [List.getElem?_range c2, Option.map_some, fn_high (by omega), if_pos (by omega)]
    · rw [List.getElem?_eq_none (by rw [List.length_range]; omega), if_neg (by omega)]
      rfl
theorem row_non {s : List Int} {n p : Nat} {g : Int} (h : s.length < n) : RowF ((List.range n).map (FN s)) p g (FN s) := by
  rw [range_fn (Nat.le_of_lt h), show n - s.length = n - s.length - 1 + 1 by omega]
  exact .mkN s _ p g
theorem in_int {f : Nat → Int} {n p : Nat} {g : Int} (p0 : 0 < p) (pn : p ≤ n) (n4 : n ≤ 100000) (g0 : 0 ≤ g) (g1 : g ≤ 1000000000000000000) : FormIn ((List.range n).map fun j => V.int (f j)) p g := by
  have e1 : ((List.range n).map fun j => V.int (f j)) = ((List.range n).map f).map V.int := by rw [List.map_map]; rfl
  rw [e1]
  exact .mkI _ p g p0 (by simpa using pn) (by simpa using n4) g0 g1
theorem in_non {s : List Int} {n p : Nat} {g : Int} (h : s.length < n) (n4 : n ≤ 100000) : FormIn ((List.range n).map (FN s)) p g := by
  rw [range_fn (Nat.le_of_lt h), show n - s.length = n - s.length - 1 + 1 by omega]
  exact .mkN s _ p g (by omega)
/-- the least form of a row's function -/
theorem form_g {xs v : List V} {p : Nat} {g q r : Int} {L : Nat → V} (h : FormV xs p g v q r) (R : RowF xs p g L) : ∃ q' : Nat, q = q' ∧ FormG L v q' r := by
  cases h with
  | mkI s p g q r b p0 pn hf l =>
    generalize hx : s.map V.int = ys at R
    cases R with
    | mkI s2 p g p02 pn2 pb =>
      have e : s = s2 := (List.map_inj_right fun a b h => V.int.inj h).mp hx
      subst e
      exact ⟨q, rfl, .mkI _ q r b hf⟩
    | mkN s2 k p g =>
      have hm : V.non ∈ s.map V.int := by rw [hx]; simp
      obtain ⟨z, _, e⟩ := List.mem_map.mp hm
      cases e
  | mkN s k p g =>
    generalize hx : s.map V.int ++ List.replicate (k + 1) V.non = ys at R
    cases R with
    | mkI s2 p g p02 pn2 pb =>
      have hm : V.non ∈ s2.map V.int := by rw [← hx]; simp
      obtain ⟨z, _, e⟩ := List.mem_map.mp hm
      cases e
    | mkN s2 k2 p g =>
      have e := row_inj hx
      subst e
      exact ⟨1, rfl, .mkN s⟩
theorem formV_len {xs v : List V} {p : Nat} {g q r : Int} (h : FormV xs p g v q r) : v.length ≤ xs.length := by
  cases h with
  | mkI s p g q r b p0 pn hf l => rw [List.length_map, List.length_range, List.length_map]; exact l
  | mkN s k p g => rw [List.length_append, List.length_append, List.length_replicate]; show _ + 1 ≤ _; omega
theorem FormG.rowF {L : Nat → V} {v : List V} {q : Nat} {r : Int} (h : FormG L v q r) (hq : q ≤ 1000000) : RowF v q r L := by
  cases h with
  | mkI f q r b h => exact row_int h.pos (by omega) hq (by rw [Nat.add_sub_cancel]; exact h.qp)
  | mkN s =>
    have e := range_fn (s := s) (n := s.length + 1) (by omega)
    rw [show s.length + 1 - s.length = 1 by omega] at e
    have e2 : s.map V.int ++ [V.non] = (List.range (s.length + 1)).map (FN s) := e.symm
    rw [e2]
    exact row_non (by omega)
/-- each row has a least form -/
theorem form_ex {xs : List V} {p : Nat} {g : Int} (fi : FormIn xs p g) : ∃ (v : List V) (q r : Int), FormV xs p g v q r := by
  cases fi with
  | mkI s p g p0 pn n4 g0 g1 =>
    have QPf := MF.at_qp (s := s) (g := g) p0 pn
    -- the least right step
    obtain ⟨q, q0, qp, qA, qm⟩ : ∃ q, 0 < q ∧ q ≤ p ∧ MF.A (MF.at_ s p g) (s.length - p) p q ∧ ∀ t, 0 < t → t < q → ¬ MF.A (MF.at_ s p g) (s.length - p) p t := by
      have key : ∀ n : Nat, (∃ q, 0 < q ∧ q ≤ p ∧ q < n ∧ MF.A (MF.at_ s p g) (s.length - p) p q ∧ ∀ t, 0 < t → t < q → ¬ MF.A (MF.at_ s p g) (s.length - p) p t) ∨ ∀ t, 0 < t → t < n → t ≤ p → ¬ MF.A (MF.at_ s p g) (s.length - p) p t := by
        intro n
        induction n with
        | zero => exact .inr fun t _ h => absurd h (Nat.not_lt_zero t)
        | succ n ih =>
          rcases ih with ⟨q, h1, h2, h3, h4, h5⟩ | h
          · exact .inl ⟨q, h1, h2, by omega, h4, h5⟩
          · by_cases c : 0 < n ∧ n ≤ p ∧ MF.A (MF.at_ s p g) (s.length - p) p n
            · exact .inl ⟨n, c.1, c.2.1, by omega, c.2.2, fun t h1 h2 => h t h1 h2 (by omega)⟩
            · refine .inr fun t h1 h2 h3 => ?_
              by_cases e : t = n
              · subst e
                exact fun z => c ⟨h1, h3, z⟩
              · exact h t h1 (by omega) h3
      rcases key (p + 1) with ⟨q, h1, h2, h3, h4, h5⟩ | h
      · exact ⟨q, h1, h2, h4, h5⟩
      · exact absurd MF.A.self (h p p0 (by omega) (Nat.le_refl _))
    have IF := MF.form_of p0 QPf q0 qp qA qm
    refine ⟨_, _, _, .mkI s p g q _ _ p0 pn IF ?_⟩
    have := MF.down_le (fun j => decide (MF.at_ s p g (j + q) = MF.at_ s p g j + (MF.at_ s p g (s.length - p + q) - MF.at_ s p g (s.length - p)))) (s.length - p)
    omega
  | mkN s k p g n4 => exact ⟨_, _, _, .mkN s k p g⟩
/-- the ends of a right row and of its form -/
theorem form_last {xs v : List V} {p : Nat} {g q r : Int} (M : MakeOk xs p g) (fv : FormV xs p g v q r) : ∃ qn rn : Nat, q = qn ∧ r = rn ∧ 0 < qn ∧ qn ≤ p ∧ rn ≤ 1000000000 ∧
    ((∃ i i' : Int, xs[xs.length - 1]? = some (.int i) ∧ v[v.length - 1]? = some (.int i')) ∨ (xs[xs.length - 1]? = some .non ∧ v[v.length - 1]? = some .non ∧ qn = 1 ∧ rn = 0)) := by
  obtain ⟨qn, rfl, CM⟩ := calm_of M fv
  obtain ⟨rn, hr⟩ : ∃ rn : Nat, r = rn := ⟨r.toNat, by have := CM.g0; omega⟩
  have M1 := M.p1
  have M3 := M.p3
  have M0 := M.g0
  cases fv with
  | mkI s p g q r b p0 pn hf l =>
    have QPf := MF.at_qp (s := s) (g := g) p0 pn
    have le := MF.form_le p0 M0 QPf hf
    have pos := hf.pos
    refine ⟨qn, rn, rfl, hr, pos, le.2, by have := M.g1; omega, .inl ⟨MF.at_ s p g (s.length - 1), MF.at_ s p g (b + qn - 1), ?_, ?_⟩⟩
    · rw [List.length_map]
      exact get_map (by omega)
    · rw [List.length_map, List.length_range, List.getElem?_map, List.getElem?_range (by omega)]
      rfl
  | mkN s k p g =>
    refine ⟨1, rn, rfl, hr, by omega, M1, by omega, .inr ⟨?_, ?_, rfl, by omega⟩⟩
    · rw [List.length_append, List.length_map, List.length_replicate]
      exact nones_get _ (by omega) (by omega)
    · rw [List.length_append, List.length_map, List.getElem?_append_right (by rw [List.length_map]; show _ ≤ _ + 1 - 1; omega), List.length_map]
      show ([V.non] : List V)[s.length + 1 - 1 - s.length]? = _
      rw [show s.length + 1 - 1 - s.length = 0 by omega]
      rfl
/-- x is a curve, that of L -/
def IsCur (H : Hp) (C x : Addr) (L : Nat → V) : Prop := ∃ (v : List V) (q : Nat) (r : Int), CurveAt H C x v q r ∧ FormG L v q r
theorem IsCur.same {H H' : Hp} {C x : Addr} {L : Nat → V} (h : IsCur H C x L) (s : Same H H') : IsCur H' C x L := by
  obtain ⟨v, q, r, h1, h2⟩ := h
  exact ⟨v, q, r, h1.same s, h2⟩
end WW
end

section
set_option Elab.async false
set_option linter.all false
set_option maxRecDepth 100000
set_option maxHeartbeats 4000000
/-! The law's own call, under no guard. -/
namespace WG
open PySem PySem.Spec PyProof.Rows L2
section
variable {P : Program} {w : World} {K : PySem.W.Frag} {mg mb : Str → Option Value} {k : Nat} {fa a : Addr} {fd : FuncData}
variable {x : Str} {sp : Sp} {s₁ : Shared} {vs : List Value} {ns : List Int}
/-- what the call is wanted to leave -/
abbrev LawEnd (s₁ : Shared) (r : Result) (s' : Shared) : Prop :=
  r = .ok (.ret (.bool true)) ∧ OldK s₁.heap s'.heap ∧ s'.os = s₁.os ∧ AllBare s'.gens
theorem law_core (KX : K.In s₁.heap) (hns : s₁.heap.Ns mainGlobals mg) (hb : s₁.heap.Ns builtinsNs mb)
    (hbb : ∀ x : Str, x ≠ "__name__" → mb x = bootBuiltins x) (hlim : s₁.heap.NoLimit) (hg : s₁.gens = #[])
    (ha : s₁.heap.get? a = some { cls := .type "list", data := .seq vs.toArray }) (hr : Room k callerA)
    (F : ∀ base : Heap, K.In base → base.Ns mainGlobals mg → FnG P w K mg base CX0 k fa fd [x] sp)
    (hbind : ∀ (s : Shared) (u : Value), BindsTo s fd ⟨[u], []⟩ [(x, u)]) (H : Hp) (hO : Only H)
    (hsp : sp [.ref a] H (fun v _ => v = .bl true) fun _ _ _ => False) (hok : HOk P w H s₁.heap)
    (hA : ∀ b, H b ≠ none → b = a) (hK : H a ≠ none → K.lookup a = none) :
    codeAny (model P w) callerA (.call (.ref fa) ⟨[.ref a], []⟩) (LawEnd s₁) s₁ := by
  have nd : ∀ {b : Addr} {o : Obj} {es : Array DictEntry} {ep : Nat},
      s₁.heap.get? b = some o → o.data = .dict es ep → H b = none := by
    intro b o es ep e d
    cases q : H b with
    | none => rfl
    | some u =>
      have e' : b = a := hA b (by rw [q]; simp)
      subst e'
      rw [ha] at e
      cases e
      have d' : Data.seq vs.toArray _ = Data.dict es ep := d
      cases d'
  have nsK : ∀ {b : Addr} {m : Str → Option Value}, s₁.heap.Ns b m → (hidT s₁.heap H).Ns b m := by
    rintro b m ⟨o, es, ep, e, d, r⟩
    exact ⟨o, es, ep, hidT_get e (nd e d), d, r⟩
  have hKb : K.In (hidT s₁.heap H) := by
    intro b o e
    refine hidT_get (KX b o e) ?_
    cases q : H b with
    | none => rfl
    | some u =>
      have e' : b = a := hA b (by rw [q]; simp)
      subst e'
      rw [hK (by rw [q]; simp)] at e
      cases e
  have hM : Mod K mg (hidT s₁.heap H) := by
    obtain ⟨mc, h1, h2⟩ := hlim
    exact ⟨hKb, nsK hns, ⟨mb, nsK hb, hbb⟩, ⟨mc, nsK h1, h2⟩⟩
  have e0 : Env0 P w K mg (hidT s₁.heap H) callerA [] s₁ H :=
    { frames := rfl, mod := hM, bs := fun b o e => of_hidT e, bsz := Nat.le_of_eq (hidT_size _ _), funs := trivial,
      frf := fun b hb => absurd (show b ∈ ([] : List Addr) from hb) (by simp), hok := hok, bare := .of_eq hg }
  have run := (F _ hKb (nsK hns)).run callerA [] s₁ H ⟨[.ref a], []⟩ [.ref a] [.ref a] _ _ hr rfl e0
    (hbind s₁ (.ref a)) (.cons rfl .nil) hsp
  refine codeAny_mono run fun r s' h => ?_
  cases r with
  | error e => exact False.elim h
  | ok fl =>
    cases fl with
    | next => exact False.elim h
    | brk => exact False.elim h
    | cont => exact False.elim h
    | ret u =>
      obtain ⟨v, H', os, bare, un, hok', r', q⟩ := h
      have q' : v = .bl true := q
      subst q'
      obtain rfl : u = Value.bool true := r'
      refine ⟨rfl, OldK.of_keep ?_, os, bare⟩
      intro b o e
      cases q : H b with
      | none =>
        exact un.keep b o e q (fun z => absurd (show b ∈ ([] : List Addr) from z) (by simp)) (by simp)
      | some u =>
        rcases hO b with z | ⟨ob, xs, z⟩
        · rw [q] at z
          cases z
        · obtain ⟨e1, _⟩ := hok b _ z
          obtain ⟨e2, _⟩ := hok' b _ (un.frzs b ob _ z)
          rw [e] at e1
          cases e1
          exact e2
theorem law_end (KX : K.In s₁.heap) (hns : s₁.heap.Ns mainGlobals mg) (hb : s₁.heap.Ns builtinsNs mb)
    (hbb : ∀ x : Str, x ≠ "__name__" → mb x = bootBuiltins x) (hlim : s₁.heap.NoLimit) (hg : s₁.gens = #[])
    (ha : s₁.heap.get? a = some { cls := .type "list", data := .seq vs.toArray }) (hi : IntsAre vs ns)
    (hl : ns.length ≤ sizeLine) (hr : Room k callerA)
    (F : ∀ base : Heap, K.In base → base.Ns mainGlobals mg → FnG P w K mg base CX0 k fa fd [x] sp)
    (hbind : ∀ (s : Shared) (u : Value), BindsTo s fd ⟨[u], []⟩ [(x, u)])
    (hsp : ∀ H : Hp, Only H → SqL K H a (ns.map V.int) → sp [.ref a] H (fun v _ => v = .bl true) fun _ _ _ => False) :
    codeAny (model P w) callerA (.call (.ref fa) ⟨[.ref a], []⟩) (LawEnd s₁) s₁ := by
  have rv := vals_ints hi
  have lv := hi.length
  cases hk : K.lookup a with
  | some o =>
    have e := KX a o hk
    rw [ha] at e
    cases e
    have hS : SqL K (fun _ => none) a (ns.map V.int) :=
      .inr ⟨_, vs.toArray, _, hk, rfl, rfl, rfl, by rw [List.size_toArray, lv]; exact hl, by simpa using rv⟩
    refine law_core KX hns hb hbb hlim hg ha hr F hbind (fun _ => none) (fun _ => .inl rfl) (hsp _ (fun _ => .inl rfl) hS) ?_ ?_ ?_
    · intro b u z
      have z' : (none : Option HO) = some u := z
      cases z'
    · exact fun b z => absurd rfl z
    · exact fun z => absurd rfl z
  | none =>
    let ob : Obj := { cls := .type "list", data := .seq vs.toArray }
    let H : Hp := fun b => if b = a then some (.frz ob (.lst (ns.map V.int))) else none
    have h1 : H a = some (.frz ob (.lst (ns.map V.int))) := if_pos rfl
    have h2 : ∀ b, b ≠ a → H b = none := fun b hb => if_neg hb
    have hO : Only H := by
      intro b
      by_cases hb : b = a
      · exact .inr ⟨_, _, by rw [hb]; exact h1⟩
      · exact .inl (h2 b hb)
    refine law_core KX hns hb hbb hlim hg ha hr F hbind H hO (hsp H hO (.inl (.inr ⟨ob, h1⟩))) ?_ ?_ fun _ => hk
    · intro b u z
      by_cases hb : b = a
      · subst hb
        rw [h1] at z
        cases z
        exact ⟨ha, by rw [List.length_map]; exact hl, vs, _, rv, ha⟩
      · rw [h2 b hb] at z
        cases z
    · intro b z
      by_cases hb : b = a
      · exact hb
      · exact absurd (h2 b hb) z
end
/-- the goal that k_head leaves, from the law's promise -/
theorem walkG {l : PySem.W.OpenLaw} {n k : Nat} {q : Program} {loose : List Str} {XP : (Str → Option Value) → Heap → Prop} {YP : World → Heap → Prop}
    {d : DefRec} {K : Params → PySem.W.Frag} {sp : PySem.W.Frag → Sp} {x : Str}
    (hn : l.most = some n) (hn2 : n ≤ sizeLine) (hdf : d.params.defaults = []) (hr : Room k callerA)
    (hY : ∀ (w : World) (h : Heap), YP w h → (K w.params).In h)
    (F : ∀ (w : World) (mg : Str → Option Value) (fa : Addr) (h : Heap), (K w.params).In h → h.Ns mainGlobals mg → mg d.name = some (.ref fa) →
      ∃ fd : FuncData, (∀ (s : Shared) (u : Value), BindsTo s fd ⟨[u], []⟩ [(x, u)]) ∧
        ∀ base : Heap, (K w.params).In base → base.Ns mainGlobals mg → FnG l.prog w (K w.params) mg base CX0 k fa fd [x] (sp (K w.params)))
    (hsp : ∀ (K : PySem.W.Frag) (H : Hp) (a : Addr) (ns : List Int), ns.length ≤ n → SqL K H a (ns.map V.int) →
      sp K [.ref a] H (fun v _ => v = .bl true) fun _ _ _ => False) :
    PySem.W.WalkO q loose XP YP l.row.toRowW d [] (fun f vs => PySem.call f vs) := by
  refine Att.attach_call hn hdf fun w s₀ s₁ mg mb fa o pm cd doc a vs ns G Y ho hd hcd hmg hobj hints hlen hg => ?_
  have KX := hY w _ Y
  obtain ⟨fd, hb, hF⟩ := F w mg fa _ KX G.T.g hmg
  exact law_end KX G.T.g G.T.b G.T.builtins G.T.nolimit hg hobj hints
    (Nat.le_trans hlen hn2) hr hF hb fun H _ hS => hsp _ H a ns hlen hS
end WG
end

section
set_option Elab.async false
set_option linter.all false
set_option maxRecDepth 100000
set_option maxHeartbeats 8000000
/-! the head's facts, read over the few objects that a law comes to; the end of a law whose defs make lambdas -/
namespace WH
open PySem PySem.Spec PyProof.Rows L2 WG
section
variable {P : Program} {w : World} {K : PySem.W.Frag} {mg mb : Str → Option Value} {k : Nat} {fa a : Addr} {fd : FuncData}
variable {x : Str} {sp : Sp} {s₁ : Shared} {vs : List Value} {ns : List Int} {cs : List (Addr × Addr)}
abbrev tab0 : Obj := { cls := .none, data := .fields #[] }
/-- the script and the empty tables, and nothing else, may be tracked -/
structure Start (K : PySem.W.Frag) (h : Heap) (a : Addr) (cs : List (Addr × Addr)) (H : Hp) : Prop where
  tb : ∀ p ∈ cs, H p.2 = some (.tbl #[])
  all : ∀ b, H b = none ∨ b ∈ cs.map (·.2) ∨ ∃ o xs, H b = some (.frz o (.lst xs))
  only : ∀ b, H b ≠ none → b = a ∨ b ∈ cs.map (·.2)
  aK : H a ≠ none → K.lookup a = none
theorem coreT (KX : K.In s₁.heap) (hns : s₁.heap.Ns mainGlobals mg) (hb : s₁.heap.Ns builtinsNs mb)
    (hbb : ∀ x : Str, x ≠ "__name__" → mb x = bootBuiltins x) (hlim : s₁.heap.NoLimit) (hg : s₁.gens = #[])
    (hT : ∀ p ∈ cs, s₁.heap.get? p.2 = some tab0) (nT : ∀ p ∈ cs, K.lookup p.2 = none) (hC : ∀ p ∈ cs, PySem.W.CodeHd s₁.heap p.1 p.2)
    (hbm : ∃ (bm : Addr) (ob : Obj), mg "__builtins__" = some (.ref bm) ∧ bm ≠ builtinsNs ∧ s₁.heap.get? bm = some ob ∧ ob.cls = .type "module" ∧ ob.dict = some builtinsNs ∧ ob.data = .plain)
    (ha : s₁.heap.get? a = some { cls := .type "list", data := .seq vs.toArray }) (hr : Room k callerA)
    (F : ∀ base : Heap, K.In base → base.Ns mainGlobals mg → (∀ p ∈ cs, LamX.TabB base mg p.1 p.2) → FnG P w K mg base CX0 k fa fd [x] sp)
    (hbind : ∀ (s : Shared) (u : Value), BindsTo s fd ⟨[u], []⟩ [(x, u)]) (H : Hp) (S : Start K s₁.heap a cs H)
    (hsp : sp [.ref a] H (fun v _ => v = .bl true) fun _ _ _ => False) (hok : HOk P w H s₁.heap) :
    codeAny (model P w) callerA (.call (.ref fa) ⟨[.ref a], []⟩) (LawEnd s₁) s₁ := by
  have tabAt : ∀ b : Addr, b ∈ cs.map (·.2) → s₁.heap.get? b = some tab0 := by
    intro b hb
    obtain ⟨p, hp, rfl⟩ := List.mem_map.mp hb
    exact hT p hp
  have off : ∀ {b : Addr} {o : Obj}, s₁.heap.get? b = some o → (∀ us n, o.data ≠ .seq us n) → o.data ≠ .fields #[] → H b = none := by
    intro b o e n1 n2
    cases q : H b with
    | none => rfl
    | some u =>
      rcases S.only b (by rw [q]; simp) with z | z
      · rw [z, ha] at e
        cases e
        exact absurd rfl (n1 _ _)
      · rw [tabAt b z] at e
        cases e
        exact absurd rfl n2
  have offD : ∀ {b : Addr} {o : Obj} {es : Array DictEntry} {ep : Nat}, s₁.heap.get? b = some o → o.data = .dict es ep → H b = none := by
    intro b o es ep e d
    refine off e (fun us n z => ?_) fun z => ?_ <;> (rw [d] at z; cases z)
  have nsK : ∀ {b : Addr} {m : Str → Option Value}, s₁.heap.Ns b m → (hidT s₁.heap H).Ns b m := by
    rintro b m ⟨o, es, ep, e, d, r⟩
    exact ⟨o, es, ep, hidT_get e (offD e d), d, r⟩
  have hKb : K.In (hidT s₁.heap H) := by
    intro b o e
    refine hidT_get (KX b o e) ?_
    cases q : H b with
    | none => rfl
    | some u =>
      rcases S.only b (by rw [q]; simp) with z | z
      · rw [z] at e q
        rw [S.aK (by rw [q]; simp)] at e
        cases e
      · obtain ⟨p, hp, rfl⟩ := List.mem_map.mp z
        rw [nT p hp] at e
        cases e
  have hM : Mod K mg (hidT s₁.heap H) := by
    obtain ⟨mc, h1, h2⟩ := hlim
    exact ⟨hKb, nsK hns, ⟨mb, nsK hb, hbb⟩, ⟨mc, nsK h1, h2⟩⟩
  have gM : ∀ b : Addr, (∃ o : Obj, s₁.heap.get? b = some o ∧ ∀ es ep, o.data ≠ .dict es ep) → mainGlobals ≠ b := by
    rintro b ⟨o, e, nd⟩ z
    obtain ⟨o', es, ep, e', hd, _⟩ := hns
    rw [z, e] at e'
    cases e'
    exact nd _ _ hd
  have TB : ∀ p ∈ cs, LamX.TabB (hidT s₁.heap H) mg p.1 p.2 := by
    intro p hp
    have hTp := hT p hp
    have part : (hidT s₁.heap H).BuiltinsAt mg p.2 := by
      obtain ⟨bm, ob, b1, b2, b3, b4, b5, b6⟩ := hbm
      refine ⟨bm, ob, b1, b2, fun z => gM bm ⟨ob, b3, fun es ep q => by rw [b6] at q; cases q⟩ z.symm, fun z => ?_, hidT_get b3 (off b3 (fun us n z => ?_) fun z => ?_), b4, b5, b6⟩
      · rw [z, hTp] at b3
        cases b3
        cases b6
      · rw [b6] at z
        cases z
      · rw [b6] at z
        cases z
    refine ⟨?_, part, gM p.2 ⟨tab0, hTp, fun es ep q => by cases q⟩⟩
    obtain ⟨o, us, fl, tf, gl, tg, inF, tx, tt, e1, r1, r2, r3, rr⟩ := hC p hp
    refine ⟨o, us, fl, tf, gl, tg, inF, tx, tt, hidT_get e1 (off e1 (fun vs n z => ?_) fun z => ?_), r1, r2, r3, rr⟩
    · rw [r2] at z
      cases z
    · rw [r2] at z
      cases z
      simp at r3
  have e0 : Env0 P w K mg (hidT s₁.heap H) callerA [] s₁ H :=
    { frames := rfl, mod := hM, bs := fun b o e => of_hidT e, bsz := Nat.le_of_eq (hidT_size _ _), funs := trivial,
      frf := fun b hb => absurd (show b ∈ ([] : List Addr) from hb) (by simp), hok := hok, bare := .of_eq hg }
  refine codeAny_mono ((F _ hKb (nsK hns) TB).run callerA [] s₁ H ⟨[.ref a], []⟩ [.ref a] [.ref a] _ _ hr rfl e0
    (hbind s₁ (.ref a)) (.cons rfl .nil) hsp) fun r s' h => ?_
  cases r with
  | error e => exact False.elim h
  | ok fl =>
    cases fl with
    | next => exact False.elim h
    | brk => exact False.elim h
    | cont => exact False.elim h
    | ret u =>
      obtain ⟨v, H', os, bare, un, hok', r', q⟩ := h
      have q' : v = .bl true := q
      subst q'
      obtain rfl : u = Value.bool true := r'
      have stays : ∀ b o, b ∉ cs.map (·.2) → s₁.heap.get? b = some o → s'.heap.get? b = some o := by
        intro b o nb e
        cases q : H b with
        | none => exact un.keep b o e q (fun z => absurd (show b ∈ ([] : List Addr) from z) (by simp)) (by simp)
        | some u =>
          rcases S.all b with z | z | ⟨ob, xs, z⟩
          · rw [q] at z
            cases z
          · exact absurd z nb
          · obtain ⟨e1, _⟩ := hok b _ z
            obtain ⟨e2, _⟩ := hok' b _ (un.frzs b ob _ z)
            rw [e] at e1
            cases e1
            exact e2
      have grows : ∀ p ∈ cs, ∃ more : Array Value, s'.heap.get? p.2 = some { cls := .none, data := .fields more } := by
        intro p hp
        obtain ⟨more, z⟩ := un.tbls p.2 #[] (S.tb p hp)
        exact ⟨_, hok' p.2 _ z⟩
      refine ⟨rfl, ⟨fun b o e => ?_, fun b o e => ?_⟩, os, bare⟩
      · by_cases hb : b ∈ cs.map (·.2)
        · obtain ⟨p, hp, rfl⟩ := List.mem_map.mp hb
          obtain ⟨more, hm⟩ := grows p hp
          rw [hT p hp] at e
          cases e
          exact .inr (.inl ⟨((hC p hp).tab (hT p hp)).isCodeTable, rfl, #[], more, rfl, by rw [Array.empty_append]; exact hm⟩)
        · exact .inl (stays b o hb e)
      · by_cases hb : b ∈ cs.map (·.2)
        · obtain ⟨p, hp, rfl⟩ := List.mem_map.mp hb
          obtain ⟨more, hm⟩ := grows p hp
          exact ⟨_, hm⟩
        · exact ⟨o, stays b o hb e⟩
theorem endT (KX : K.In s₁.heap) (hns : s₁.heap.Ns mainGlobals mg) (hb : s₁.heap.Ns builtinsNs mb)
    (hbb : ∀ x : Str, x ≠ "__name__" → mb x = bootBuiltins x) (hlim : s₁.heap.NoLimit) (hg : s₁.gens = #[])
    (hT : ∀ p ∈ cs, s₁.heap.get? p.2 = some tab0) (nT : ∀ p ∈ cs, K.lookup p.2 = none) (hC : ∀ p ∈ cs, PySem.W.CodeHd s₁.heap p.1 p.2)
    (hbm : ∃ (bm : Addr) (ob : Obj), mg "__builtins__" = some (.ref bm) ∧ bm ≠ builtinsNs ∧ s₁.heap.get? bm = some ob ∧ ob.cls = .type "module" ∧ ob.dict = some builtinsNs ∧ ob.data = .plain)
    (ha : s₁.heap.get? a = some { cls := .type "list", data := .seq vs.toArray }) (hi : IntsAre vs ns)
    (hl : ns.length ≤ sizeLine) (hr : Room k callerA)
    (F : ∀ base : Heap, K.In base → base.Ns mainGlobals mg → (∀ p ∈ cs, LamX.TabB base mg p.1 p.2) → FnG P w K mg base CX0 k fa fd [x] sp)
    (hbind : ∀ (s : Shared) (u : Value), BindsTo s fd ⟨[u], []⟩ [(x, u)])
    (hsp : ∀ H : Hp, (∀ p ∈ cs, H p.2 = some (.tbl #[])) → SqL K H a (ns.map V.int) → sp [.ref a] H (fun v _ => v = .bl true) fun _ _ _ => False) :
    codeAny (model P w) callerA (.call (.ref fa) ⟨[.ref a], []⟩) (LawEnd s₁) s₁ := by
  have rv := vals_ints hi
  have lv := hi.length
  have tabAt : ∀ b : Addr, b ∈ cs.map (·.2) → s₁.heap.get? b = some tab0 := by
    intro b hb
    obtain ⟨p, hp, rfl⟩ := List.mem_map.mp hb
    exact hT p hp
  have aT : a ∉ cs.map (·.2) := by
    intro z
    have q := tabAt a z
    rw [ha] at q
    have z' : Data.seq vs.toArray _ = Data.fields #[] := congrArg Obj.data (Option.some.inj q)
    cases z'
  have mem2 : ∀ p ∈ cs, p.2 ∈ cs.map (·.2) := fun p hp => List.mem_map.mpr ⟨p, hp, rfl⟩
  cases hk : K.lookup a with
  | some o =>
    have e := KX a o hk
    rw [ha] at e
    cases e
    let H : Hp := fun b => if b ∈ cs.map (·.2) then some (.tbl #[]) else none
    have h1 : ∀ {b}, b ∈ cs.map (·.2) → H b = some (.tbl #[]) := fun hb => if_pos hb
    have h2 : ∀ {b}, b ∉ cs.map (·.2) → H b = none := fun hb => if_neg hb
    have hS : SqL K H a (ns.map V.int) :=
      .inr ⟨_, vs.toArray, _, hk, rfl, rfl, rfl, by rw [List.size_toArray, lv]; exact hl, by simpa using rv⟩
    have S : Start K s₁.heap a cs H := by
      refine ⟨fun p hp => h1 (mem2 p hp), fun b => ?_, fun b z => ?_, fun z => absurd (h2 aT) z⟩
      · by_cases q : b ∈ cs.map (·.2)
        · exact .inr (.inl q)
        · exact .inl (h2 q)
      · by_cases q : b ∈ cs.map (·.2)
        · exact .inr q
        · exact absurd (h2 q) z
    refine coreT KX hns hb hbb hlim hg hT nT hC hbm ha hr F hbind H S (hsp H S.tb hS) fun b u z => ?_
    by_cases q : b ∈ cs.map (·.2)
    · rw [h1 q] at z
      cases z
      exact tabAt b q
    · rw [h2 q] at z
      cases z
  | none =>
    let ob : Obj := { cls := .type "list", data := .seq vs.toArray }
    let H : Hp := fun b => if b = a then some (.frz ob (.lst (ns.map V.int))) else if b ∈ cs.map (·.2) then some (.tbl #[]) else none
    have h0 : H a = some (.frz ob (.lst (ns.map V.int))) := if_pos rfl
    have h1 : ∀ {b}, b ≠ a → b ∈ cs.map (·.2) → H b = some (.tbl #[]) := fun ne hb => (if_neg ne).trans (if_pos hb)
    have h2 : ∀ {b}, b ≠ a → b ∉ cs.map (·.2) → H b = none := fun ne hb => (if_neg ne).trans (if_neg hb)
    have na : ∀ {b}, b ∈ cs.map (·.2) → b ≠ a := fun hb z => aT (z ▸ hb)
    have S : Start K s₁.heap a cs H := by
      refine ⟨fun p hp => h1 (na (mem2 p hp)) (mem2 p hp), fun b => ?_, fun b z => ?_, fun _ => hk⟩
      · by_cases q0 : b = a
        · exact .inr (.inr ⟨_, _, by rw [q0]; exact h0⟩)
        · by_cases q : b ∈ cs.map (·.2)
          · exact .inr (.inl q)
          · exact .inl (h2 q0 q)
      · by_cases q0 : b = a
        · exact .inl q0
        · by_cases q : b ∈ cs.map (·.2)
          · exact .inr q
          · exact absurd (h2 q0 q) z
    refine coreT KX hns hb hbb hlim hg hT nT hC hbm ha hr F hbind H S (hsp H S.tb (.inl (.inr ⟨ob, h0⟩))) fun b u z => ?_
    by_cases q0 : b = a
    · subst q0
      rw [h0] at z
      cases z
      exact ⟨ha, by rw [List.length_map]; exact hl, vs, _, rv, ha⟩
    · by_cases q : b ∈ cs.map (·.2)
      · rw [h1 q0 q] at z
        cases z
        exact tabAt b q
      · rw [h2 q0 q] at z
        cases z
end
/-- what is known at the head's heap h of the law at fa -/
def LawAt (l : PySem.W.OpenLaw) (w : World) (k n : Nat) (x : Str) (mg : Str → Option Value) (fa : Addr) (h : Heap) : Prop :=
  ∃ (K : PySem.W.Frag) (fd : FuncData) (cs : List (Addr × Addr)) (sp : Sp), K.In h ∧ (∀ p ∈ cs, h.get? p.2 = some tab0) ∧ (∀ p ∈ cs, K.lookup p.2 = none) ∧ (∀ p ∈ cs, PySem.W.CodeHd h p.1 p.2) ∧
    (∀ (s : Shared) (u : Value), BindsTo s fd ⟨[u], []⟩ [(x, u)]) ∧
    (∀ (H : Hp) (a : Addr) (ns : List Int), ns.length ≤ n → (∀ p ∈ cs, H p.2 = some (.tbl #[])) → SqL K H a (ns.map V.int) → sp [.ref a] H (fun v _ => v = .bl true) fun _ _ _ => False) ∧
    ∀ base : Heap, K.In base → base.Ns mainGlobals mg → (∀ p ∈ cs, LamX.TabB base mg p.1 p.2) → FnG l.prog w K mg base CX0 k fa fd [x] sp
theorem walkT {l : PySem.W.OpenLaw} {n k : Nat} {q : Program} {loose : List Str} {XP : (Str → Option Value) → Heap → Prop} {YP : World → Heap → Prop}
    {d : DefRec} {x : Str}
    (hn : l.most = some n) (hn2 : n ≤ sizeLine) (hdf : d.params.defaults = []) (hr : Room k callerA)
    (F : ∀ (w : World) (mg : Str → Option Value) (fa : Addr) (h : Heap), YP w h → h.Ns mainGlobals mg → mg d.name = some (.ref fa) → LawAt l w k n x mg fa h) :
    PySem.W.WalkO q loose XP YP l.row.toRowW d [] (fun f vs => PySem.call f vs) := by
  refine Att.attach_call hn hdf fun w s₀ s₁ mg mb fa o pm cd doc a vs ns G Y ho hd hcd hmg hobj hints hlen hg => ?_
  obtain ⟨K, fd, cs, sp, KX, t1, t2, t3, hb, hsp, hF⟩ := F w mg fa _ Y G.T.g hmg
  exact endT KX G.T.g G.T.b G.T.builtins G.T.nolimit hg t1 t2 t3 G.T.bmain hobj hints
    (Nat.le_trans hlen hn2) hr hF hb fun H hH hS => hsp H a ns hlen hH hS
/-! ### the hook -/
/-- the addresses of globals, classes, their namespaces, the functions, their code -/
def asX (g : Addr → Option Obj) (cs : List Str) (ms : List (Str × Str)) (fs : List Str) : List Addr :=
  let G : List Addr := [mainGlobals]
  let K0 := He.frG g G
  let C := cs.map (He.ga K0)
  let K1 := He.frG g C
  let N := C.filterMap fun c => (PySem.W.clsIn K1 c).map fun cd => cd.ns
  let K2 := He.frG g (G ++ C ++ N)
  let F := ms.map (fun m => He.ma K2 (He.ga K0 m.1) m.2) ++ fs.map (He.ga K0)
  let K3 := He.frG g F
  let D := F.filterMap fun f => match K3.lookup f with
    | some ⟨_, _, .func fd, _⟩ => (match fd.code with
      | .ref c => some c
      | _ => none)
    | _ => none
  G ++ C ++ N ++ F ++ D
abbrev frX (cs : List Str) (ms : List (Str × Str)) (fs : List Str) (g : Addr → Option Obj) : PySem.W.Frag := He.frG g (asX g cs ms fs)
/-- the code of a def that makes lambdas, and its table -/
def coOf (K : PySem.W.Frag) (x : Str) : Addr := match K.lookup (He.ga K x) with
  | some ⟨_, _, .func fd, _⟩ => (match fd.code with
    | .ref c => c
    | _ => 0)
  | _ => 0
def taOf (K : PySem.W.Frag) (c : Addr) : Addr := match K.lookup c with
  | some ⟨_, _, .fields vs, _⟩ => (match (vs[11]? : Option Value) with
    | some (.ref t) => t
    | _ => 0)
  | _ => 0
def ctOf (K : PySem.W.Frag) (x : Str) : Addr × Addr := (coOf K x, taOf K (coOf K x))
def tabX (g : Addr → Option Obj) (tf : List Str) (K : PySem.W.Frag) : Bool := tf.all fun x => PySem.W.codeHdIn K (ctOf K x).1 (ctOf K x).2 && (K.lookup (ctOf K x).2).isNone && (match g (ctOf K x).2 with
  | some o => He.emptyTab o
  | none => false)
structure TabsIn (h : Heap) (tf : List Str) (K : PySem.W.Frag) : Prop where
  hd : ∀ x ∈ tf, PySem.W.codeHdIn K (ctOf K x).1 (ctOf K x).2 = true
  out : ∀ x ∈ tf, K.lookup (ctOf K x).2 = none
  emp : ∀ x ∈ tf, h.get? (ctOf K x).2 = some tab0
theorem tabX_ok {h : Heap} {tf : List Str} {K : PySem.W.Frag} (e : tabX h.get? tf K = true) : TabsIn h tf K := by
  have key : ∀ x ∈ tf, (PySem.W.codeHdIn K (ctOf K x).1 (ctOf K x).2 = true ∧ (K.lookup (ctOf K x).2).isNone = true) ∧ ∃ o, h.get? (ctOf K x).2 = some o ∧ He.emptyTab o = true := by
    intro x hx
    have z := List.all_eq_true.mp e x hx
    rw [Bool.and_eq_true, Bool.and_eq_true] at z
    refine ⟨z.1, ?_⟩
    have z2 := z.2
    cases q : h.get? (ctOf K x).2 with
    | none => rw [q] at z2; cases z2
    | some o => rw [q] at z2; exact ⟨o, rfl, z2⟩
  refine ⟨fun x hx => (key x hx).1.1, fun x hx => Option.isNone_iff_eq_none.mp (key x hx).1.2, fun x hx => ?_⟩
  obtain ⟨_, o, q, z⟩ := key x hx
  rw [q, He.emptyTab_eq z]
def obsX (cs : List Str) (ms : List (Str × Str)) (fs tf : List Str) (fa : List He.Fa) (fn : List He.DefD) (B : PySem.W.Frag → Bool) (g : Addr → Option Obj) : He.AlD × Bool :=
  (He.obsD fa fn (frX cs ms fs g), B (frX cs ms fs g) && tabX g tf (frX cs ms fs g))
def hookX (cs : List Str) (ms : List (Str × Str)) (fs tf : List Str) (fa : List He.Fa) (fn : List He.DefD) (B : PySem.W.Frag → Bool) : PySem.W.Hook where
  α := He.AlD × Bool
  obs s := obsX cs ms fs tf fa fn B s.heap.get?
  val _ := (He.valD fn, true)
  says _ h := ∃ K, PySem.W.Frag.In K h ∧ He.SaysD fa fn K ∧ B K = true ∧ TabsIn h tf K
  of _ s e := by
    have e1 := congrArg (fun z : He.AlD × Bool => z.1) e
    have e2 := congrArg (fun z : He.AlD × Bool => z.2) e
    have e3 := Bool.and_eq_true_iff.mp e2
    exact ⟨_, He.frG_in, e1, e3.1, tabX_ok e3.2⟩
  keeps _ _ _ := fun ⟨K, X, c, b, t⟩ k => ⟨K, fun a o e => k a o (X a o e), c, b, ⟨t.hd, t.out, fun x hx => k _ _ (t.emp x hx)⟩⟩
theorem obsX_eq {cs : List Str} {ms : List (Str × Str)} {fs tf : List Str} {fa : List He.Fa} {fn : List He.DefD} {B : PySem.W.Frag → Bool} {g : Addr → Option Obj} {s : Shared} (h : ∀ a, g a = s.heap.get? a) :
    obsX cs ms fs tf fa fn B g = (hookX cs ms fs tf fa fn B).obs s := by
  have e : g = s.heap.get? := funext h
  rw [e]
  rfl
theorem fun_of {K : PySem.W.Frag} {x q : Str} {st : Stmt} {f : Addr} {fd : FuncData} (F : FunD K x q (defArgs st) (defBody st) (defScope st) [] [] f fd) : Fun K x q st f fd := by
  obtain ⟨⟨oc, od, dV, kV, doc, pm, an, cdv, ct, sl, rfl, hl, hc, hd, -⟩, kp⟩ := F
  rcases hd with ⟨-, rfl⟩ | ⟨h, -⟩
  · exact ⟨⟨oc, od, kV, doc, pm, an, cdv, ct, sl, rfl, hl, hc⟩, kp⟩
  · exact absurd rfl h
/-! ### own errors -/
def askX (K : PySem.W.Frag) (C : Addr) : Bool := (PySem.W.clsIn K C).isSome && (decide (PySem.W.findIn K (.ref C) "__getattribute__" = some (some (.builtin "BaseException.__getattribute__"))) &&
  (decide (PySem.W.findIn K (.ref C) "__getattr__" = some none) && (decide (PySem.W.subIn K (.ref C) (.type "BaseException") = some true) &&
  (decide (PySem.W.findIn K (.ref C) "__class__" = some (some (.builtin "object.__class__"))) && (decide (PySem.W.specialIn K (.builtin "object.__class__") "__get__" = some (some (.builtin "getset_descriptor.__get__"))) &&
  (decide (PySem.W.takesIn K (.builtin "object.__class__") = some true) && decide (PySem.W.mroIn K C (.type "object") = some true)))))))
theorem askX_ok {K : PySem.W.Frag} {C : Addr} (h : askX K C = true) : WT.AskE K C := by
  unfold askX at h
  simp only [Bool.and_eq_true, decide_eq_true_eq] at h
  obtain ⟨h1, h2, h3, h4, h5, h6, h7, h8⟩ := h
  exact ⟨h1, h2, h3, h4, h5, h6, h7, h8⟩
/-- a class with an attribute -/
def clsX (K : PySem.W.Frag) (C : Addr) : Bool := match K.lookup C with
  | some ⟨.type "type", _, .cls cd, sl⟩ => (match cd.mro, sl.toList with
    | .ref C' :: bm, [_, _, _, _, some (.builtin n), _] => C' == C && n == "ValueError.__new__" && !cd.hasDel && cd.hasDict && PySem.HandSPX.refsVE bm
    | _, _ => false)
  | _ => false
theorem clsX_ok {K : PySem.W.Frag} {C : Addr} (h : clsX K C = true) :
    ∃ nm q N bs bm sn sub ab col dd k0 k1 k2 k3 k5, K.lookup C = some (excClassObj nm q C N bs bm true sn sub ab col dd k0 k1 k2 k3 k5 "ValueError.__new__") ∧ PySem.HandSPX.refsVE bm = true := by
  unfold clsX at h
  split at h
  · rename_i dd cd sl hl
    split at h
    · rename_i C' bm k0 k1 k2 k3 n k5 hm hs
      simp only [Bool.and_eq_true, beq_iff_eq, Bool.not_eq_true'] at h
      obtain ⟨⟨⟨⟨rfl, rfl⟩, hd⟩, hx⟩, hr⟩ := h
      obtain ⟨nm, bs, mro, N, q, hdct, sn, sub, ab, col, hasDel⟩ := cd
      obtain ⟨sl⟩ := sl
      dsimp only at hm hs hd hx
      subst hm hd hx hs
      exact ⟨nm, q, N, bs, bm, sn, sub, ab, col, dd, k0, k1, k2, k3, k5, hl, hr⟩
    · cases h
  · cases h
def errX (K : PySem.W.Frag) (C fI : Addr) (f : Str) : Bool := clsX K C && (decide (PySem.W.findIn K (.ref C) "__setattr__" = some (some (.builtin "object.__setattr__"))) &&
  (decide (PySem.W.subIn K (.ref C) (.type "BaseException") = some true) && (decide (PySem.W.typeIn K (.ref C) = some (.type "type")) && (PySem.W.keepIn K (.ref C) &&
  (decide (PySem.W.findIn K (.ref C) "__init__" = some (some (.ref fI))) && (decide (PySem.W.typeIn K (.ref fI) = some (.type "function")) &&
  (decide (PySem.W.findIn K (.ref C) f = some none) && (PySem.W.hasDictIn K C && askX K C))))))))
theorem errX_ok {P : Program} {w : World} {K : PySem.W.Frag} {mg : Str → Option Value} {base : Heap} {x f : Str} {C fI : Addr} {fd : FuncData} (h : errX K C fI f = true) (gC : mg x = some (.ref C))
    (fn : FnOk P w K mg base CX0 1 fI fd [("self" : Str), f] (WT.spErrI K f)) (bd : Binds K fd [("self" : Str), f] []) : WT.ErrT P w K mg base x f C fI fd := by
  unfold errX at h
  simp only [Bool.and_eq_true, decide_eq_true_eq] at h
  obtain ⟨h1, h2, h3, h4, h5, h6, h7, h8, h9, h10⟩ := h
  exact ⟨⟨clsX_ok h1, h2, h3, h4, h5⟩, h6, h7, h8, h9, askX_ok h10, gC, fn, bd⟩
theorem ok_err {P : Program} {w : World} {K : PySem.W.Frag} {mg : Str → Option Value} {base : Heap} {st : Stmt} {q f : Str} {g : Addr} {fd : FuncData} {ti : TS} (F : Fun K "__init__" q st g fd) (S : FnScope ["self", f] ["self", f] (defScope st))
    (hb : ∀ (X : Cx), X.N = [("self" : Str), f] → X.env.scope = defScope st → PSs X (defBody st) (tOst X.K f (tVar 0) (tVar 1))) : FnOk P w K mg base CX0 1 g fd [("self" : Str), f] (WT.spErrI K f) := by
  refine F.ok S (fun vs H Q E h => ?_) (fun cdv A outer s H vs Q E hr h => ?_)
  · obtain ⟨a, C, y, rfl, _⟩ := h
    rfl
  · obtain ⟨a, C, y, rfl, e, T, hf, k⟩ := h
    exact ⟨_, (hb _ rfl rfl), _, rfl, _, rfl, a, C, rfl, T, hf, .inl ⟨e, k⟩⟩
end WH
end

section
set_option Elab.async false
set_option linter.all false
set_option maxRecDepth 100000
set_option maxHeartbeats 4000000
/-! calls with keywords alone; a law's body told its code -/
namespace WL
open PySem PySem.Spec PyProof.Rows L2 WG
section
variable {X : Cx} {CX : CXT} {k : Nat} {f : Addr} {fd : FuncData} {ps ks : List Str} {sp : Sp} {E : XK} {x : Str} {p pos : Pos} {kws : List Keyword} {tk : TA} {g : List Value → List Value → List Value} {gV : List V → List V → List V}
/-- f(k = v, ..) -/
theorem pe_callK0 (F : FnOk X.prog X.w X.K X.mg X.base CX k f fd ps sp) (hr : Room k X.A) (hg : Gl X x) (hm : X.mg x = some (.ref f)) (hk : PySem.W.keepIn X.K (.ref f) = true) (hb : KBinds X.K fd ps ks g gV) (hx : Passes CX X E)
    (hkw : PK X kws tk) (hall : (backToKw pos (keywordEach kws X.env)).all (·.1.isSome) = true := by rfl) (hks : (backToKw pos (keywordEach kws X.env)).filterMap (·.1) = ks := by rfl)
    (hdb : (x == ("__debug__" : Str)) = false := by decide)
    (hpl : ((backTo pos (starEach [] X.env)).any (·.1) || (backToKw pos (keywordEach kws X.env)).any (·.1.isNone)) = false := by rfl) :
    PE X (.Call (.Name x p) [] kws pos) (tCallK sp gV E tNil tk) := by
  refine ⟨fun pins s σ H Q I h => ?_⟩
  refine wpAny_Call_Name_kw (ld_glob I hg hm ?_ hdb)
  refine PySem.W.callWith_KW0 (h₀ := X.base) I.ok.mod.kin hk hall ?_ hpl
  refine thn (hkw.run pos pins s σ H _ I h) fun ws s2 ⟨zs, H2, I2, rz, q2⟩ => ⟨I2.kIn, ?_⟩
  rw [hks]
  exact run_fnk (us := []) (vs := []) F hr hb hx I2 .nil rz q2
theorem kb1 {K : PySem.W.Frag} {x qual y : Str} {st : Stmt} {f : Addr} {fd : FuncData} (F : Fun K x qual st f fd)
    (h0 : ∀ (kV doc pm : Value) (an : Option Addr) (cdv ct v : Value), bindArgs (PySem.W.fnOf x qual (defArgs st) (defBody st) (defScope st) .none kV doc pm an cdv ct) ⟨[v], []⟩ = pure [(y, v)])
    (h1 : ∀ (kV doc pm : Value) (an : Option Addr) (cdv ct v : Value), bindArgs (PySem.W.fnOf x qual (defArgs st) (defBody st) (defScope st) .none kV doc pm an cdv ct) ⟨[], [(y, v)]⟩ = pure [(y, v)]) :
    KBinds K fd [y] [y] (fun us ws => us ++ ws) (fun vs zs => vs ++ zs) := by
  obtain ⟨oc, od, kV, doc, pm, an, cdv, ct, osl, rfl, lk, hcd⟩ := F.ex
  refine ⟨fun s us ws _ hl => ?_, fun r rz => r.append rz⟩
  match us, ws, hl with
  | [v], [], _ => exact .of_eq (h0 _ _ _ _ _ _ v)
  | [], [v], _ => exact .of_eq (h1 _ _ _ _ _ _ v)
end
section
variable {P : Program} {w : World} {K : PySem.W.Frag} {mg : Str → Option Value} {base : Heap} {CX : CXT}
variable {k : Nat} {f : Addr} {fd : FuncData} {ps : List Str} {sp : Sp}
/-- as okG, the body told which code object is its own -/
theorem okC {x qual : Str} {st : Stmt} {N : List Str} {c : Addr} (F : Fun K x qual st f fd) (hc : fd.code = .ref c) (S : FnScope N ps (defScope st))
    (len : ∀ vs H Q E, sp vs H Q E → vs.length = ps.length)
    (body : ∀ (A : Around) (outer : List Env) (s : Shared) (H : Hp) (vs : List V) (Q : VK) (E : XK),
      Room k (A.deeper (envOfC qual (defScope st) s.heap.objs.size f (.ref c))) →
      (A.deeper (envOfC qual (defScope st) s.heap.objs.size f (.ref c))).guards = some [] → sp vs H Q E →
      ∃ t, PSs (cxOf CX P w K mg base N qual (defScope st) f (.ref c) A outer s H E).nox (defBody st) t ∧
        t { nx := fun _ H' => Q .non H', rt := Q } (start N vs) H) :
    FnG P w K mg base CX (k + 1) f fd ps sp := by
  obtain ⟨oc, od, kV, doc, pm, an, cdv, ct, osl, rfl, lk, hcd⟩ := F.ex
  cases (show cdv = Value.ref c from hc)
  refine ⟨len, fun A outer s H args us vs Q E hr hga e0 hb r hsp => ?_⟩
  have hl := len _ _ _ _ hsp
  have KX : K.In s.heap := e0.mod.kin.keeps
    fun b o e => (e0.bs b o e).1
  have lim : s.heap.NoLimit := e0.mod.nolimit.keeps
    fun b o e => (e0.bs b o e).1
  have hkind : ∀ y ∈ ps.zip us, (defScope st).names.lookup y.1 = some .local ∨
      ((defScope st).names.lookup y.1 = some .cell ∧
        ((cellsFrom (s.heap.objs.size + 1) (defScope st).names []).lookup y.1).isSome = true) := by
    rintro ⟨n, v⟩ hy
    rcases S.par n (List.of_mem_zip hy).1 with q | q
    · exact .inl q
    · exact .inr ⟨q, PySem.W.cellsFrom_some _ _ _ (.inl q)⟩
  refine codeAny_call_function hr.depth (KX _ _ lk) rfl S.co S.gen rfl
    (PySem.W.codeRec_of KX hcd) (hb _ _ _ _ ?_)
  refine wpAny_newFunctionEnv_cells S.kind hkind
    fun env he s1 x => ?_
  subst he
  refine ⟨lim.keeps x.toInCall.keep,
    codeAny_func ?_⟩
  obtain ⟨t, ht, hq⟩ := body A outer s H vs Q E (hr.deeper _) hga hsp
  have I := inv_start (CX := CX) (E := E) S hr.hd e0 hl r x
  refine wpAny_mono (ht.nox.run [] s1 (start N vs) H _ I hq)
    (fun fl s' hs => ?_) fun e s' hs => hs
  have fin : ∀ {σ' : L2.St} {H' : Hp} {v : V} {u : Value},
      Inv (cxOf CX P w K mg base N qual (defScope st) f (.ref c) A outer s H E) [] σ' H' s' →
      RelV v u → Q v H' → CE outer P w H s Q u s' :=
    fun J rv q => ⟨_, _, J.os, J.bare, J.base, J.hok, rv, q⟩
  cases fl with
  | ret u =>
    obtain ⟨v, σ', H', J, rv, q⟩ := hs
    exact fin J rv q
  | next =>
    obtain ⟨σ', H', J, q⟩ := hs
    exact fin (v := V.non) (u := Value.none) J rfl q
  | brk =>
    obtain ⟨_, _, _, q⟩ := hs
    exact False.elim q
  | cont =>
    obtain ⟨_, _, _, q⟩ := hs
    exact False.elim q
end
end WL
end

section
set_option Elab.async false
set_option linter.all false
set_option maxRecDepth 100000
set_option maxHeartbeats 4000000
/-! lambdas as values: made, kept in lists, handed by a name -/
namespace WV
open PySem PySem.Spec PyProof.Rows L2 LamX WT
/-- the lambda at f -/
def LamO (f : Addr) (q : Str) (pr : Arguments) (bd : Expr) (sc : Scope) (cl : List (Str × Addr)) (c : Addr) : HO :=
  .ext fun h => ∃ pm ctv : Value, h.get? f = some (PySem.W.kla_obj "<lambda>" q pr bd sc cl pm c ctv)
theorem lamO_ne {f c : Addr} {q : Str} {pr : Arguments} {bd : Expr} {sc : Scope} {cl : List (Str × Addr)} (ps : Array Value) : LamO f q pr bd sc cl c ≠ .tbl ps := fun z => by
  unfold LamO at z
  cases z
section
variable {X : Cx} {pins : List (Addr × Obj)} {σ : L2.St} {H : Hp} {s : Shared}
theorem lam_known {q : Str} {pr : Arguments} {bd : Expr} {sc : Scope} {cl : List (Str × Addr)} {c : Addr} {pm ctv : Value} {t' : Nat} (I : Inv X pins σ H s) :
    Inv X pins σ (upd H s.heap.objs.size (LamO s.heap.objs.size q pr bd sc cl c)) { s with heap := s.heap.push (PySem.W.kla_obj "<lambda>" q pr bd sc cl pm c ctv), toks := t' } := by
  refine I.laid (a := s.heap.objs.size) (fun b u e => Heap.get?_push_of_some _ e) (Nat.le_refl _) ?_
  have e : (s.heap.push (PySem.W.kla_obj "<lambda>" q pr bd sc cl pm c ctv)).get? s.heap.objs.size = some (PySem.W.kla_obj "<lambda>" q pr bd sc cl pm c ctv) := Heap.get?_push_size _ rfl
  exact ⟨⟨pm, ctv, e⟩, ⟨_, e⟩, fun h1 h2 ⟨p, t, z⟩ st => ⟨p, t, st _ z⟩⟩
/-- the tables behind a new code object of the name q in the table P -/
theorem tabs_more {T : List (Addr × Str)} {P c : Addr} {q : Str} {ps : Array Value} {pos : Pos} (hT : Tabs T H) (hP : H P = some (.tbl ps)) (ht : TriplesOk ps.toList) (hc : H c = none) (hu : ∀ p ∈ T, p.1 = P → p.2 = q)
    (ha : ∀ (pos : Pos) (cv : Value), codeAmong pos ps.toList = some cv → ∃ c, cv = .ref c ∧ H c = some (CodeO c q)) :
    ExtN H (upd (upd H P (.tbl (ps ++ #[rawInt pos.line, rawInt pos.col, .ref c]))) c (CodeO c q)) ∧ Tabs T (upd (upd H P (.tbl (ps ++ #[rawInt pos.line, rawInt pos.col, .ref c]))) c (CodeO c q)) := by
  have nPc : P ≠ c := ne_of_none hP hc
  have up : ∀ (b : Addr) (o : HO), H b = some o → b ≠ P → upd (upd H P (.tbl (ps ++ #[rawInt pos.line, rawInt pos.col, .ref c]))) c (CodeO c q) b = some o := by
    intro b o e nb
    rw [upd_ne (ne_of_none e hc), upd_ne nb]
    exact e
  have notP : ∀ (b : Addr) (o : HO), H b = some o → (∀ r, o ≠ .tbl r) → b ≠ P := by
    intro b o e n z
    subst z
    rw [hP] at e
    exact n _ (Option.some.inj e).symm
  refine ⟨fun b o e n => up b o e (notP b o e n), fun p hp => ?_⟩
  by_cases hb : p.1 = P
  · rw [hb, hu p hp hb]
    have eL : (ps ++ #[rawInt pos.line, rawInt pos.col, .ref c]).toList = ps.toList ++ [rawInt pos.line, rawInt pos.col, .ref c] := by simp
    refine ⟨_, by rw [upd_ne nPc, upd_same], ?_, ?_⟩
    · rw [eL]
      exact PySem.TriplesOk_snoc _ _ _ _ ht
    · intro p' cv hcv
      rw [eL] at hcv
      rcases among_app _ ht hcv with z | z
      · obtain ⟨c0, e1, e2⟩ := ha p' cv z
        exact ⟨c0, e1, up _ _ e2 (notP _ _ e2 codeO_ne)⟩
      · exact ⟨c, z, upd_same⟩
  · obtain ⟨r, a1, a2, a3⟩ := hT p hp
    refine ⟨r, up _ _ a1 hb, a2, ?_⟩
    intro p' cv hcv
    obtain ⟨c0, e1, e2⟩ := a3 p' cv hcv
    exact ⟨c0, e1, up _ _ e2 (notP _ _ e2 codeO_ne)⟩
end
/-- the reading of a lambda as a value -/
def tLamV (T : List (Addr × Str)) (q : Str) (pr : Arguments) (bd : Expr) (sc : Scope) (cl : List (Str × Addr)) : TE := fun _ H Q => Tabs T H ∧ ∀ (f c : Addr) (H1 : Hp), ExtN H H1 → Tabs T H1 → H1 f = none → H1 c = some (CodeO c q) → Q (.ref f) (upd H1 f (LamO f q pr bd sc cl c))
section
variable {X : Cx}
theorem pe_lamV {T : List (Addr × Str)} {c P : Addr} {pr : Arguments} {bd : Expr} {sc : Scope} {pos : Pos} (TB : TabB X.base X.mg c P) (hcode : X.env.code = .ref c) (hm : (P, X.env.qual ++ "<lambda>") ∈ T) (hu : ∀ p ∈ T, p.1 = P → p.2 = X.env.qual ++ "<lambda>")
    (hdef : defaultsOf pr X.env = ([], [])) (L : LamS X.env.scope sc) : PE X (.Lambda pr bd sc pos) (tLamV T (X.env.qual ++ "<lambda>") pr bd sc (cloFrom X.env.cells sc.names [])) := by
  refine ⟨fun pins s σ H Q I h => ?_⟩
  obtain ⟨hT, h⟩ := h
  obtain ⟨ps, hP, ht, ha⟩ := hT _ hm
  have bP := TB.bm.keeps I.bk
  have hP' : s.heap.get? P = some { cls := .none, data := .fields ps } := I.hok P _ hP
  refine PySem.W.kla_eval hdef ?_
  cases hc : codeAmong pos ps.toList with
  | none =>
    refine PySem.W.kla_makeFunction (mg := X.mg) (c := c) (P := P) (ps := ps) (closure_ok (L.has I.ok)) I.ok.glob (I.mod.glob.keeps I.bk) hcode (TB.code.keeps I.bk) hP' ht hc TB.gP bP ?_
    intro c' ctv h' tk hx hge hlt hrec htb
    obtain ⟨c2, oc, vs, t, e2, hoc, hd, hv⟩ := hrec
    cases e2
    have nC : H c' = none := I.hok.fresh hge
    obtain ⟨x1, x2⟩ := tabs_more (pos := pos) hT hP ht nC hu ha
    have I0 := inv_table (q := X.env.qual ++ "<lambda>") (t' := tk) (more := #[rawInt pos.line, rawInt pos.col, .ref c']) I hP (fun b o hb e => hx b o hb e) htb hge ⟨oc, vs, t, hoc, hd, hv⟩
    have fr : (upd (upd H P (.tbl (ps ++ #[rawInt pos.line, rawInt pos.col, .ref c']))) c' (CodeO c' (X.env.qual ++ "<lambda>"))) h'.objs.size = none := I0.hok.fresh (Nat.le_refl _)
    exact ⟨.ref h'.objs.size, _, lam_known (t' := tk) (pm := (X.mg "__name__").getD .none) (ctv := ctv) I0, rfl, h h'.objs.size c' _ x1 x2 fr upd_same⟩
  | some cv =>
    obtain ⟨c', e, hco⟩ := ha pos cv hc
    subst e
    refine PySem.W.kla_makeFunctionHit (mg := X.mg) (c := c) (P := P) (ps := ps) (closure_ok (L.has I.ok)) I.ok.glob (I.mod.glob.keeps I.bk) hcode (TB.code.keeps I.bk) hP' ht hc bP ?_
    intro ctv h' tk hx hsz
    have I0 : Inv X pins σ H { s with heap := h', toks := tk } := I.kept hx
    exact ⟨.ref h'.objs.size, _, lam_known (t' := tk) (pm := (X.mg "__name__").getD .none) (ctv := ctv) I0, rfl, h h'.objs.size c' _ (ExtN.refl H) hT (I0.hok.fresh (Nat.le_refl _)) hco⟩
/-! ### handed by a name -/
/-- what the def that calls it does, the lambda told too -/
def GivesV (X : Cx) (Ng : List Str) (x : Str) (sg : Scope) (g : Addr) (cdg : Value) (bg : List Stmt) (a : Str) (q : Str) (L : Addr → Addr → HO) (TT : (XK → Hp → VK → Prop) → Hp → VK → Prop) : Prop :=
  ∀ (f c' : Addr) (s : Shared) (H : Hp) (Q : VK) (tl : XK → Hp → VK → Prop),
    (∀ (W : WX) (pn : List (Addr × Obj)) (xe : Value → Shared → Prop) (E : XK) (p1 p2 : Pos), Takes ((cxOf C8.CX0 X.prog X.w X.K X.mg X.base Ng x sg g cdg X.A X.stack s H C8.E0).tr pn xe) W → (∀ cls d σ' H', E cls d H' → W cls d σ' H') →
      PE ((cxOf C8.CX0 X.prog X.w X.K X.mg X.base Ng x sg g cdg X.A X.stack s H C8.E0).tr pn xe) (.Call (.Name a p1) [] [] p2) (fun σZ HZ Q => σZ[0]? = some (some (.ref f)) ∧ HZ f = some (L f c') ∧ HZ c' = some (CodeO c' q) ∧ tl E HZ Q)) →
    H f = some (L f c') → H c' = some (CodeO c' q) → TT tl H Q →
    ∃ t, PSs (cxOf C8.CX0 X.prog X.w X.K X.mg X.base Ng x sg g cdg X.A X.stack s H C8.E0).nox bg t ∧ t { nx := fun _ H' => Q .non H', rt := Q } (L2.start Ng [.ref f]) H
theorem caught_givesV {q : Str} {sg : Scope} {g W : Addr} {cdg : Value} {L : Addr → Addr → HO} {j1 : Nat} {p1 p2 p3 p4 p5 p6 p7 p8 p9 p10 p11 p12 p13 p14 : Pos}
    (hge : sg.names.lookup ("WaitError" : Str) = some .globalImplicit) (hme : X.mg "WaitError" = some (.ref W)) (hl0 : sg.names.lookup ("work" : Str) = some .local) (hl1 : sg.names.lookup ("caught" : Str) = some .local) (hl2 : sg.names.lookup ("error" : Str) = some .local) :
    GivesV X nCaught "_law_caught" sg g cdg [.Assign [.Name "caught" p1] (.Constant .none j1 p2) p3,
      .Try [.Expr (.Call (.Name "work" p4) [] [] p5) p6] [.ExceptHandler (some (.Name "WaitError" p7)) (some "error") [.Assign [.Name "caught" p8] (.Name "error" p9) p10] p11] [] [] p12,
      .Return (some (.Name "caught" p13)) p14] "work" q L (TTc X.K W) := by
  intro f c' s H Q tl act hf hc h
  have nd : nCaught.Nodup := by decide +kernel
  refine ⟨_, pss_cons (ps_set (i := 1) nd rfl (Or.inl hl1) pe_non)
    (pss_cons (ps_try_err (X := (cxOf C8.CX0 X.prog X.w X.K X.mg X.base nCaught "_law_caught" sg g cdg X.A X.stack s H C8.E0).nox) (c := .ref W) (i := 2)
        (tb := fun W' D σ H => ∃ Ech : XK, (∀ cls d σ' H', Ech cls d H' → W' cls d σ' H') ∧ σ[0]? = some (some (.ref f)) ∧ H f = some (L f c') ∧ H c' = some (LamX.CodeO c' q) ∧ tl Ech H (fun _ H' => D.nx σ H'))
        rfl rfl rfl nd rfl hl2 ⟨hge, by decide, .inl hme⟩ (fun W' pn xe tk => ?_) (fun a pn => pss_one (ps_set (i := 1) nd rfl (Or.inl hl1) (pe_var (i := 2) rfl (Or.inl hl2)))))
    (pss_one (ps_ret (pe_var (i := 1) rfl (Or.inl hl1))))), ?_⟩
  · refine ⟨fun pins s' σ H' D I h' => ?_⟩
    obtain ⟨Ech, hW, h1, h0, h2, h3⟩ := h'
    exact (pss_one (ps_expr (pos := p6) (act W' pn xe Ech p4 p5 tk hW))).run pins s' σ H' D I ⟨h1, h0, h2, h3⟩
  · refine ⟨_, fun cls d σ' H' h' => ?_, rfl, hf, hc, h⟩
    obtain ⟨e1, e2⟩ := h'
    refine ⟨e1, fun hl a ha => ?_⟩
    match σ', hl with
    | [x0, x1, x2], _ => exact ⟨.ref a, rfl, .ref a, rfl, e2 a ha⟩
/-- a(), a lambda that is told by the heap -/
theorem pe_actV {CXg : CXT} {Eg : XK} {Ng : List Str} {qg : Str} {sg : Scope} {g f c' : Addr} {cdg : Value} {pr : Arguments} {bd : Expr} {sc : Scope} {k i : Nat} {a : Str} {pn : List (Addr × Obj)} {xe : Value → Shared → Prop} {W : WX} {E : XK} {tb : TE} {p1 p2 : Pos}
    {pins : List (Addr × Obj)} {σ : L2.St} {H : Hp} {s : Shared} (I : Inv X pins σ H s) (L : LamS X.env.scope sc)
    (hbind : ∀ (q : Str) (cl : List (Str × Addr)) (pm cv ctv : Value), bindArgs (PySem.W.kla_fn "<lambda>" q pr bd sc cl pm cv ctv) ⟨[], []⟩ = pure [])
    (tk : Takes ((cxOf CXg X.prog X.w X.K X.mg X.base Ng qg sg g cdg X.A X.stack s H Eg).tr pn xe) W) (hW : ∀ cls d σ' H', E cls d H' → W cls d σ' H') (hr : Room (k + 1) (X.A.deeper (envOfC qg sg s.heap.objs.size g cdg)))
    (hbody : ∀ (A : Around) (outer : List Env) (s : Shared) (H : Hp), Room k (A.deeper (lamEnv X sc s.heap.objs.size f c')) → PE (lamCx X A outer s H E sc f c') bd tb)
    (hN : Ng[i]? = some a) (hv : Vis sg a) (hd : (a == ("__debug__" : Str)) = false := by decide) (hcd : (a == ("__classdict__" : Str)) = false := by decide) :
    PE ((cxOf CXg X.prog X.w X.K X.mg X.base Ng qg sg g cdg X.A X.stack s H Eg).tr pn xe) (.Call (.Name a p1) [] [] p2)
      (fun σZ HZ Q => σZ[i]? = some (some (.ref f)) ∧ HZ f = some (LamO f (X.env.qual ++ "<lambda>") pr bd sc (cloFrom X.env.cells sc.names []) c') ∧ HZ c' = some (CodeO c' (X.env.qual ++ "<lambda>")) ∧ tb σ HZ Q) := by
  refine ⟨fun pinsZ sZ σZ HZ Q IZ h => ?_⟩
  obtain ⟨hs, hf, hc, ht⟩ := h
  refine wpAny_Call_Name_kw (thn ((pe_var (pos := p1) (i := i) hN hv hd hcd).run pinsZ sZ σZ HZ (fun v H1 => v = .ref f ∧ H1 = HZ) IZ ⟨.ref f, hs, rfl, rfl⟩) ?_)
  rintro u s1 ⟨v, H1, I1, r1, rfl, rfl⟩
  obtain rfl : u = Value.ref f := r1
  obtain ⟨⟨pm, ctv, of1⟩, _, _⟩ := I1.hok f _ hf
  refine PySem.W.callWith_F0 ⟨_, _, _, _, of1⟩ ?_
  have un : Un (frs X.stack) [] H H1 s.heap s1.heap := I1.base
  obtain ⟨⟨oc, vs, t, hoc, hdc, hvc⟩, _, _⟩ := I1.hok c' _ hc
  have rc : codeAny (model X.prog X.w) (X.A.deeper (envOfC qg sg s.heap.objs.size g cdg)) (.call (.ref f) ⟨[], []⟩) (CR (L2.CX X.prog X.w) (envOfC qg sg s.heap.objs.size g cdg :: X.stack) X.prog X.w H1 s1 Q E) s1 := by
    refine PySem.W.kla_callFunE hr.depth of1 rfl L.co L.gen rfl ⟨c', oc, vs, t, rfl, hoc, hdc, hvc⟩ ?_
    rw [hbind]
    refine wpAny_pure (wpAny_newFunctionEnv (fun y hy => (L.own y hy).2) (fun y hy => absurd hy (by simp)) ?_ L.kind)
    intro h₁ hns hsb
    refine ⟨I1.nolimit.fresh _ hsb, ?_⟩
    have kp : ∀ b o, s1.heap.get? b = some o → h₁.get? b = some o := by
      intro b o e
      exact hsb.extBut b o (Nat.ne_of_lt (Heap.lt_size e)) (Heap.get?_push_of_some _ e)
    have J := lam_start2 (E := E) (f := f) (c' := c') (tk := s1.toks + ([] : List (Str × Value)).length) I L I1.env0 hr.hd un hns kp
    refine PySem.W.kla_codeExpr (wpAny_mono ((hbody _ _ s1 H1 (hr.deeper _)).run [] _ _ H1 Q J ht) ?_ fun e s' hq => hq)
    rintro v s' ⟨w', H', J', rv, q⟩
    exact ⟨w', H', J'.os, J'.bare, J'.base, J'.hok, rv, q⟩
  have hx := passes_call tk hW
  refine wpAny_call (codeAny_mono rc ?_)
  intro r s' hq
  cases r with
  | error e => exact hx pinsZ σZ H1 s1 e s' I1 hq
  | ok fl =>
    cases fl with
    | ret u => exact I1.after hq
    | next => exact False.elim hq
    | brk => exact False.elim hq
    | cont => exact False.elim hq
def tHand (ta : TA) (TT : (XK → Hp → VK → Prop) → Hp → VK → Prop) (q : Str) (L : Addr → Addr → HO) (t : XK → TE) : TE := fun σ H Q => ta σ H fun vs H1 => ∃ f c : Addr, vs = [.ref f] ∧ H1 f = some (L f c) ∧ H1 c = some (CodeO c q) ∧ TT (fun E H' Q' => t E σ H' Q') H1 Q
/-- x(e), e a lambda that is told by the heap -/
theorem pe_hand {TT : (XK → Hp → VK → Prop) → Hp → VK → Prop} {x a : Str} {g : Addr} {k : Nat} {pg : Arguments} {bg : List Stmt} {sg : Scope} {dV kV doc pm cdv ct oc : Value} {an od : Option Addr} {osl : Array (Option Value)} {Ng : List Str}
    {pr : Arguments} {bd e : Expr} {sc : Scope} {t : XK → TE} {ta : TA} {p pos : Pos} (hg : Gl X x) (hm : X.mg x = some (.ref g)) (hk : PySem.W.keepIn X.K (.ref g) = true)
    (lk : X.K.lookup g = some ⟨oc, od, .func (PySem.W.fnOf x x pg bg sg dV kV doc pm an cdv ct), osl⟩) (hcg : PySem.W.codeIn X.K cdv x = true) (hb : L2.Binds X.K (PySem.W.fnOf x x pg bg sg dV kV doc pm an cdv ct) [a] []) (Sg : FnScope Ng [a] sg) (hNg : Ng[0]? = some a) (hva : Vis sg a)
    (hG : GivesV X Ng x sg g cdv bg a (X.env.qual ++ "<lambda>") (fun f c => LamO f (X.env.qual ++ "<lambda>") pr bd sc (cloFrom X.env.cells sc.names []) c) TT)
    (ha : PA X [e] ta) (hr : Room (k + 2) X.A) (L : LamS X.env.scope sc)
    (hbind : ∀ (q : Str) (cl : List (Str × Addr)) (pm cv ctv : Value), bindArgs (PySem.W.kla_fn "<lambda>" q pr bd sc cl pm cv ctv) ⟨[], []⟩ = pure [])
    (hbody : ∀ (A : Around) (outer : List Env) (s : Shared) (H : Hp) (E : XK) (f c' : Addr), Room k (A.deeper (lamEnv X sc s.heap.objs.size f c')) → PE (lamCx X A outer s H E sc f c') bd (t E))
    (hdb : (x == ("__debug__" : Str)) = false := by decide) (hd : (a == ("__debug__" : Str)) = false := by decide) (hcd : (a == ("__classdict__" : Str)) = false := by decide)
    (he : starEach [e] X.env = (false, eval e X.env) :: starEach [] X.env := by rfl) (hpl : (backTo pos (starEach [] X.env)).any (·.1) = false := by rfl) :
    PE X (.Call (.Name x p) [e] [] pos) (tHand ta TT (X.env.qual ++ "<lambda>") (fun f c => LamO f (X.env.qual ++ "<lambda>") pr bd sc (cloFrom X.env.cells sc.names []) c) t) := by
  refine ⟨fun pins s σ H Q I h => ?_⟩
  refine wpAny_Call_Name_kw (ld_glob I hg hm ?_ hdb)
  refine PySem.W.callWith_K (h₀ := X.base) I.ok.mod.kin hk (thn (ha.run pos pins s σ H _ I h) ?_) he hpl
  rintro us s1 ⟨vs, H1, I1, r, f, c', rfl, hf, hco, hq⟩
  refine ⟨I1.kIn, ?_⟩
  obtain ⟨u, rfl, ru⟩ := vals1 r
  obtain rfl : u = Value.ref f := ru
  have rc : codeAny (model X.prog X.w) X.A (.call (.ref g) ⟨[.ref f], []⟩) (CR C8.CX0 X.stack X.prog X.w H1 s1 Q C8.E0) s1 := by
    refine run_ofS (N := Ng) (ps := [a]) (us := [.ref f]) (vs := [.ref f]) lk hcg Sg hr I1.env0 (hb s1 [.ref f] I1.kIn rfl) (.cons rfl .nil) rfl ?_
    intro hr'
    obtain ⟨t', ht', hq'⟩ := hG f c' s1 H1 Q (fun E H' Q' => t E σ H' Q') (fun W pn xe E p1 p2 tk hW => pe_actV (i := 0) I1 L hbind tk hW hr' (fun A outer s H hr2 => hbody A outer s H E f c' hr2) hNg hva hd hcd) hf hco hq
    exact ⟨t', ht'.nox, hq'⟩
  refine wpAny_call (codeAny_mono rc ?_)
  intro r s2 hq
  cases r with
  | error e => exact (show False from hq).elim
  | ok fl =>
    cases fl with
    | ret u => exact I1.after hq
    | next => exact False.elim hq
    | brk => exact False.elim hq
    | cont => exact False.elim hq
theorem pe_either {e : Expr} {t u : TE} (h1 : PE X e t) (h2 : PE X e u) : PE X e (fun σ H Q => t σ H Q ∨ u σ H Q) := by
  refine ⟨fun pins s σ H Q I h => ?_⟩
  rcases h with h | h
  · exact h1.run pins s σ H Q I h
  · exact h2.run pins s σ H Q I h
/-! ### texts of numbers and None -/
def textV : V → Str
  | .int i => toString i
  | _ => "None"
def rReprV : List V → Hp → VK → Prop := fun xs H Q => ∃ v, xs = [v] ∧ (v = .non ∨ ∃ i : Int, v = .int i ∧ i.natAbs.log2 < 1920) ∧ Q (.str (textV v)) H
theorem call_reprV : CallR X (.builtin "repr") rReprV := by
  intro pins s σ H xs us Q I r h
  obtain ⟨v, rfl, h, q⟩ := h
  rcases h with rfl | ⟨i, rfl, hi⟩
  · obtain ⟨u, rfl, ru⟩ := vals1 r
    obtain rfl : u = Value.none := ru
    exact PySem.P.repr_of_none ⟨.str _, H, I.tok _, ⟨_, rfl⟩, q⟩
  · exact SkE.call_repr_int pins s σ H _ us Q I r ⟨i, rfl, hi, q⟩
end
end WV
end

section
set_option Elab.async false
set_option linter.all false
set_option maxRecDepth 100000
set_option maxHeartbeats 4000000
/-! a def that is called by its name, in one word -/
namespace WC
open PySem PySem.Spec PyProof.Rows L2
structure Cal (P : Program) (w : World) (K : PySem.W.Frag) (mg : Str → Option Value) (base : Heap) (CX : CXT) (k : Nat) (x : Str) (ps : List Str) (sp : Sp) : Prop where
  ex : ∃ f fd, FnOk P w K mg base CX k f fd ps sp ∧ PySem.W.keepIn K (.ref f) = true ∧ Binds K fd ps [] ∧ mg x = some (.ref f)
/-- .. by keywords alone -/
structure CalK (P : Program) (w : World) (K : PySem.W.Frag) (mg : Str → Option Value) (base : Heap) (CX : CXT) (k : Nat) (x : Str) (ps ks : List Str) (g : List Value → List Value → List Value) (gV : List V → List V → List V) (sp : Sp) : Prop where
  ex : ∃ f fd, FnOk P w K mg base CX k f fd ps sp ∧ PySem.W.keepIn K (.ref f) = true ∧ KBinds K fd ps ks g gV ∧ mg x = some (.ref f)
/-- .. under no guard -/
structure CalG (P : Program) (w : World) (K : PySem.W.Frag) (mg : Str → Option Value) (base : Heap) (CX : CXT) (k : Nat) (x : Str) (ps : List Str) (sp : Sp) : Prop where
  ex : ∃ f fd, WG.FnG P w K mg base CX k f fd ps sp ∧ PySem.W.keepIn K (.ref f) = true ∧ Binds K fd ps [] ∧ mg x = some (.ref f)
section
variable {X : Cx} {CX : CXT} {k : Nat} {ps ks : List Str} {sp : Sp} {x : Str} {p pos : Pos} {e : Expr} {es : List Expr} {t tk : TA} {E : XK} {kws : List Keyword} {g : List Value → List Value → List Value} {gV : List V → List V → List V}
theorem pe_callC (c : Cal X.prog X.w X.K X.mg X.base CX k x ps sp) (hr : Room k X.A) (hg : Gl X x) (hx : Passes CX X E)
    (ha : PA X (e :: es) t) (hdb : (x == ("__debug__" : Str)) = false := by decide) (he : starEach (e :: es) X.env = (false, eval e X.env) :: starEach es X.env := by rfl) (hpl : (backTo pos (starEach es X.env)).any (·.1) = false := by rfl) :
    PE X (.Call (.Name x p) (e :: es) [] pos) (tCall sp [] E t) := by
  obtain ⟨f, fd, G, kp, b, m⟩ := c.ex
  exact pe_call G hr hg m kp b .nil hx ha hdb he hpl
theorem pe_callC0 (c : Cal X.prog X.w X.K X.mg X.base CX k x ps sp) (hr : Room k X.A) (hg : Gl X x) (hx : Passes CX X E) (hdb : (x == ("__debug__" : Str)) = false := by decide) :
    PE X (.Call (.Name x p) [] [] pos) (tCall sp [] E tNil) := by
  obtain ⟨f, fd, G, kp, b, m⟩ := c.ex
  exact pe_call0 G hr hg m kp b .nil hx hdb
theorem pe_callKC (c : CalK X.prog X.w X.K X.mg X.base CX k x ps ks g gV sp) (hr : Room k X.A) (hg : Gl X x) (hx : Passes CX X E)
    (hkw : PK X kws tk) (hall : (backToKw pos (keywordEach kws X.env)).all (·.1.isSome) = true := by rfl) (hks : (backToKw pos (keywordEach kws X.env)).filterMap (·.1) = ks := by rfl)
    (hdb : (x == ("__debug__" : Str)) = false := by decide)
    (hpl : ((backTo pos (starEach [] X.env)).any (·.1) || (backToKw pos (keywordEach kws X.env)).any (·.1.isNone)) = false := by rfl) :
    PE X (.Call (.Name x p) [] kws pos) (tCallK sp gV E tNil tk) := by
  obtain ⟨f, fd, G, kp, b, m⟩ := c.ex
  exact WL.pe_callK0 G hr hg m kp b hx hkw hall hks hdb hpl
theorem pe_callCG (c : CalG X.prog X.w X.K X.mg X.base CX k x ps sp) (hgu : X.A.guards = some []) (hr : Room k X.A) (hg : Gl X x) (hx : Passes CX X E)
    (ha : PA X (e :: es) t) (hdb : (x == ("__debug__" : Str)) = false := by decide) (he : starEach (e :: es) X.env = (false, eval e X.env) :: starEach es X.env := by rfl) (hpl : (backTo pos (starEach es X.env)).any (·.1) = false := by rfl) :
    PE X (.Call (.Name x p) (e :: es) [] pos) (tCall sp [] E t) := by
  obtain ⟨f, fd, G, kp, b, m⟩ := c.ex
  exact WG.pe_callG G hgu hr hg m kp b .nil hx ha hdb he hpl
end
end WC
end

section
set_option Elab.async false
set_option linter.all false
set_option maxRecDepth 100000
set_option maxHeartbeats 4000000
namespace WW
open PySem L2 WO WG RZ WQ WT WC
abbrev sMadeC : Stmt := top 25
section
variable {P : Program} {w : World} {K : PySem.W.Frag} {mg : Str → Option Value} {base : Heap}
theorem make0 : MakeOk [V.int 0] 1 0 where
  st := ⟨by decide, by decide, fun i x h => by
      match i, h with
      | 0, h => cases h; exact .inr ⟨0, rfl, by decide, by decide⟩, fun i x y h h2 => by
      match i, h, h2 with
      | 0, _, h2 => cases h2⟩
  fo := .mkI [0] 1 0 (by decide) (by decide) (by decide) (by decide) (by decide)
  p1 := by decide
  p2 := by decide
  p3 := by decide
  g0 := by decide
  g1 := by decide
  fa := ⟨.int 0, .int 0, rfl, rfl, .inl ⟨0, 0, rfl, rfl, by decide⟩⟩
abbrev nMadeC : List Str := ["row", "period", "growth", "start", "step", "rise", "curve"]
theorem scMadeC : FnScope nMadeC ["row", "period", "growth"] (defScope sMadeC) := ⟨rfl, rfl, rfl, by decide +kernel, rfl, by decide +kernel, by decide +kernel⟩
def spMadeC (K : PySem.W.Frag) (C CT : Addr) : Sp := fun vs H Q E => ∃ (a : Addr) (xs : List V) (p : Nat) (g : Int), vs = [.ref a, .int p, .int g] ∧ H a = some (.lst xs) ∧ FormIn xs p g ∧
  (∀ (vals : List V) (q r : Int) (x : Addr) (H' : Hp), FormV xs p g vals q r → vals.length ≤ 4000 → H x = none → CurveAt H' C x vals q r → Same H H' → Q (.ref x) H') ∧
  (∀ (vals : List V) (q r : Int), FormV xs p g vals q r → 4000 < vals.length → ∀ d H', Raised H "most" (.int 4000) d H' → E (.ref CT) (some d) H')
theorem ok_madeC {f fI fE fT C CB CT : Addr} {fd dI dT : FuncData} (F : Fun K "made" "made" sMadeC f fd) (T : CurG mg) (MM : ∃ t, mg "MOST_MADE" = some (.int 4000 t)) (U : CurT K mg C fI fE) (B_TooMany : ErrT P w K mg base "TooMany" "most" CT fT dT)
    (GI : FnOk P w K mg base (L2.CX P w) 4 fI dI ["self", "start", "period", "growth"] (spInit K C CB)) (bI : Binds K dI ["self", "start", "period", "growth"] [])
    (c_frm : Cal P w K mg base CX0 2 "least_form" ["row", "period", "growth"] (spForm K)) :
    FnOk P w K mg base (L2.CX P w) 6 f fd ["row", "period", "growth"] (spMadeC K C CT) := by
  refine F.okX scMadeC (fun vs H Q E h => ?_) (fun cdv A outer s H vs Q E hr h => ?_)
  · obtain ⟨a, xs, p, g, rfl, _⟩ := h
    rfl
  · obtain ⟨a, xs, p, g, rfl, ha, fi, k1, k2⟩ := h
    obtain ⟨tmm, mMOST_MADE⟩ := MM
    refine ⟨_, (pss_cons (ps_asg (pe_callC c_frm (hr.mono (by decide)) rfl pass0 (pa_cons (pv 0) (pa_cons (pv 1) (pa_cons (pv 2) pa_nil)))) (pg_tup rfl (pgs_cons (pg_name (i := 3) scMadeC.nd rfl (Or.inl rfl)) (pgs_cons (pg_name (i := 4) scMadeC.nd rfl (Or.inl rfl)) (pgs_cons (pg_name (i := 5) scMadeC.nd rfl (Or.inl rfl)) pgs_nil)))))
 (pss_cons (ps_if (pt_cmpR op_gt (pe_callB call_len_seq (by rfl) T.len PySem.boot_len (pa_cons (pv 3) pa_nil)) (pe_glob (v := .int 4000) rfl mMOST_MADE ⟨_, rfl⟩) (nomark _)) (pss_one
 (ps_raise rfl (takes_of rfl rfl rfl rfl) (pmk_oex B_TooMany.ox B_TooMany.iC B_TooMany.tI B_TooMany.fn (hr.mono (by decide)) B_TooMany.bd .nil pass0 rfl B_TooMany.gC (pa_cons (pe_glob (v := .int 4000) rfl mMOST_MADE ⟨_, rfl⟩) pa_nil)))) pss_nil)
 (pss_cons (ps_set (i := 6) scMadeC.nd rfl (Or.inl rfl) (pe_make U.mkC GI (hr.mono (by decide)) rfl U.mC bI .nil (passX (E := E) (takes_of rfl rfl rfl rfl) fun _ _ _ _ h => h) (pa_cons (pe_tup (pa_cons pe_int pa_nil)) (pa_cons pe_int (pa_cons pe_int pa_nil)))))
 (pss_cons (ps_asg (pv 3) (pg_attr (pv 6)))
 (pss_cons (ps_asg (pv 4) (pg_attr (pv 6)))
 (pss_cons (ps_asg (pv 5) (pg_attr (pv 6)))
 (pss_one
 (ps_ret (pv 6))))))))), ?_⟩
    refine ⟨_, rfl, _, rfl, _, rfl, a, xs, p, g, rfl, ha, fi, fun vals q r t T' H1 fv ht hT s1 => ?_⟩
    refine ⟨T', _, rfl, SqT.of hT, rfl, _, _, rfl, _, _, rfl, _, _, rfl, rfl, ?_⟩
    by_cases c : vals.length ≤ 4000
    · refine ⟨_, rfl, t, _, rfl, .inr (SqT.of ht), _, _, rfl, rfl, false, bF (by omega), iteF ?_⟩
      refine ⟨(by show 1 ≤ sizeLine; decide), fun u hu => ?_⟩
      generalize g2 : upd H1 u _ = H2
      obtain ⟨s2, f2⟩ := alloc g2 hu
      refine fun x dx hx hdx ne => ?_
      generalize g3 : upd H2 dx _ = H3
      obtain ⟨s3, f3⟩ := alloc g3 hdx
      have hx3 : H3 x = none := by rw [← g3, upd_ne (Ne.symm ne)]; exact hx
      generalize g4 : upd H3 x _ = H4
      obtain ⟨s4, f4⟩ := alloc g4 hx3
      refine ⟨x, dx, _, _, _, rfl, f4, .inl ⟨u, _, 1, 0, rfl, rfl, rfl, .inr (SqT.of (s4 _ _ (s3 _ _ f2))), make0, fun vals0 q0 r0 H5 fv0 cu kp => ⟨rfl, ?_⟩⟩⟩
      have sx : ∀ (b : Addr) (o : HO), H2 b = some o → H5 b = some o := fun b o e => kp b o (s4 _ _ (s3 _ _ e)) (ne_of_none e hx)
      obtain ⟨dx', t', h1, h2⟩ := cu
      have ht5 : H5 t = some (.tup vals) := sx _ _ (s2 _ _ ht)
      have xt : x ≠ t := fun z => by rw [← z, h1] at ht5; cases ht5
      refine ⟨_, rfl, _, rfl, x, C, dx', _, rfl, h1, U.cl, U.nS, (by show 3 < 1000; decide), ?_⟩
      refine ⟨_, rfl, _, rfl, x, C, dx', _, rfl, upd_same, U.cl, U.nP, (by show 3 < 1000; decide), ?_⟩
      refine ⟨_, rfl, _, rfl, x, C, dx', _, rfl, upd_same, U.cl, U.nG, (by show 3 < 1000; decide), ?_⟩
      refine ⟨_, rfl, k1 vals q r x _ fv c (s1.free (s2.free hx)) ⟨dx', t, upd_same, by rw [upd_ne xt.symm, upd_ne xt.symm, upd_ne xt.symm]; exact ht5⟩ fun b o e => ?_⟩
      have e2 := s2 _ _ (s1 _ _ e)
      have bx : b ≠ x := ne_of_none e2 hx
      rw [upd_ne bx, upd_ne bx, upd_ne bx]
      exact sx _ _ e2
    · refine ⟨_, rfl, t, _, rfl, .inr (SqT.of ht), _, _, rfl, rfl, true, bT (by omega), iteT ?_⟩
      exact mkO_post B_TooMany fun d H' r' => k2 vals q r fv (by omega) d H' (Raised.same s1 r')
theorem flat_in {x : V} (hx : x = .non ∨ ∃ i : Int, x = .int i ∧ 0 ≤ i ∧ i ≤ 1000000000) : FormIn [x] 1 0 ∧ RowF [x] 1 0 (fun _ => x) := by
  rcases hx with rfl | ⟨i, rfl, i0, i1⟩
  · have e : (fun _ => V.non) = FN [] := by
      funext j
      rw [fn_high (Nat.zero_le _)]
    rw [e]
    exact ⟨.mkN [] 0 1 0 (by decide), .mkN [] 0 1 0⟩
  · have f1 := in_int (f := fun _ => i) (n := 1) (p := 1) (g := 0) (by decide) (by decide) (by decide) (by decide) (by decide)
    exact ⟨f1, row_int (f := fun _ => i) (n := 1) (p := 1) (g := 0) (by decide) (by decide) (by decide) (fun j _ => (Int.add_zero i).symm)⟩
/-- three numbers, one of them wrong: the first one's part -/
def Bad3 (K : PySem.W.Frag) (H : Hp) (x y z : V) (n1 : Str) (h1 : Int) (part : Str) : Prop :=
  (part = n1 ∧ badFrom K H x 0 h1) ∨ (part = "steps" ∧ (∃ i : Int, x = .int i ∧ 0 ≤ i ∧ i ≤ h1) ∧ badFrom K H y 0 1000000000) ∨
  (part = "beats" ∧ (∃ i : Int, x = .int i ∧ 0 ≤ i ∧ i ≤ h1) ∧ (∃ i : Int, y = .int i ∧ 0 ≤ i ∧ i ≤ 1000000000) ∧ badFrom K H z 1 60)
def lineF (b s : Int) (p : Nat) (j : Nat) : Int := if j = 0 then 0 else b + Int.fdiv (s * j) p
theorem line_qp {b s : Int} {p : Nat} (p0 : 0 < p) : MF.QP (lineF b s p) p s 1 := fun j hj => by
  unfold lineF
  rw [if_neg (by omega), if_neg (by omega)]
  have e : s * ((j + p : Nat) : Int) = s * (j : Int) + s * (p : Int) := by rw [Int.natCast_add, Int.mul_add]
  rw [e, Int.add_mul_fdiv_right _ _ (by omega)]
  omega
def lateF (w s : Int) (p : Nat) (j : Nat) : Int := if (j : Int) < w then 0 else Int.fdiv (s * (j - w)) p
theorem late_qp {n : Nat} {s : Int} {p : Nat} (p0 : 0 < p) : MF.QP (lateF n s p) p s n := fun j hj => by
  unfold lateF
  rw [if_neg (by omega), if_neg (by omega)]
  have e : s * (((j + p : Nat) : Int) - n) = s * ((j : Int) - n) + s * (p : Int) := by
    rw [← Int.mul_add]
    congr 1
    omega
  rw [e, Int.add_mul_fdiv_right _ _ (by omega)]
end
end WW
end

section
set_option Elab.async false
set_option linter.all false
set_option maxRecDepth 100000
set_option maxHeartbeats 4000000
/-! math.lcm; lists made with a test -/
namespace LM
open PySem PySem.Spec PyProof.Rows L2
section
variable {X : Cx}
def rLcm : List V → Hp → VK → Prop := fun vs H Q => ∃ a b : Nat, vs = [.int a, .int b] ∧ a < 2 ^ 60 ∧ b < 2 ^ 60 ∧ Q (.int ((Nat.lcm a b : Nat) : Int)) H
theorem cr_lcm : CallR X (.builtin "math.lcm") rLcm := by
  intro pins s σ H vs us Q I r h
  obtain ⟨a, b, rfl, ha, hb, q⟩ := h
  obtain ⟨t, u, rfl⟩ := Vals.int2 r
  refine PySem.W.mc_lcm (by rw [Int.natAbs_natCast]; omega) (by rw [Int.natAbs_natCast]; omega) fun _ => ⟨.int _, H, I.tok _, ⟨_, rfl⟩, ?_⟩
  rw [Int.natAbs_natCast, Int.natAbs_natCast]
  exact q
end
section
variable {J : It} {n : Nat} {G : Hp → Prop} {Y : Nat → Hp → V → Hp → Prop}
/-- [e for .. in .. if t]: t of i is p i, each item F i -/
theorem lcF (w : Walk J n G Y) {g : TG} {tt : TT} {te : TE} {vs : List Nat} {σ : L2.St} {H1 : Hp} {D : Addr} {Qd : Hp → Prop} (p : Nat → Bool) (F : Nat → V) (hD : H1 D = none) (hn : n ≤ 200000) (hG : ∀ H, Same H1 H → G H)
    (hs : ∀ i x H H', i < n → Same H1 H → Y i H x H' → ∀ (R : V → Hp → Prop) (N : Hp → Prop), (p i = true → ∀ H4, Same H H4 → R (F i) H4) → (p i = false → ∀ H4, Same H H4 → N H4) → g x (wipe σ vs) H' fun σ2 H2 => wipe σ2 vs = wipe σ vs ∧ tt σ2 H2 fun b H3 => if b = true then te σ2 H3 R else N H3)
    (hd : ∀ H, H D = some (.lst (((List.range n).filter p).map F)) → Same H1 H → Qd H) :
    ∃ W : Nat → Nat → Hp → Prop, (∃ m, W 0 m (upd H1 D (.lst []))) ∧ ∀ i m H, W i m H →
      (J.stop i H ∧ Qd H) ∨ (J.go i H ∧ ∃ Nx : Hp → Prop, (∀ H', Nx H' → ∃ m', m' < m ∧ W (i + 1) m' H') ∧ ∀ x H', J.yld i H x H' → g x (wipe σ vs) H' fun σ2 H2 => wipe σ2 vs = wipe σ vs ∧ tt σ2 H2 fun b H3 =>
        if b = true then te σ2 H3 fun y H4 => ∃ acc, H4 D = some (.lst acc) ∧ acc.length < sizeLine ∧ Nx (upd H4 D (.lst (acc ++ [y]))) else Nx H3) := by
  refine lc_it w (fun i H => H D = some (.lst (((List.range i).filter p).map F)) ∧ Same H1 H) ⟨upd_same, sNew hD⟩ (fun i H _ h => hG H h.2) (fun i x H H' hi ⟨d, s⟩ y => ?_) (fun H ⟨d, s⟩ => hd H d s)
  refine hs i x H H' hi s y _ _ (fun hp H4 s4 => ⟨_, s4 _ _ d, ?_, ?_, sPut hD (Same.trans s s4)⟩) (fun hp H4 s4 => ⟨?_, Same.trans s s4⟩)
  · rw [List.length_map]
    refine Nat.lt_of_le_of_lt (List.length_filter_le ..) ?_
    rw [List.length_range]
    exact Nat.lt_of_lt_of_le (show i < 200001 by omega) (by decide)
  · rw [List.range_succ, List.filter_append, List.map_append]
    simp only [List.filter_cons, hp, List.filter_nil, if_true, List.map_cons, List.map_nil]
    exact upd_same
  · rw [List.range_succ, List.filter_append, List.map_append]
    simp only [List.filter_cons, hp, List.filter_nil, Bool.false_eq_true, if_false, List.map_nil, List.append_nil]
    exact s4 _ _ d
end
end LM
namespace MF
/-! ### the first place at which one is above the other -/
/-- the least number of a range -/
theorem least_below {P : Nat → Prop} [DecidablePred P] {n : Nat} (h : ∃ j, j < n ∧ P j) : ∃ t, t < n ∧ P t ∧ ∀ j, j < t → ¬ P j := by
  induction n with
  | zero => obtain ⟨j, h, _⟩ := h; omega
  | succ n ih =>
    by_cases c : ∃ j, j < n ∧ P j
    · obtain ⟨t, h1, h2, h3⟩ := ih c
      exact ⟨t, by omega, h2, h3⟩
    · obtain ⟨j, h1, h2⟩ := h
      have : j = n := Classical.byContradiction fun z => c ⟨j, by omega, h2⟩
      subst this
      exact ⟨j, by omega, h2, fun i hi hp => c ⟨i, hi, hp⟩⟩
theorem dec_add {s j c : Nat} (s0 : 0 < s) (h : c ≤ j) : ∃ k i, j = c + i + k * s ∧ i < s := by
  refine ⟨(j - c) / s, (j - c) % s, ?_, Nat.mod_lt _ s0⟩
  have := Nat.mod_add_div (j - c) s
  rw [Nat.mul_comm] at this
  omega
/-- a difference that goes on by a period: spare is g - f -/
theorem never_neg {d : Nat → Int} {s c : Nat} {G : Int} (s0 : 0 < s) (Q : QP d s (-G) c) (h : ∀ j, j < c + s → 0 ≤ d j) (hG : G ≤ 0) : ∀ j, 0 ≤ d j := fun j => by
  by_cases l : j < c
  · exact h j (by omega)
  · obtain ⟨k, i, e, hi⟩ := dec_add s0 (show c ≤ j by omega)
    have m := Q.mul (j := c + i) (by omega) k
    rw [← e] at m
    have h0 := h (c + i) (by omega)
    have : 0 ≤ (k : Int) * (-G) := Int.mul_nonneg (by omega) (by omega)
    omega
theorem first_neg {d : Nat → Int} {s c : Nat} {G : Int} (s0 : 0 < s) (Q : QP d s (-G) c) (h : ∀ j, j < c + s → 0 ≤ d j) (hG : 0 < G) {m : Int} (m0 : ∃ i, i < s ∧ d (c + i) = m) (m1 : ∀ i, i < s → m ≤ d (c + i)) :
    ∃ t, t < s ∧ d (c + t) < (m / G + 1) * G ∧ ∀ j, j < t → (m / G + 1) * G ≤ d (c + j) := by
  obtain ⟨i, hi, e⟩ := m0
  have h0 : 0 ≤ m := by rw [← e]; exact h _ (by omega)
  have dm := Int.emod_add_mul_ediv m G
  have ml := Int.emod_lt_of_pos m hG
  have hx : m < (m / G + 1) * G := by
    have : (m / G + 1) * G = G * (m / G) + G := by rw [Int.add_mul, Int.one_mul, Int.mul_comm]
    omega
  obtain ⟨t, h1, h2, h3⟩ := least_below (P := fun j => d (c + j) < (m / G + 1) * G) (n := s) ⟨i, hi, by rw [e]; exact hx⟩
  exact ⟨t, h1, h2, fun j hj => Int.not_lt.mp (h3 j hj)⟩
theorem first_is {d : Nat → Int} {s c : Nat} {G : Int} (s0 : 0 < s) (Q : QP d s (-G) c) (h : ∀ j, j < c + s → 0 ≤ d j) (hG : 0 < G) {m : Int} (h0 : 0 ≤ m) (m1 : ∀ i, i < s → m ≤ d (c + i)) {t : Nat} (ht : t < s) (h2 : d (c + t) < (m / G + 1) * G) (h3 : ∀ j, j < t → (m / G + 1) * G ≤ d (c + j)) :
    d (c + t + (m / G + 1).toNat * s) < 0 ∧ ∀ j, j < c + t + (m / G + 1).toNat * s → 0 ≤ d j := by
  have r0 : 0 ≤ m / G := Int.ediv_nonneg h0 (by omega)
  have er : ((m / G + 1).toNat : Int) = m / G + 1 := by omega
  have mlow : (m / G) * G ≤ m := by rw [Int.mul_comm]; have := Int.emod_add_mul_ediv m G; have := Int.emod_nonneg m (show G ≠ 0 by omega); omega
  generalize hR : (m / G + 1).toNat = R at *
  have neg : ∀ k : Nat, (k : Int) * (-G) = -((k : Int) * G) := fun k => Int.mul_neg ..
  refine ⟨?_, fun j hj => ?_⟩
  · rw [Q.mul (j := c + t) (by omega) R, neg, er]
    omega
  · by_cases l : j < c
    · exact h j (by omega)
    · obtain ⟨k, i, e, hi⟩ := dec_add s0 (show c ≤ j by omega)
      have mm := Q.mul (j := c + i) (by omega) k
      rw [← e, neg] at mm
      rcases Nat.lt_or_ge k R with c1 | c1
      · have a := m1 i hi
        have b : (k : Int) * G ≤ (m / G) * G := Int.mul_le_mul_of_nonneg_right (by omega) (by omega)
        omega
      · rcases Nat.lt_or_ge R k with c2 | c2
        · exfalso
          have : (R + 1) * s ≤ k * s := Nat.mul_le_mul_right _ c2
          rw [Nat.succ_mul] at this
          omega
        · have : k = R := by omega
          subst this
          have a := h3 i (by omega)
          rw [er] at mm
          omega
/-- one above is seen ahead of some bound -/
theorem seen {d : Nat → Int} {s c : Nat} {G gap : Int} (s0 : 0 < s) (Q : QP d s G c) (g0 : ∀ j, j < c + s → -gap ≤ d j) (p0 : 0 ≤ gap) {j : Nat} (hj : 0 < d j) :
    ∃ t, 0 < d t ∧ t < c + s + (if 0 < G then s * (gap / G + 1).toNat else 0) := by
  by_cases l : j < c + s
  · exact ⟨j, hj, by omega⟩
  · obtain ⟨k, i, e, hi⟩ := dec_add s0 (show c ≤ j by omega)
    have mm := Q.mul (j := c + i) (by omega) k
    rw [← e] at mm
    by_cases hG : 0 < G
    · rw [if_pos hG]
      refine ⟨c + i + (gap / G + 1).toNat * s, ?_, ?_⟩
      · rw [Q.mul (j := c + i) (by omega)]
        have r0 : 0 ≤ gap / G := Int.ediv_nonneg p0 (by omega)
        have er : ((gap / G + 1).toNat : Int) = gap / G + 1 := by omega
        rw [er]
        have a := g0 (c + i) (by omega)
        have dm := Int.emod_add_mul_ediv gap G
        have ml := Int.emod_lt_of_pos gap hG
        have : (gap / G + 1) * G = G * (gap / G) + G := by rw [Int.add_mul, Int.one_mul, Int.mul_comm]
        omega
      · rw [Nat.mul_comm s]
        omega
    · rw [if_neg hG]
      refine ⟨c + i, ?_, by omega⟩
      have : (k : Int) * G ≤ 0 := Int.mul_nonpos_of_nonneg_of_nonpos (by omega) (by omega)
      omega
theorem QP.to {f : Nat → Int} {q : Nat} {r : Int} {b c : Nat} (h : QP f q r b) (l : b ≤ c) : QP f q r c := fun j hj => h j (by omega)
theorem QP.up {f : Nat → Int} {q : Nat} {r : Int} {b : Nat} (h : QP f q r b) (k : Nat) : QP f (k * q) (k * r) b := fun j hj => h.mul hj k
theorem QP.sub {f g : Nat → Int} {q : Nat} {r r' : Int} {b : Nat} (h : QP f q r b) (h' : QP g q r' b) : QP (fun j => f j - g j) q (r - r') b := fun j hj => by
  have := h j hj
  have := h' j hj
  show f (j + q) - g (j + q) = f j - g j + (r - r')
  omega
end MF
end

section
set_option Elab.async false
set_option linter.all false
set_option maxRecDepth 100000
set_option maxHeartbeats 8000000
namespace WW
open PySem L2 WO WG RZ WQ WT WC
abbrev sFne : Stmt := top 28
abbrev sGap : Stmt := top 34
abbrev sLab : Stmt := top 35
theorem mx_mem {f : Nat → Int} {n : Nat} {m : Int} (h : m ∈ (List.range n).map f) : ∃ j, j < n ∧ f j = m := by
  obtain ⟨j, hj, e⟩ := List.mem_map.mp h
  exact ⟨j, List.mem_range.mp hj, e⟩
theorem mx_le {f : Nat → Int} {n : Nat} {m : Int} (h : ∀ y, y ∈ (List.range n).map f → y ≤ m) : ∀ j, j < n → f j ≤ m := fun j hj => h _ (List.mem_map.mpr ⟨j, List.mem_range.mpr hj, rfl⟩)
/-- the last place of a row that is above a number -/
theorem last_place {d : Nat → Int} {n : Nat} {m : Int} (h : ∃ i, i < n ∧ m < d i) : ∃ t, t < n ∧ m < d t ∧ ∀ j, t < j → j < n → d j ≤ m := by
  induction n with
  | zero => obtain ⟨i, hi, _⟩ := h; omega
  | succ n ih =>
    by_cases c : m < d n
    · exact ⟨n, by omega, c, fun j h1 h2 => by omega⟩
    · obtain ⟨i, hi, hd⟩ := h
      have : i ≠ n := fun z => by subst z; exact c hd
      obtain ⟨t, t1, t2, t3⟩ := ih ⟨i, by omega, hd⟩
      refine ⟨t, by omega, t2, fun j h1 h2 => ?_⟩
      by_cases e : j = n
      · subst e; omega
      · exact t3 j h1 (by omega)
def LastAb (d : Nat → Int) (n b : Nat) (G : Int) (r : V) : Prop := (r = .non ∧ ∀ j, j < n → d j ≤ 0) ∨ ∃ t k : Nat, r = .int ((b + t + k * n : Nat) : Int) ∧ t < n ∧ (k : Int) * G < d t ∧ (∀ j, t < j → j < n → d j ≤ (k : Int) * G) ∧ ∀ j, j < n → d j ≤ ((k + 1 : Nat) : Int) * G
section
variable {P : Program} {w : World} {K : PySem.W.Frag} {mg : Str → Option Value} {base : Heap}
abbrev nFne : List Str := ["curve"]
theorem scFne : FnScope nFne ["curve"] (defScope sFne) := ⟨rfl, rfl, rfl, by decide +kernel, rfl, by decide +kernel, by decide +kernel⟩
def spFne (K : PySem.W.Frag) (C : Addr) : Sp := fun vs H Q _ => ∃ (x : Addr) (v : List V) (q r : Int), vs = [.ref x] ∧ CurveAt H C x v q r ∧ 0 < v.length ∧ Q (.int ((v.length - 1 : Nat) : Int)) H
theorem ok_fne {f fI fE C : Addr} {fd : FuncData} (F : Fun K "first_none" "first_none" sFne f fd) (T : CurG mg) (U : CurT K mg C fI fE) : FnOk P w K mg base CX0 1 f fd ["curve"] (spFne K C) := by
  refine F.ok scFne (fun vs H Q E h => ?_) (fun cdv A outer s H vs Q E hr h => ?_)
  · obtain ⟨x, v, p, r, rfl, _⟩ := h
    rfl
  · obtain ⟨x, v, p, r, rfl, ⟨dx, t, h1, h2⟩, hp, k⟩ := h
    refine ⟨_, (pss_one
 (ps_ret (pe_op op_sub (pe_callB call_len_seq (by rfl) T.len PySem.boot_len (pa_cons (pe_fld (pv 0) rfl) pa_nil)) pe_int))), ?_⟩
    refine ⟨_, rfl, x, C, dx, _, .ref t, rfl, h1, U.cl, U.nS, rfl, t, v, rfl, .inr (SqT.of h2), _, _, rfl, rfl, ?_⟩
    rw [← show (v.length : Int) - 1 = ((v.length - 1 : Nat) : Int) by omega] at k
    exact k
abbrev nGap : List Str := ["row", "other_row", "one", "two"]
theorem scGap : FnScope nGap ["row", "other_row"] (defScope sGap) := ⟨rfl, rfl, rfl, by decide +kernel, rfl, by decide +kernel, by decide +kernel⟩
def spGap (K : PySem.W.Frag) : Sp := fun vs H Q _ => ∃ (a b : Addr) (n : Nat) (f g : Nat → Int), vs = [.ref a, .ref b] ∧ H a = some (.lst ((List.range n).map fun j => V.int (f j))) ∧ H b = some (.lst ((List.range n).map fun j => V.int (g j))) ∧ n ≤ 100000 ∧
  ∀ (z : Addr) (H' : Hp), H z = none → H' z = some (.lst ((List.range n).map fun j => V.int (f j - g j))) → Same H H' → Q (.ref z) H'
theorem ok_gap {f : Addr} {fd : FuncData} (F : Fun K "gaps_of" "gaps_of" sGap f fd) (T : CurG mg) : FnOk P w K mg base CX0 1 f fd ["row", "other_row"] (spGap K) := by
  refine F.ok scGap (fun vs H Q E h => ?_) (fun cdv A outer s H vs Q E hr h => ?_)
  · obtain ⟨a, b, n, f, g, rfl, _⟩ := h
    rfl
  · obtain ⟨a, b, n, f, g, rfl, ha, hb, hn, k⟩ := h
    refine ⟨_, (pss_one
 (ps_ret (pe_lc (own := [("one", 2), ("two", 3)]) (g := (gTup K 2 (gCons (gName 2) (gCons (gName 3) gNil)))) (tt := tYes) rfl scGap.nd (pi_zip (by rfl) T.zip (pa_cons (pv 0) (pa_cons (pv 1) pa_nil))) (blkOk_by (N := nGap) (sc := defScope sGap) (by decide +kernel)) (fun _ _ _ _ _ => (pg_tup rfl (pgs_cons (pg_name (i := 2) scGap.nd rfl (Or.inl rfl)) (pgs_cons (pg_name (i := 3) scGap.nd rfl (Or.inl rfl)) pgs_nil)))) (fun _ _ _ _ _ => pts_nil) (fun _ _ _ _ _ => (pe_op op_sub (pv 2) (pv 3)))))), ?_⟩
    have la : ((List.range n).map fun j => V.int (f j)).length = n := by rw [List.length_map, List.length_range]
    have lb : ((List.range n).map fun j => V.int (g j)).length = n := by rw [List.length_map, List.length_range]
    refine ⟨_, rfl, _, rfl, a, b, _, _, rfl, SqL.of ha, SqL.of hb, fun D hD => LM.lcM (walk_zip (xs := (List.range n).map fun j => V.int (f j)) (ys := (List.range n).map fun j => V.int (g j)) (n := n) (by rw [la, lb, Nat.min_self])) (fun i => V.int (f i - g i)) hD (by omega) (fun H2 s2 => ⟨SqL.of (s2 _ _ ha), SqL.of (s2 _ _ hb)⟩) ?_ fun H2 hd s2 => k D H2 hD hd s2⟩
    rintro i x H2 H3 hi s2 ⟨T, x1, y1, rfl, hT, rfl, gx, gy⟩ R N kk
    dsimp only at gx gy
    rw [List.getElem?_map, List.getElem?_range hi] at gx gy
    cases gx
    cases gy
    exact ⟨T, _, rfl, SqT.of upd_same, rfl, _, _, rfl, _, _, rfl, rfl, rfl, _, rfl, _, rfl, _, _, rfl, rfl, kk _ (LM.sNew hT)⟩
abbrev nLab : List Str := ["row", "other_row", "begin", "gain", "gaps", "most", "rounds", "place"]
theorem scLab : FnScope nLab ["row", "other_row", "begin", "gain"] (defScope sLab) := ⟨rfl, rfl, rfl, by decide +kernel, rfl, by decide +kernel, by decide +kernel⟩
def spLab (K : PySem.W.Frag) : Sp := fun vs H Q _ => ∃ (a b : Addr) (n c : Nat) (f g : Nat → Int) (G : Int), vs = [.ref a, .ref b, .int c, .int G] ∧ H a = some (.lst ((List.range n).map fun j => V.int (f j))) ∧ H b = some (.lst ((List.range n).map fun j => V.int (g j))) ∧ 0 < n ∧ n ≤ 100000 ∧ 0 < G ∧ G < 2 ^ 60 ∧
  ∀ r, LastAb (fun j => f j - g j) n c G r → ∀ H', Same H H' → Q r H'
theorem ok_lab {f : Addr} {fd : FuncData} (F : Fun K "last_above" "last_above" sLab f fd) (T : CurG mg) (nmax : mg "max" = none)
    (c_gap : Cal P w K mg base CX0 1 "gaps_of" ["row", "other_row"] (spGap K)) : FnOk P w K mg base CX0 2 f fd ["row", "other_row", "begin", "gain"] (spLab K) := by
  refine F.ok scLab (fun vs H Q E h => ?_) (fun cdv A outer s H vs Q E hr h => ?_)
  · obtain ⟨a, b, n, c, f, g, G, rfl, _⟩ := h
    rfl
  · obtain ⟨a, b, n, c, f, g, G, rfl, ha, hb, n0, hn, G0, G1, k⟩ := h
    refine ⟨_, (C8.pss_cut (ps_set (i := 4) scLab.nd rfl (Or.inl rfl) (pe_callC c_gap (hr.mono (by decide)) rfl pass0 (pa_cons (pv 0) (pa_cons (pv 1) pa_nil))))
 (C8.pss_cut (ps_set (i := 5) scLab.nd rfl (Or.inl rfl) (pe_callB (cr_max rfl) (by rfl) nmax (by decide +kernel) (pa_cons (pv 4) pa_nil)))
 (C8.pss_cut (ps_if (pt_cmpR op_le (pv 5) pe_int (nomark _)) (pss_one
 (ps_ret pe_non)) pss_nil)
 (C8.pss_cut (ps_set (i := 6) scLab.nd rfl (Or.inl rfl) (pe_op op_fdivW (pe_op op_sub (pv 5) pe_int) (pv 3)))
 (C8.pss_cut (ps_set (i := 7) scLab.nd rfl (Or.inl rfl) (pe_op op_sub (pe_callB call_len_seq (by rfl) T.len PySem.boot_len (pa_cons (pv 4) pa_nil)) pe_int))
 (C8.pss_cut (ps_while PassesOwn.never (pt_cmpR op_le (pe_ix ix_list (pv 4) (pv 7) (fun _ _ => rfl)) (pe_op op_mul (pv 6) (pv 3)) (nomark _)) (pss_one
 (ps_aug (i := 7) scLab.nd rfl (Or.inl rfl) pe_int ip_sub)))
 (pss_one
 (ps_ret (pe_op op_add (pe_op op_add (pv 2) (pv 7)) (pe_op op_mul (pv 6) (pe_callB call_len_seq (by rfl) T.len PySem.boot_len (pa_cons (pv 4) pa_nil)))))))))))), ?_⟩
    generalize hd : (fun j => f j - g j) = d at *
    refine ⟨fun σ H' => ∃ z, σ = [some (.ref a), some (.ref b), some (.int c), some (.int G), some (.ref z), none, none, none] ∧ H' z = some (.lst ((List.range n).map fun j => V.int (d j))) ∧ Same H H', ?_, ?_⟩
    · refine ⟨_, rfl, _, rfl, a, b, n, f, g, rfl, ha, hb, hn, fun z H1 hz ez s1 => ⟨z, rfl, ?_, s1⟩⟩
      rw [← hd]
      exact ez
    rintro σ H1 ⟨z, rfl, hz, s1⟩
    have gm : ∀ j, j < n → ((List.range n).map fun j => V.int (d j))[j]? = some (V.int (d j)) := fun j hj => by
      rw [List.getElem?_map, List.getElem?_range hj]
      rfl
    have lz : ((List.range n).map fun j => V.int (d j)).length = n := by rw [List.length_map, List.length_range]
    refine ⟨fun σ H' => ∃ m : Int, σ = [some (.ref a), some (.ref b), some (.int c), some (.int G), some (.ref z), some (.int m), none, none] ∧ H' = H1 ∧ (∃ i, i < n ∧ d i = m) ∧ ∀ j, j < n → d j ≤ m, ?_, ?_⟩
    · refine ⟨_, rfl, z, (List.range n).map d, rfl, ?_, ?_, fun m hm hle => ⟨m, rfl, rfl, mx_mem hm, mx_le hle⟩⟩
      · rw [List.map_map]
        exact SqL.of hz
      · rw [List.length_map, List.length_range]
        exact n0
    rintro σ H2 ⟨m, rfl, rfl, ⟨i0, i1, i2⟩, mle⟩
    refine ⟨fun σ H' => σ = [some (.ref a), some (.ref b), some (.int c), some (.int G), some (.ref z), some (.int m), none, none] ∧ H' = H2 ∧ 0 < m, ?_, ?_⟩
    · refine ⟨_, rfl, _, _, rfl, rfl, ?_⟩
      by_cases m0 : m ≤ 0
      · exact ⟨true, bT m0, iteT (k _ (.inl ⟨rfl, fun j hj => Int.le_trans (mle j hj) m0⟩) H2 s1)⟩
      · exact ⟨false, bF m0, iteF ⟨rfl, rfl, by omega⟩⟩
    rintro σ H3 ⟨rfl, rfl, m0⟩
    have k0 : 0 ≤ (m - 1) / G := Int.ediv_nonneg (by omega) (by omega)
    have dm := Int.emod_add_mul_ediv (m - 1) G
    have dl := Int.emod_lt_of_pos (m - 1) G0
    have dn := Int.emod_nonneg (m - 1) (show G ≠ 0 by omega)
    have cm : (m - 1) / G * G = G * ((m - 1) / G) := Int.mul_comm ..
    obtain ⟨t, t1, t2, t3⟩ := last_place (d := d) (n := n) (m := (m - 1) / G * G) ⟨i0, i1, by omega⟩
    refine ⟨fun σ H' => σ = [some (.ref a), some (.ref b), some (.int c), some (.int G), some (.ref z), some (.int m), some (.int ((m - 1) / G)), none] ∧ H' = H3, ?_, ?_⟩
    · exact ⟨_, rfl, _, _, rfl, rfl, _, rfl, _, _, rfl, rfl, wide_div (b := 64) G0 (by omega) (by decide) (by decide), rfl, rfl⟩
    rintro σ H4 ⟨rfl, rfl⟩
    generalize hR : (m - 1) / G = R at *
    refine ⟨fun σ H' => σ = [some (.ref a), some (.ref b), some (.int c), some (.int G), some (.ref z), some (.int m), some (.int R), some (.int ((n - 1 : Nat) : Int))] ∧ H' = H4, ?_, ?_⟩
    · refine ⟨_, rfl, z, _, rfl, .inl (SqL.of hz), _, _, rfl, rfl, ?_, rfl⟩
      rw [lz]
      show [_, _, _, _, _, _, _, some (V.int ((n : Int) - 1))] = _
      rw [show (n : Int) - 1 = ((n - 1 : Nat) : Int) by omega]
    rintro σ H5 ⟨rfl, rfl⟩
    refine ⟨fun σ H' => σ = [some (.ref a), some (.ref b), some (.int c), some (.int G), some (.ref z), some (.int m), some (.int R), some (.int (t : Int))] ∧ H' = H5, ?_, ?_⟩
    · refine while_by (fun σ H' => ∃ e : Nat, σ = [some (.ref a), some (.ref b), some (.int c), some (.int G), some (.ref z), some (.int m), some (.int R), some (.int e)] ∧ t ≤ e ∧ e < n ∧ H' = H5)
        (fun σ _ => match σ with
          | [_, _, _, _, _, _, _, some (.int e)] => e.toNat
          | _ => 0) ⟨n - 1, rfl, by omega, by omega, rfl⟩ ?_ ?_
      · rintro σ H6 ⟨e, rfl, te, en, rfl⟩
        refine ⟨_, rfl, _, rfl, z, _, _, _, rfl, rfl, SqL.of hz, atI_nat (gm e en), _, rfl, _, rfl, _, _, rfl, rfl, .inr ⟨by omega, by omega⟩, _, _, rfl, rfl, ?_⟩
        by_cases c : d e ≤ R * G
        · have ne : e ≠ t := fun z => by subst z; omega
          refine ⟨true, bT c, iteT ⟨_, rfl, _, _, rfl, rfl, ⟨e - 1, ?_, by omega, by omega, rfl⟩, ?_⟩⟩
          · show [_, _, _, _, _, _, _, some (V.int ((e : Int) - 1))] = _
            rw [show (e : Int) - 1 = ((e - 1 : Nat) : Int) by omega]
          · show ((e : Int) - 1).toNat < (e : Int).toNat
            omega
        · have : e = t := Classical.byContradiction fun ne => c (t3 e (by omega) en)
          subst this
          exact ⟨false, bF c, iteF ⟨rfl, rfl⟩⟩
      · intro σ H Q Q' m h
        obtain ⟨w1, f1, w2, f2, pp, xs, ii, vv, k1, k2, k3, k4, w4, f4, w5, f5, i1, j1, g1, g2, cc, i2, j2, g3, g4, b, eb, hQ⟩ := h
        exact ⟨w1, f1, w2, f2, pp, xs, ii, vv, k1, k2, k3, k4, w4, f4, w5, f5, i1, j1, g1, g2, cc, i2, j2, g3, g4, b, eb, m _ _ hQ⟩
    rintro σ H6 ⟨rfl, rfl⟩
    refine ⟨_, rfl, _, rfl, _, _, rfl, rfl, _, rfl, _, rfl, z, _, rfl, .inl (SqL.of hz), _, _, rfl, rfl, .inr ⟨by rw [lz]; omega, by rw [lz]; omega⟩, _, _, rfl, rfl, ?_⟩
    have er : (R.toNat : Int) = R := by omega
    have ev : (c : Int) + (t : Int) + R * (n : Int) = ((c + t + R.toNat * n : Nat) : Int) := by
      rw [Int.natCast_add, Int.natCast_add, Int.natCast_mul, er]
    refine k _ (.inr ⟨t, R.toNat, ?_, t1, ?_, fun j h1 h2 => ?_, fun j hj => ?_⟩) H6 s1
    · rw [lz]
      show V.int ((c : Int) + (t : Int) + R * (n : Int)) = _
      rw [ev]
    · rw [er]; exact t2
    · rw [er]; exact t3 j h1 h2
    · rw [show ((R.toNat + 1 : Nat) : Int) = R + 1 by omega, Int.add_mul, Int.one_mul]
      have := mle j hj
      omega
end
end WW
end

section
set_option Elab.async false
set_option linter.all false
set_option maxRecDepth 100000
set_option maxHeartbeats 4000000
namespace WW
open PySem L2 WO WG RZ WQ WT
section
variable {P : Program} {w : World} {K : PySem.W.Frag} {mg : Str → Option Value} {base : Heap}
abbrev sMade : Stmt := top 68
def spMade (K : PySem.W.Frag) (C : Addr) : Sp := fun vs H Q _ => ∃ (d a : Addr) (xs : List V) (p : Nat) (g : Int), vs = [.ref d] ∧ H d = some (.dK (skKvs a p g)) ∧ H a = some (.lst xs) ∧ MakeOk xs p g ∧
  ∀ (x : Addr) (vals : List V) (q r : Int) (H' : Hp), FormV xs p g vals q r → CurveAt H' C x vals q r → Same H H' → Q (.ref x) H'
theorem scMade : FnScope ["sketch"] ["sketch"] (defScope sMade) := ⟨rfl, rfl, rfl, by decide +kernel, rfl, by decide +kernel, by decide +kernel⟩
theorem ok_made {f fI fE C CB : Addr} {fd dI : FuncData} (F : Fun K "_law_made" "_law_made" sMade f fd) (U : CurT K mg C fI fE)
    (GI : FnOk P w K mg base (L2.CX P w) 4 fI dI ["self", "start", "period", "growth"] (spInit K C CB)) (bI : Binds K dI ["self", "start", "period", "growth"] []) :
    FnOk P w K mg base CX0 6 f fd ["sketch"] (spMade K C) := by
  refine F.ok scMade (fun vs H Q E h => ?_) (fun cdv A outer s H vs Q E hr h => ?_)
  · obtain ⟨d, a, xs, p, g, rfl, _⟩ := h
    rfl
  · obtain ⟨d, a, xs, p, g, rfl, hd, ha, M, k⟩ := h
    have hu := hu_of hr
    refine ⟨_, pss_one (ps_ret (pe_make U.mkC GI hr rfl U.mC bI .nil passF (pa_cons (pe_dget hu (pv 0) pe_str (fun _ _ => rfl)) (pa_cons (pe_dget hu (pv 0) pe_str (fun _ _ => rfl)) (pa_cons (pe_dget hu (pv 0) pe_str (fun _ _ => rfl)) pa_nil))))), ?_⟩
    refine ⟨_, rfl, d, _, rfl, sk_start hd, _, rfl, d, _, rfl, sk_period hd, _, rfl, d, _, rfl, sk_growth hd, fun x dx hx hdx ne => ?_⟩
    generalize g1 : upd H dx _ = H1
    obtain ⟨s1, f1⟩ := alloc g1 hdx
    have hx1 : H1 x = none := by rw [← g1, upd_ne (Ne.symm ne)]; exact hx
    generalize g2 : upd H1 x _ = H2
    obtain ⟨s2, f2⟩ := alloc g2 hx1
    refine ⟨x, dx, _, _, _, rfl, f2, .inl ⟨a, xs, p, g, rfl, rfl, rfl, .inl (SqL.of (s2 _ _ (s1 _ _ ha))), M, fun vals q r H' fv cu kp => ⟨rfl, k x vals q r H' fv cu fun b o e => kp b o (s2 _ _ (s1 _ _ e)) (ne_of_none e hx)⟩⟩⟩
end
end WW
end

section
set_option Elab.async false
set_option linter.all false
set_option maxRecDepth 100000
set_option maxHeartbeats 4000000
namespace WW
open PySem L2 WO WG RZ WQ WT WL WV
open LamX (ExtN Tabs TabS TabB lamS_by)
/-! ### what stays when tables grow -/
theorem ExtN.of_same {H H' : Hp} (s : Same H H') : ExtN H H' := fun b o e _ => s b o e
theorem SqT.extN {K : PySem.W.Frag} {H H' : Hp} {a : Addr} {xs : List V} (h : SqT K H a xs) (e : ExtN H H') : SqT K H' a xs := by
  rcases h with (h | ⟨o, h⟩) | h
  · exact .inl (.inl (e _ _ h fun _ z => by cases z))
  · exact .inl (.inr ⟨o, e _ _ h fun _ z => by cases z⟩)
  · exact .inr h
theorem SqL.extN {K : PySem.W.Frag} {H H' : Hp} {a : Addr} {xs : List V} (h : SqL K H a xs) (e : ExtN H H') : SqL K H' a xs := by
  rcases h with (h | ⟨o, h⟩) | h
  · exact .inl (.inl (e _ _ h fun _ z => by cases z))
  · exact .inl (.inr ⟨o, e _ _ h fun _ z => by cases z⟩)
  · exact .inr h
theorem SeqA.extN {K : PySem.W.Frag} {H H' : Hp} {a : Addr} {xs : List V} (h : SeqA K H a xs) (e : ExtN H H') : SeqA K H' a xs := by
  rcases h with h | h
  · exact .inl (SqL.extN h e)
  · exact .inr (SqT.extN h e)
theorem TyX.extN {K : PySem.W.Frag} {H H' : Hp} {x : V} {t : Value} (h : TyX K H x t) (s : ExtN H H') : TyX K H' x t := by
  cases h with
  | base h =>
    cases h with
    | non => exact .base .non
    | bl b => exact .base (.bl b)
    | int i => exact .base (.int i)
    | str z => exact .base (.str z)
    | flt z => exact .base (.flt z)
    | lst e => exact .base (.lst (s _ _ e fun _ z => by cases z))
    | frz e => exact .base (.frz (s _ _ e fun _ z => by cases z))
    | tup e => exact .base (.tup (s _ _ e fun _ z => by cases z))
    | dK e => exact .base (.dK (s _ _ e fun _ z => by cases z))
    | dT e => exact .base (.dT (s _ _ e fun _ z => by cases z))
    | ins e cl ha hn htk hm => exact .base (.ins (s _ _ e fun _ z => by cases z) cl ha hn htk hm)
  | byt b => exact .byt b
  | set e => exact .set (s _ _ e fun _ z => by cases z)
  | kList e c => exact .kList e c
  | kTuple e c => exact .kTuple e c
  | kDict e c => exact .kDict e c
  | fTuple e => exact .fTuple (s _ _ e fun _ z => by cases z)
  | fDict e => exact .fDict (s _ _ e fun _ z => by cases z)
theorem NumT.extN {K : PySem.W.Frag} {H H' : Hp} {x : V} {b : Bool} (h : NumT K H x b) (s : ExtN H H') : NumT K H' x b := by
  obtain ⟨t, b1, b2, h1, h2⟩ := h
  exact ⟨t, b1, b2, TyX.extN h1 s, h2⟩
theorem ListT.extN {K : PySem.W.Frag} {H H' : Hp} {x : V} {b : Bool} (h : ListT K H x b) (s : ExtN H H') : ListT K H' x b := by
  obtain ⟨t, h1, h2⟩ := h
  exact ⟨t, TyX.extN h1 s, h2⟩
theorem badFrom.extN {K : PySem.W.Frag} {H H' : Hp} {x : V} {lo hi : Int} (h : badFrom K H x lo hi) (s : ExtN H H') : badFrom K H' x lo hi := by
  rcases h with h | h
  · exact .inl (NumT.extN h s)
  · exact .inr h
theorem InitBad.extN {K : PySem.W.Frag} {H H' : Hp} {x p g : V} {part : Str} (h : InitBad K H x p g part) (s : ExtN H H') : InitBad K H' x p g part := by
  cases h with
  | noList h => exact .noList (ListT.extN h s)
  | start e h fl hz no => exact .start e (SeqA.extN h s) fl hz no
  | period e h fl S hp => exact .period e (SeqA.extN h s) fl S (badFrom.extN hp s)
  | growth e h fl S ep p1 p2 p3 hg => exact .growth e (SeqA.extN h s) fl S ep p1 p2 p3 (badFrom.extN hg s)
  | falls e h fl S ep p1 p2 p3 eg g0 g1 ex ey fa => exact .falls e (SeqA.extN h s) fl S ep p1 p2 p3 eg g0 g1 ex ey fa
theorem CurveAt.extN {H H' : Hp} {C x : Addr} {vals : List V} {q r : Int} (h : CurveAt H C x vals q r) (s : ExtN H H') : CurveAt H' C x vals q r := by
  obtain ⟨dx, t, h1, h2⟩ := h
  exact ⟨dx, t, s _ _ h1 (fun _ z => by cases z), s _ _ h2 (fun _ z => by cases z)⟩
theorem DrawAt.extN {H H' : Hp} {d l c : Addr} (D : DrawAt H d l c) (s : ExtN H H') : DrawAt H' d l c := by
  obtain ⟨⟨r, t, h⟩, ⟨la, h2, h3⟩, ⟨ce, h4, h5⟩, h6⟩ := D
  exact ⟨⟨r, t, s _ _ h fun _ z => by cases z⟩, ⟨la, s _ _ h2 (fun _ z => by cases z), h3⟩, ⟨ce, s _ _ h4 (fun _ z => by cases z), h5⟩, h6⟩
theorem Tabs.keepD {T : List (Addr × Str)} {H H' : Hp} {d l c : Addr} (D : DrawAt H d l c) (t : Tabs T H) (k : KeepD H H' d l) : Tabs T H' := fun p hp => by
  obtain ⟨ps, h1, h2, h3⟩ := t p hp
  obtain ⟨⟨r, t, hd⟩, ⟨la, hl, _⟩, _, _⟩ := D
  refine ⟨ps, k _ _ h1 (ne_of h1 hd (by intro z; cases z)) (ne_of h1 hl (by intro z; cases z)), h2, fun pos cv hc => ?_⟩
  obtain ⟨c, e1, e2⟩ := h3 pos cv hc
  exact ⟨c, e1, k _ _ e2 (ne_of e2 hd (by unfold LamX.CodeO; intro z; cases z)) (ne_of e2 hl (by unfold LamX.CodeO; intro z; cases z))⟩
theorem Tabs.same {T : List (Addr × Str)} {H H' : Hp} (t : Tabs T H) (s : Same H H') : Tabs T H' := LamX.Tabs.ext t s
theorem CurveAt.keepD {H H' : Hp} {d l c C x : Addr} {vals : List V} {q r : Int} (h : CurveAt H C x vals q r) (D : DrawAt H d l c) (k : KeepD H H' d l) : CurveAt H' C x vals q r := by
  obtain ⟨dx, t, h1, h2⟩ := h
  obtain ⟨⟨r, t', hd⟩, ⟨la, hl, _⟩, _, _⟩ := D
  exact ⟨dx, t, k _ _ h1 (ne_of h1 hd (by intro z; cases z)) (ne_of h1 hl (by intro z; cases z)), k _ _ h2 (ne_of h2 hd (by intro z; cases z)) (ne_of h2 hl (by intro z; cases z))⟩
theorem NoCur.extN {K : PySem.W.Frag} {H H' : Hp} {C : Addr} {x : V} (h : NoCur K H C x) (s : ExtN H H') : NoCur K H' C x := by
  obtain ⟨t, h1, h2⟩ := h
  exact ⟨t, TyX.extN h1 s, h2⟩
theorem errC_extN {H H' : Hp} {a C : Addr} {f : Str} {y : V} (h : ErrC H a C (some (f, y))) (s : ExtN H H') : ErrC H' a C (some (f, y)) := by
  cases h with
  | with_ h hd => exact .with_ (s _ _ h (fun _ z => by unfold Caught at z; cases z)) (s _ _ hd (fun _ z => by cases z))
theorem tabs_put {T : List (Addr × Str)} {H : Hp} {t : Addr} {xs ys : List V} (h : Tabs T H) (ht : H t = some (.lst xs)) : Tabs T (upd H t (.lst ys)) := fun p hp => by
  obtain ⟨ps, h1, h2, h3⟩ := h p hp
  refine ⟨ps, by rw [upd_ne (ne_of h1 ht (by intro z; cases z))]; exact h1, h2, fun pos cv hc => ?_⟩
  obtain ⟨c, e1, e2⟩ := h3 pos cv hc
  exact ⟨c, e1, by rw [upd_ne (ne_of e2 ht (by unfold LamX.CodeO; intro z; cases z))]; exact e2⟩
theorem skE {H H' : Hp} {d l e a : Addr} {xs : List V} {p : Nat} {g : Int} (h : SkAt H d l e a xs p g) (k : ExtN H H') : SkAt H' d l e a xs p g :=
  ⟨k _ _ h.ob (fun _ z => by cases z), k _ _ h.li (fun _ z => by cases z), h.ed, h.el, h.ad, h.al⟩
/-- an error's class, as the hook reads it -/
structure ErrGf (K : PySem.W.Frag) (W C : Addr) (f : Str) : Prop where
  ask : AskE K C
  ex : PySem.W.exmOne K (.ref C) (.ref W) = some true
  one : PySem.W.kitOne K (.ref C) (.ref C) = some true
  hd : PySem.W.hasDictIn K C = true
  hf : PySem.W.findIn K (.ref C) f = some none
/-- the draw stands, and the tables of code -/
structure DT (T : List (Addr × Str)) (H : Hp) (d l c : Addr) : Prop where
  D : DrawAt H d l c
  T : Tabs T H
section
variable {T : List (Addr × Str)} {H H' : Hp} {d l c : Addr}
theorem DT.same (h : DT T H d l c) (s : Same H H') : DT T H' d l c := ⟨h.D.same s, Tabs.same h.T s⟩
theorem DT.keep (h : DT T H d l c) (D' : DrawAt H' d l c) (k : KeepD H H' d l) : DT T H' d l c := ⟨D', Tabs.keepD h.D h.T k⟩
theorem DT.ext (h : DT T H d l c) (T' : Tabs T H') (x : ExtN H H') : DT T H' d l c := ⟨h.D.extN x, T'⟩
end
theorem IsCur.extN {H H' : Hp} {C x : Addr} {L : Nat → V} (h : IsCur H C x L) (s : ExtN H H') : IsCur H' C x L := by
  obtain ⟨v, q, r, h1, h2⟩ := h
  exact ⟨v, q, r, h1.extN s, h2⟩
theorem IsCur.keepD {H H' : Hp} {d l c C x : Addr} {L : Nat → V} (h : IsCur H C x L) (D : DrawAt H d l c) (k : KeepD H H' d l) : IsCur H' C x L := by
  obtain ⟨v, q, r, h1, h2⟩ := h
  exact ⟨v, q, r, h1.keepD D k, h2⟩
theorem lst_keep {H H' : Hp} {d l c a : Addr} {xs : List V} (h : H a = some (.lst xs)) (D : DrawAt H d l c) (al : a ≠ l) (k : KeepD H H' d l) : H' a = some (.lst xs) := by
  obtain ⟨⟨r', t', hd⟩, _⟩ := D
  exact k _ _ h (ne_of h hd (by intro z; cases z)) al
theorem tup_keep {H H' : Hp} {d l c t : Addr} {xs : List V} (h : H t = some (.tup xs)) (D : DrawAt H d l c) (k : KeepD H H' d l) : H' t = some (.tup xs) := by
  obtain ⟨⟨r', t', hd⟩, ⟨la, hl, _⟩, _⟩ := D
  exact k _ _ h (ne_of h hd (by intro z; cases z)) (ne_of h hl (by intro z; cases z))
/-- x != y of two curves of one function -/
theorem ne_cur {K : PySem.W.Frag} {C : Addr} {E : XK} {H : Hp} {Q : VK} {x y : Addr} {L : Nat → V} (h1 : IsCur H C x L) (h2 : IsCur H C y L) (k : ∀ H', Same H H' → Q (.bl false) H') : rOwN C (spEqC K C) E (.ref x) (.ref y) H Q := by
  obtain ⟨v, q, r, c1, f1⟩ := h1
  obtain ⟨v', q', r', c2, f2⟩ := h2
  obtain ⟨rfl, rfl, rfl⟩ := f1.uniq f2
  obtain ⟨dx, tx, x1, x2⟩ := id c1
  obtain ⟨dy, ty, y1, y2⟩ := id c2
  refine ⟨x, dx, _, y, dy, _, rfl, x1, rfl, y1, x, .ref y, v, q, r, rfl, c1, f1.flat, .inl ⟨y, v, q, r, rfl, c2, f1.flat, fun H8 s8 => ⟨_, rfl, ?_⟩⟩⟩
  rw [decide_eq_true ⟨rfl, rfl, rfl⟩]
  exact k H8 s8
theorem ne_cur2 {K : PySem.W.Frag} {C : Addr} {E : XK} {H : Hp} {Q : VK} {x y : Addr} {L M : Nat → V} (h1 : IsCur H C x L) (h2 : IsCur H C y M) (e : ∀ j, L j = M j) (k : ∀ H', Same H H' → Q (.bl false) H') : rOwN C (spEqC K C) E (.ref x) (.ref y) H Q := by
  have : L = M := funext e
  subst this
  exact ne_cur h1 h2 k
/-- words in other orders -/
def kgR1 {α : Type} : List α → List α → List α
  | [], [a] => [a]
  | _, _ => []
def kgR2 {α : Type} : List α → List α → List α
  | [], [a, b] => [b, a]
  | _, _ => []
def kgR3 {α : Type} : List α → List α → List α
  | [], [a, b, c] => [c, b, a]
  | _, _ => []
abbrev sCaught : Stmt := top 65
theorem scCaught : FnScope nCaught ["work"] (defScope sCaught) := ⟨rfl, rfl, rfl, by decide +kernel, rfl, by decide +kernel, by decide +kernel⟩
end WW
end

section
set_option Elab.async false
set_option linter.all false
set_option maxRecDepth 100000
set_option maxHeartbeats 4000000
/-! Lists and tuples alike: walks (beside Sq). -/
namespace WQ
open PySem PySem.Spec PyProof.Rows L2 RZ
def rSlC (K : PySem.W.Frag) : V → Option Int → Option Int → Hp → VK → Prop := fun x lo hi H Q => ∃ a xs, x = .ref a ∧ SeqA K H a xs ∧
  ∀ (H' : Hp) (p : Addr), Same H H' → SeqA K H' p (cutV xs lo hi) → (∀ ys, SqT K H a ys → SqT K H' p (cutV xs lo hi)) → (∀ ys, SqL K H a ys → SqL K H' p (cutV xs lo hi)) → Q (.ref p) H'
section
variable {X : Cx}
theorem not_both {pins : List (Addr × Obj)} {σ : L2.St} {H : Hp} {s : Shared} {a : Addr} {xs ys : List V} (I : Inv X pins σ H s) (h1 : SqL X.K H a xs) (h2 : SqT X.K H a ys) : False := by
  obtain ⟨its, rv, pl1, _⟩ := I.list h1
  obtain ⟨its2, rv2, pt, _⟩ := I.tuple h2
  obtain ⟨o, e1, e2, _⟩ := pt
  obtain ⟨o', e1', e2', _⟩ := pl1.isList
  rw [e1] at e1'
  cases e1'
  rw [e2] at e2'
  exact absurd (Value.type.inj e2') (by decide)
theorem sl_seqC : SlR X (rSlC X.K) := by
  intro pins s σ H x v vl vu lo hi sl Q I rx hs pl pu h
  obtain ⟨a, xs, rfl, hx, q⟩ := h
  rcases hx with hx | hx
  · exact sl_list pins s σ H _ v vl vu lo hi sl Q I rx hs pl pu ⟨a, xs, rfl, hx, fun p hp => q _ p (new_same hp) (.inl (SqL.of upd_same)) (fun ys hy => (not_both I hx hy).elim) fun _ _ => SqL.of upd_same⟩
  · refine sl_tupA pins s σ H _ v vl vu lo hi sl Q I rx hs pl pu ⟨a, xs, rfl, hx, fun w => ?_, fun _ p hp => q _ p (new_same hp) (.inr (SqT.of upd_same)) (fun _ _ => SqT.of upd_same) fun ys hy => (not_both I hy hx).elim⟩
    have e := cut_whole w
    exact q H a (fun _ _ z => z) (by rw [e]; exact .inr hx) (fun _ _ => by rw [e]; exact hx) fun _ hy => (not_both I hy hx).elim
end
/-! ### walks -/
/-- a list stays a list, a tuple a tuple -/
def KeepS (K : PySem.W.Frag) (H H' : Hp) (a : Addr) (xs : List V) : Prop := (SqL K H a xs → SqL K H' a xs) ∧ (SqT K H a xs → SqT K H' a xs)
theorem KeepS.of {K : PySem.W.Frag} {H H' : Hp} (s : Same H H') (a : Addr) (xs : List V) : KeepS K H H' a xs := ⟨fun h => s.seq h, fun h => SqT.ext h s⟩
/-- behind the making of a list that is changed later on -/
theorem KeepS.past {K : PySem.W.Frag} {H1 H2 H3 : Hp} {l : Addr} {o : HO} (g : upd H1 l o = H2) (s : Same H1 H3) {a : Addr} {xs : List V} (h1 : o ≠ .lst xs) (h2 : o ≠ .tup xs) (h3 : ∀ ob u, o ≠ .frz ob u) : KeepS K H2 H3 a xs := by
  subst g
  have ne : ∀ {b u}, upd H1 l o b = some u → o ≠ u → H3 b = some u := fun {b u} e n => by
    have nb : b ≠ l := fun z => by
      rw [z, upd_same] at e
      exact n (Option.some.inj e)
    rw [upd_ne nb] at e
    exact s _ _ e
  constructor
  · rintro ((h | ⟨ob, h⟩) | h)
    · exact .inl (.inl (ne h h1))
    · exact .inl (.inr ⟨ob, ne h (h3 _ _)⟩)
    · exact .inr h
  · rintro ((h | ⟨ob, h⟩) | h)
    · exact .inl (.inl (ne h h2))
    · exact .inl (.inr ⟨ob, ne h (h3 _ _)⟩)
    · exact .inr h
/-- a list's or a tuple's walk, alike -/
def iSeq (K : PySem.W.Frag) (tl : TE) : TI := fun σ H R => tl σ H fun x H1 => ∃ a xs, x = .ref a ∧ SeqA K H1 a xs ∧
  ∀ (J : It) (G : Hp → Prop), Walk J xs.length G (YAt xs) → (∀ H', KeepS K H1 H' a xs → G H') → R J H1
section
variable {X : Cx} {tg : Expr}
theorem pi_seq {l : Expr} {tl : TE} (hl : PE X l tl) : PI X tg l (iSeq X.K tl) := by
  refine ⟨fun pins s σ H R I h => thn (hl.run pins s σ H _ I h) fun v s1 ⟨x, H1, I1, r1, a, xs, e, hq, q⟩ => ?_⟩
  subst e
  cases r1
  have one : ∀ b ∈ [s1.heap.objs.size], FpOk X pins H1 b := by
    intro b hb
    obtain rfl : b = s1.heap.objs.size := by simpa using hb
    exact I1.fpOk (Nat.le_refl _) (I1.hok.fresh (Nat.le_refl _))
  rcases hq with hq | hq
  · obtain ⟨its, rv, p, hz⟩ := I1.list hq
    exact wpAny_pyIter_list p.isList ⟨_, [_], _, _, H1, rfl, I1.kept (t' := s1.toks) fun b o e => Heap.get?_push_of_some _ e, turn_list a _, ⟨_, Heap.get?_push_size _ rfl, rfl, rfl⟩, one, q _ _ walk_list fun H' s => s.1 hq⟩
  · obtain ⟨its, rv, p, hz⟩ := I1.tuple hq
    exact wpAny_pyIter_tuple (show s1.heap.IsTuple a its.toArray from p) ⟨_, [_], _, _, H1, rfl, I1.kept (t' := s1.toks) fun b o e => Heap.get?_push_of_some _ e, turn_tuple a _, ⟨_, Heap.get?_push_size _ rfl, rfl, rfl⟩, one, q _ _ walk_tup fun H' s => s.2 hq⟩
end
theorem walk_zipT {K : PySem.W.Frag} {a b : Addr} {xs ys : List V} {n : Nat} (hn : n = min xs.length ys.length) : Walk (ItzT K a b) n (fun H => SqT K H a xs ∧ SqT K H b ys) (YPair (fun i => xs[i]?) (fun i => ys[i]?)) where
  goes := fun i H hi ⟨h1, h2⟩ => ⟨xs, ys, xs[i]'(by omega), ys[i]'(by omega), h1, h2, List.getElem?_eq_getElem _, List.getElem?_eq_getElem _⟩
  stops := fun H ⟨h1, h2⟩ => ⟨xs, ys, h1, h2, by omega⟩
  yields := fun i H x H' hi ⟨h1, h2⟩ ⟨T, x1, y1, e1, e2, e3, e4, e5⟩ => ⟨T, x1, y1, e1, e2, e3, e4 _ h1, e5 _ h2⟩
/-- two lists, or two tuples -/
def SeqP (K : PySem.W.Frag) (H : Hp) (a : Addr) (xs : List V) (b : Addr) (ys : List V) : Prop := (SqL K H a xs ∧ SqL K H b ys) ∨ (SqT K H a xs ∧ SqT K H b ys)
theorem SeqP.same {K : PySem.W.Frag} {H H' : Hp} {a b : Addr} {xs ys : List V} (h : SeqP K H a xs b ys) (s : Same H H') : SeqP K H' a xs b ys := by
  rcases h with ⟨h1, h2⟩ | ⟨h1, h2⟩
  · exact .inl ⟨s.seq h1, s.seq h2⟩
  · exact .inr ⟨SqT.ext h1 s, SqT.ext h2 s⟩
theorem SeqP.l {K : PySem.W.Frag} {H : Hp} {a b : Addr} {xs ys : List V} (h : SeqP K H a xs b ys) : SeqA K H a xs := by
  rcases h with ⟨h1, h2⟩ | ⟨h1, h2⟩
  · exact .inl h1
  · exact .inr h1
theorem SeqP.r {K : PySem.W.Frag} {H : Hp} {a b : Addr} {xs ys : List V} (h : SeqP K H a xs b ys) : SeqA K H b ys := by
  rcases h with ⟨h1, h2⟩ | ⟨h1, h2⟩
  · exact .inl h2
  · exact .inr h2
theorem SeqP.swap {K : PySem.W.Frag} {H : Hp} {a b : Addr} {xs ys : List V} (h : SeqP K H a xs b ys) : SeqP K H b ys a xs := by
  rcases h with ⟨h1, h2⟩ | ⟨h1, h2⟩
  · exact .inl ⟨h2, h1⟩
  · exact .inr ⟨h2, h1⟩
def iZipS (K : PySem.W.Frag) (ta : TA) : TI := fun σ H R => ta σ H fun vs H1 => ∃ a b xs ys, vs = [.ref a, .ref b] ∧ SeqP K H1 a xs b ys ∧
  ∀ (J : It) (G : Hp → Prop), Walk J (min xs.length ys.length) G (YPair (fun i => xs[i]?) (fun i => ys[i]?)) → (∀ H', KeepS K H1 H' a xs → KeepS K H1 H' b ys → G H') → R J H1
theorem pi_zipS {X : Cx} {e e2 : Expr} {ta : TA} {p pos tpos : Pos} {elts : List Expr} {kk : Nat} (hg : Gl X "zip") (hm : X.mg "zip" = none) (ha : PA X [e, e2] ta)
    (h1 : starEach [e, e2] X.env = (false, eval e X.env) :: starEach [e2] X.env := by rfl) (h2 : (backTo pos (starEach [e2] X.env)).any (·.1) = false := by rfl) :
    PI X (.Tuple elts kk tpos) (.Call (.Name "zip" p) [e, e2] [] pos) (iZipS X.K ta) := by
  refine ⟨fun pins s σ H R I h => Call_ (ld_blt I hg hm PyProof.Rows.boot_zip (PyProof.Rows.callWith_type1 (thn (ha.run pos pins s σ H _ I h) fun us s1 ⟨vs, H1, I1, r1, a, b, xs, ys, ex, hq, q⟩ => ?_) h1 h2))⟩
  subst ex
  cases r1 with
  | cons r rr =>
    cases rr with
    | cons r' rr =>
      cases rr
      cases r
      cases r'
      have five : ∀ c ∈ [s1.heap.objs.size + 4, s1.heap.objs.size + 2, s1.heap.objs.size + 3, s1.heap.objs.size, s1.heap.objs.size + 1], FpOk X pins H1 c := by
        intro c hc
        have le : s1.heap.objs.size ≤ c := by
          simp only [List.mem_cons, List.not_mem_nil, or_false] at hc
          rcases hc with z | z | z | z | z <;> rw [z] <;> first | exact Nat.le_add_right _ _ | exact Nat.le_refl _
        exact I1.fpOk le (I1.hok.fresh le)
      rcases hq with ⟨qx, qy⟩ | ⟨qx, qy⟩
      · obtain ⟨_, _, p1, _⟩ := I1.list qx
        obtain ⟨_, _, p2, _⟩ := I1.list qy
        refine call_zip_2 p1.isList p2.isList fun g hz hTI hTO i1 i2 _ hk => wpAny_pyIter_zip hz ?_
        exact ⟨_, [_, _, _, _, _], _, _, H1, rfl, I1.kept (t' := s1.toks) hk, turn_zip (PySem.W.ktu_apart s1.heap.objs.size a b p1.lt p2.lt), ⟨hz, hTI, ⟨_, _, hTO⟩, i1, i2⟩, five, q _ _ (walk_zip rfl) fun H' s t => ⟨s.1 qx, t.1 qy⟩⟩
      · obtain ⟨its1, _, p1, _⟩ := I1.tuple qx
        obtain ⟨its2, _, p2, _⟩ := I1.tuple qy
        obtain ⟨_, l1, _⟩ := id p1
        obtain ⟨_, l2, _⟩ := id p2
        refine call_zipT (show s1.heap.IsTuple a its1.toArray from p1) (show s1.heap.IsTuple b its2.toArray from p2) fun g hz hTI hTO i1 i2 _ hk => wpAny_pyIter_zip hz ?_
        exact ⟨_, [_, _, _, _, _], _, _, H1, rfl, I1.kept (t' := s1.toks) hk, turn_zipT (PySem.W.ktu_apart s1.heap.objs.size a b (Heap.lt_size l1) (Heap.lt_size l2)), ⟨hz, hTI, ⟨_, _, hTO⟩, i1, i2⟩, five,
          q _ _ (walk_zipT rfl) fun H' s t => ⟨s.2 qx, t.2 qy⟩⟩
/-! ### enumerate of a list or a tuple -/
def IteT (K : PySem.W.Frag) (a : Addr) (n : Nat) : It :=
  ⟨fun i H => ∃ (xs : List V) (x : V), SqT K H a xs ∧ xs.length = n ∧ xs[i]? = some x,
   fun i H v H' => ∃ T x, v = .ref T ∧ H T = none ∧ H' = upd H T (.tup [.int (i : Nat), x]) ∧ ∀ xs, SqT K H a xs → xs[i]? = some x,
   fun i H => ∃ xs : List V, SqT K H a xs ∧ xs.length = n ∧ n ≤ i⟩
theorem turn_enumT {P : Program} {w : World} {K : PySem.W.Frag} {elts : List Expr} {kk : Nat} {tpos : Pos} (a e it : Addr) (n : Nat) (hea : e ≠ a) (hia : a ≠ it) :
    Turn P w K (.Tuple elts kk tpos) (IteT K a n) [e, it] e (fun i h => ((∃ old, IsEnum h e it ((i : Nat) : Int) old) ∧ h.IsTupleIter it a i ∧ e ≠ it) ∧ i ≤ n) where
  mem := by simp
  obj := by
    rintro i h ⟨⟨⟨old, he⟩, ⟨o, ho, hc, hd⟩, _⟩, _⟩ b hb
    rcases (show b = e ∨ b = it by simpa using hb) with rfl | rfl
    · exact ⟨_, he, fun v q => nomatch q⟩
    · exact ⟨o, ho, fun v q => by rw [hd] at q; cases q⟩
  keep := by
    rintro i h h' ⟨⟨⟨old, he⟩, hi, hne⟩, hn⟩ k
    exact ⟨⟨⟨old, k e (by simp) _ he⟩, hi.at fun o q => k it (by simp) o q, hne⟩, hn⟩
  item := by
    rintro X rfl rfl rfl hc i pins s σ H E I hf ⟨⟨⟨old, he⟩, hit, hne⟩, hni⟩ ⟨xs, x, hq, hxn, hx⟩
    obtain ⟨its, rv, p, hz⟩ := I.tuple hq
    obtain ⟨u, hu, ru⟩ := rv.get hx
    have hel : e < s.heap.objs.size := Heap.lt_size he
    have hil : it < s.heap.objs.size := by obtain ⟨_, q, _⟩ := hit; exact Heap.lt_size q
    have pT : s.heap.IsTuple a its.toArray := p
    have il : i < its.toArray.size := by
      have := (List.getElem?_eq_some_iff.mp hu).1
      simpa using this
    refine wpAny_pyNext_enum_itemC (Draws.tuple (prog := X.prog) (w := X.w) (A := X.A.in1) (show X.A.in1.handled = none from I.ok.hd hc) it a hia its.toArray) he ⟨hit, pT⟩ il hne (by simp [hne, hea]) fun y h1 tk hy ho hst hT hsz hk => ?_
    have ey : y = u := by
      have hy' : its.toArray[i]? = some y := hy
      rw [List.getElem?_toArray, hu] at hy'
      exact (Option.some.inj hy').symm
    subst ey
    refine ⟨_, rfl, wpAny_letOwnedTupleGo_enum (s := { s with heap := h1, toks := tk + 1 }) ho fun h2 he2 sb => ?_⟩
    have hT2 : h2.get? s.heap.objs.size = some { cls := .type "tuple", data := .seq #[.int i tk, y] } := (sb.2 _ (Nat.ne_of_gt hel)).trans hT
    have new : ObjOk X.prog X.w (upd H s.heap.objs.size (.tup [.int (i : Nat), x])) h2 s.heap.objs.size (.tup [.int (i : Nat), x]) :=
      ⟨by show 2 ≤ sizeLine; decide, [.int i tk, y], .cons ⟨_, rfl⟩ (.cons ru .nil), ⟨_, hT2, rfl, _, rfl⟩⟩
    have I1 : Inv X pins σ (upd H s.heap.objs.size (.tup [.int (i : Nat), x])) { s with heap := h2, toks := tk + 1 } :=
      I.turnedNew (ch := [e, it]) (fun b ob hb q => (sb.2 b (fun z => hb (by simp [z]))).trans (hk b ob (fun z => hb (by simp [z])) (fun z => hb (by simp [z])) q)) hf (Nat.le_refl _) new
    refine ⟨.ref s.heap.objs.size, _, I1, rfl, ⟨_, x, rfl, I.hok.fresh (Nat.le_refl _), rfl, fun ys hy => by rw [I.tuple_inj hy hq]; exact hx⟩, ⟨⟨⟨y, ?_⟩, hst.1.at fun o q => (sb.2 it (Ne.symm hne)).trans q, hne⟩, ?_⟩, fun b hb => ?_⟩
    · rw [show ((i + 1 : Nat) : Int) = (i : Int) + 1 by omega]
      exact he2
    · have := (List.getElem?_eq_some_iff.mp hx).1
      omega
    · have lt : b < s.heap.objs.size := by
        rcases (show b = e ∨ b = it by simpa using hb) with rfl | rfl
        · exact hel
        · exact hil
      rw [upd_ne (Nat.ne_of_lt lt)]
      exact (hf b hb).1
  done := by
    rintro X rfl rfl rfl hc i pins s σ H E I hf ⟨⟨⟨old, he⟩, hit, hne⟩, hni⟩ ⟨xs, hq, hxn, hx⟩
    obtain ⟨its, rv, p, hz⟩ := I.tuple hq
    obtain ⟨f0, f1, f2, f3, f4, f5⟩ := hf it (by simp)
    have pT : s.heap.IsTuple a its.toArray := p
    have hl := rv.length
    have ei : i = its.toArray.size := by rw [List.size_toArray]; omega
    rw [ei] at hit
    exact wpAny_pyNext_enum_endD (Draws.tuple (prog := X.prog) (w := X.w) (A := X.A.in1) (show X.A.in1.handled = none from I.ok.hd hc) it a hia its.toArray) he ⟨hit, pT⟩
      fun h1 eb => ⟨rfl, I.turned (t' := s.toks) (fun b o hb q => eb b o hb q) f0 f1 f3 f4 f5⟩
  self := fun A i s Q E st h => let ⟨⟨⟨_, he⟩, _⟩, _⟩ := st; wpAny_pyIter_enum he h
theorem new_enumT (t : Addr) (items : Array Value) :
    Meets (Builtin.«enumerate.__new__» ⟨[.type "enumerate", .ref t], []⟩) (fun _ R s => s.heap.IsTuple t items ∧
      R (.ok (.ret (.ref (s.heap.objs.size + 1)))) { s with heap := (s.heap.push { cls := .type "tuple_iterator", data := .fields #[.ref t, .int 0 0] }).push { cls := .type "enumerate", data := .fields #[.none, .bool false, .ref s.heap.objs.size, rawInt 0, .none, .none] } }) :=
  .of_wp fun prog w A R s h => by
    obtain ⟨hp, g, d, tk, os⟩ := s
    obtain ⟨hl, h⟩ := h
    have e1 : (hp.push { cls := .type "tuple_iterator", data := .fields #[.ref t, .int 0 0] }).objs.size = hp.objs.size + 1 := Heap.size_push ..
    rw [← e1] at h
    have hsub := sub_enumerate
    obtain ⟨o, ho, ho2⟩ := id hl
    wp_walk using AutoSeq1.wpAny_loadPart' ho
    refine wpAny_stack_any fun st => wpAny_pure ?_
    split
    · rename_i c _ _ _ _ _
      cases (c == Value.type "enumerate")
      · wp_walk using wpAny_pyIter_tuple hl
        exact ⟨_, rfl, h⟩
      · wp_walk using wpAny_pyIter_tuple hl
        exact ⟨_, rfl, h⟩
    · wp_walk using wpAny_pyIter_tuple hl
      exact ⟨_, rfl, h⟩
theorem call_enumT {prog : Program} {w : World} {A : Around} {E : Value → Shared → Prop} {s : Shared} {t : Addr} {items : Array Value} {Q : Value → Shared → Prop} (hL : s.heap.IsTuple t items)
    (h : ∀ h', IsEnum h' (s.heap.objs.size + 1) s.heap.objs.size 0 .none → h'.IsTupleIter s.heap.objs.size t 0 → (∀ b o, s.heap.get? b = some o → h'.get? b = some o) → Q (.ref (s.heap.objs.size + 1)) { s with heap := h' }) :
    wpAny (model prog w) A (call (.type "enumerate") [.ref t]) Q E s := by
  refine callType_new F.called_enumerate (by decide) (F.typeCall_enumerate_1 _) (F.newCall_enumerate_1 _) (fun obj => F.args_object_init_2 obj _) F.entry_enumerate_new (new_enumT t items) ⟨hL, ?_⟩
  have e1 : (s.heap.push { cls := .type "tuple_iterator", data := .fields #[.ref t, .int 0 0] }).objs.size = s.heap.objs.size + 1 := Heap.size_push ..
  have he : IsEnum ((s.heap.push { cls := .type "tuple_iterator", data := .fields #[.ref t, .int 0 0] }).push { cls := .type "enumerate", data := .fields #[.none, .bool false, .ref s.heap.objs.size, rawInt 0, .none, .none] })
      (s.heap.objs.size + 1) s.heap.objs.size 0 .none := by
    have z := Heap.get?_push_size (s.heap.push { cls := .type "tuple_iterator", data := .fields #[.ref t, .int 0 0] }) (o := { cls := .type "enumerate", data := .fields #[.none, .bool false, .ref s.heap.objs.size, rawInt 0, .none, .none] }) rfl
    rw [e1] at z
    exact z
  exact ⟨⟨_, he, rfl⟩, h _ he ⟨_, Heap.get?_push_of_some _ (Heap.get?_push_size _ rfl), rfl, rfl⟩ fun b o x => Heap.get?_push_of_some _ (Heap.get?_push_of_some _ x)⟩
theorem walk_enumT {K : PySem.W.Frag} {a : Addr} {xs : List V} : Walk (IteT K a xs.length) xs.length (fun H => SqT K H a xs) (YPair (fun i => some (.int (i : Nat))) (fun i => xs[i]?)) := by
  refine ⟨fun i _ hi q => ⟨xs, xs[i], q, rfl, by simp [hi]⟩, fun _ q => ⟨xs, q, rfl, Nat.le_refl _⟩, fun i H v H' _ q y => ?_⟩
  obtain ⟨T, x, h1, h2, h3, h4⟩ := y
  exact ⟨T, .int (i : Nat), x, h1, h2, h3, rfl, h4 xs q⟩
def iEnumS (K : PySem.W.Frag) (ta : TA) : TI := fun σ H R => ta σ H fun vs H1 => ∃ a xs, vs = [.ref a] ∧ SeqA K H1 a xs ∧
  ∀ (J : It) (G : Hp → Prop), Walk J xs.length G (YPair (fun i => some (.int (i : Nat))) (fun i => xs[i]?)) → (∀ H', KeepS K H1 H' a xs → G H') → R J H1
theorem pi_enumS {X : Cx} {e : Expr} {ta : TA} {p pos tpos : Pos} {elts : List Expr} {kk : Nat} (hg : Gl X "enumerate") (hm : X.mg "enumerate" = none) (ha : PA X [e] ta) (hs : starEach [e] X.env = [(false, eval e X.env)] := by rfl) :
    PI X (.Tuple elts kk tpos) (.Call (.Name "enumerate" p) [e] [] pos) (iEnumS X.K ta) := by
  refine ⟨fun pins s σ H R I h => ?_⟩
  refine Call_ (ld_blt I hg hm boot_enumerate (PyProof.Rows.callWith_type1 (thn (ha.run pos pins s σ H _ I h) fun us s1 ⟨vs, H1, I1, r1, a, xs, ex, hq, q⟩ => ?_) hs rfl))
  subst ex
  cases r1 with
  | cons r rr =>
    cases rr
    cases r
    have two : ∀ b ∈ [s1.heap.objs.size + 1, s1.heap.objs.size], FpOk X pins H1 b := by
      intro b hb
      have le : s1.heap.objs.size ≤ b := by
        rcases (show b = s1.heap.objs.size + 1 ∨ b = s1.heap.objs.size by simpa using hb) with z | z
        · rw [z]; exact Nat.le_succ _
        · rw [z]; exact Nat.le_refl _
      exact I1.fpOk le (I1.hok.fresh le)
    rcases hq with hq | hq
    · obtain ⟨its, rv, p', hz⟩ := I1.list hq
      refine call_enumerate_list p'.isList fun h' he hit hsz hk => wpAny_pyIter_enum he ?_
      exact ⟨s1.heap.objs.size + 1, [_, _], _, _, H1, rfl, I1.kept (t' := s1.toks) hk, turn_enum a (s1.heap.objs.size + 1) s1.heap.objs.size, ⟨⟨.none, he⟩, hit, Nat.succ_ne_self _⟩, two, q _ _ walk_enum fun H' s => s.1 hq⟩
    · obtain ⟨its, rv, p', hz⟩ := I1.tuple hq
      have pT : s1.heap.IsTuple a its.toArray := p'
      obtain ⟨o, ho, _⟩ := id pT
      have lt := Heap.lt_size ho
      refine call_enumT pT fun h' he hit hk => wpAny_pyIter_enum he ?_
      exact ⟨s1.heap.objs.size + 1, [_, _], _, _, H1, rfl, I1.kept (t' := s1.toks) hk, turn_enumT a (s1.heap.objs.size + 1) s1.heap.objs.size xs.length (Nat.ne_of_gt (Nat.lt_succ_of_lt lt)) (Nat.ne_of_lt lt),
        ⟨⟨⟨.none, he⟩, hit, Nat.succ_ne_self _⟩, Nat.zero_le _⟩, two, q _ _ walk_enumT fun H' s => s.2 hq⟩
/-! ### zip of a tuple and a list -/
def ItzM (K : PySem.W.Frag) (a b : Addr) : It :=
  ⟨fun i H => ∃ (xs ys : List V) (x y : V), SqT K H a xs ∧ SqL K H b ys ∧ xs[i]? = some x ∧ ys[i]? = some y,
    fun i H v H' => ∃ T x y, v = .ref T ∧ H T = none ∧ H' = upd H T (.tup [x, y]) ∧ (∀ xs, SqT K H a xs → xs[i]? = some x) ∧ ∀ ys, SqL K H b ys → ys[i]? = some y,
    fun i H => ∃ xs ys : List V, SqT K H a xs ∧ SqL K H b ys ∧ i = min xs.length ys.length⟩
theorem sep_new {I l1 l2 : Nat} (h1 : l1 < I) (h2 : l2 < I) : ZipSep2 (I + 4) (I + 2) (I + 3) I (I + 1) [I, l1] [I + 1, l2] := by
  have n1 : ∀ k, I + k ≠ l1 := fun k => PySem.W.neN (by omega)
  have n2 : ∀ k, I + k ≠ l2 := fun k => PySem.W.neN (by omega)
  constructor
  · exact PySem.W.neN (by omega)
  · exact PySem.W.neN (by omega)
  · exact PySem.W.neN (by omega)
  · exact PySem.W.neN (by omega)
  · exact List.mem_cons_self ..
  · intro h; rcases List.mem_cons.mp h with h | h
    · exact PySem.W.neN (by omega) h
    · exact n1 4 (List.mem_singleton.mp h)
  · intro h; rcases List.mem_cons.mp h with h | h
    · exact PySem.W.neN (by omega) h
    · exact n1 3 (List.mem_singleton.mp h)
  · exact PySem.W.neN (by omega)
  · exact List.mem_cons_self ..
  · intro h; rcases List.mem_cons.mp h with h | h
    · exact PySem.W.neN (by omega) h
    · exact n2 4 (List.mem_singleton.mp h)
  · intro h; rcases List.mem_cons.mp h with h | h
    · exact PySem.W.neN (by omega) h
    · exact n2 3 (List.mem_singleton.mp h)
  · intro h; rcases List.mem_cons.mp h with h | h
    · exact PySem.W.neN (by omega) h
    · exact n2 0 (List.mem_singleton.mp h)
  · intro h; rcases List.mem_cons.mp h with h | h
    · exact PySem.W.neN (by omega) h
    · exact n1 1 (List.mem_singleton.mp h)
theorem turn_zipM {P : Program} {w : World} {K : PySem.W.Frag} {elts : List Expr} {kk : Nat} {tpos : Pos} {a b z TI TO i1 i2 : Addr} (S : ZipSep2 z TI TO i1 i2 [i1, a] [i2, b]) (na : a ≠ i1) (nb : b ≠ i2) :
    Turn P w K (.Tuple elts kk tpos) (ItzM K a b) [z, TI, TO, i1, i2] z (fun i h => IsZip h z TI TO .none ∧ IsTupOf2 h TI (.ref i1) (.ref i2) ∧ (∃ x y, IsTupOf2 h TO x y) ∧ h.IsTupleIter i1 a i ∧ h.IsListIter i2 b i) where
  mem := by simp
  obj := fun i h st c hc => by
    obtain ⟨hz, hTI, ⟨x, y, hTO⟩, ⟨o1, e1, _, d1⟩, ⟨o2, e2, _, d2⟩⟩ := st
    have e' : c = z ∨ c = TI ∨ c = TO ∨ c = i1 ∨ c = i2 := by simpa using hc
    rcases e' with q | q | q | q | q
    · rw [q]; exact ⟨_, hz, fun v q => nomatch q⟩
    · rw [q]; exact ⟨_, hTI, fun v q => nomatch q⟩
    · rw [q]; exact ⟨_, hTO, fun v q => nomatch q⟩
    · rw [q]; exact ⟨o1, e1, fun v q => by rw [d1] at q; cases q⟩
    · rw [q]; exact ⟨o2, e2, fun v q => by rw [d2] at q; cases q⟩
  keep := fun i h h' st k => by
    obtain ⟨hz, hTI, ⟨x, y, hTO⟩, h1, h2⟩ := st
    exact ⟨k z (by simp) _ hz, k TI (by simp) _ hTI, ⟨x, y, k TO (by simp) _ hTO⟩, h1.at fun o q => k i1 (by simp) o q, h2.at fun o q => k i2 (by simp) o q⟩
  item := by
    intro X hP hw hK hc i pins s σ H E I hf st hg
    subst hP hw hK
    obtain ⟨hz, hTI, ⟨x0, y0, hTO⟩, h1, h2⟩ := st
    obtain ⟨xs, ys, x, y, hqx, hqy, hx, hy⟩ := hg
    obtain ⟨its, rv, p, _⟩ := I.tuple hqx
    obtain ⟨its2, rv2, p2, _⟩ := I.list hqy
    obtain ⟨u, hu, ru⟩ := rv.get hx
    obtain ⟨u2, hu2, ru2⟩ := rv2.get hy
    have pT : s.heap.IsTuple a its.toArray := p
    have hzl : z < s.heap.objs.size := Heap.lt_size hz
    have l1 : i < its.toArray.size := by simpa using (List.getElem?_eq_some_iff.mp hu).1
    have l2 : i < its2.toArray.size := by simpa using (List.getElem?_eq_some_iff.mp hu2).1
    have hd : X.A.in1.handled = none := I.ok.hd hc
    refine wpAny_pyNext_zipD2_item S (Draws.tuple (prog := X.prog) (w := X.w) (A := X.A.in1) hd i1 a na its.toArray) (Draws.list (prog := X.prog) (w := X.w) (A := X.A.in1) hd i2 b nb its2.toArray) hz hTI hTO ⟨h1, pT⟩ ⟨h2, p2.isList⟩ l1 l2 fun x1 x2 h' tk y1 y2 z' TO' d1 d2 hT hsz hk => ?_
    obtain rfl : x1 = u := by
      have y1' : its.toArray[i]? = some x1 := y1
      rw [List.getElem?_toArray, hu] at y1'
      exact (Option.some.inj y1').symm
    obtain rfl : x2 = u2 := by
      have y2' : its2.toArray[i]? = some x2 := y2
      rw [List.getElem?_toArray, hu2] at y2'
      exact (Option.some.inj y2').symm
    refine ⟨_, rfl, wpAny_letOwnedTupleGo_zip (s := { s with heap := h', toks := tk }) z' fun h'' z'' sb => ?_⟩
    have hT2 : h''.get? s.heap.objs.size = some { cls := .type "tuple", data := .seq #[x1, x2] } := (sb.2 _ (Nat.ne_of_gt hzl)).trans hT
    have new : ObjOk X.prog X.w (upd H s.heap.objs.size (.tup [x, y])) h'' s.heap.objs.size (.tup [x, y]) :=
      ⟨by show 2 ≤ sizeLine; decide, [x1, x2], .cons ru (.cons ru2 .nil), ⟨_, hT2, rfl, _, rfl⟩⟩
    have I1 : Inv X pins σ (upd H s.heap.objs.size (.tup [x, y])) { s with heap := h'', toks := tk } :=
      I.turnedNew (t' := tk) (ch := [z, TI, TO, i1, i2]) (fun c o hb q => (sb.2 c (fun q' => hb (by simp [q']))).trans (hk c o (fun q' => hb (by simp [q'])) (fun q' => hb (by simp [q'])) (fun q' => hb (by simp [q'])) (fun q' => hb (by simp [q'])) q)) hf (Nat.le_refl _) new
    refine ⟨.ref s.heap.objs.size, _, I1, rfl, ⟨_, x, y, rfl, I.hok.fresh (Nat.le_refl _), rfl, fun l hl => by rw [I.tuple_inj hl hqx]; exact hx, fun l hl => by rw [I.list_inj hl hqy]; exact hy⟩, ⟨z'', ?_, ⟨x1, x2, ?_⟩, ?_, ?_⟩, fun c hcm => ?_⟩
    · exact (sb.2 _ S.TIz).trans (hk _ _ S.TIz S.TITO S.TIi1 S.TIi2 hTI)
    · exact (sb.2 _ S.TOz).trans TO'
    · exact d1.1.at fun o q => (sb.2 _ S.zi1.symm).trans q
    · exact d2.1.at fun o q => (sb.2 _ S.zi2.symm).trans q
    · have hlt : c < s.heap.objs.size := by
        have e' : c = z ∨ c = TI ∨ c = TO ∨ c = i1 ∨ c = i2 := by simpa using hcm
        rcases e' with q | q | q | q | q
        · rw [q]; exact hzl
        · rw [q]; exact Heap.lt_size hTI
        · rw [q]; exact Heap.lt_size hTO
        · rw [q]; obtain ⟨_, e1, _⟩ := h1; exact Heap.lt_size e1
        · rw [q]; obtain ⟨_, e2, _⟩ := h2; exact Heap.lt_size e2
      rw [upd_ne (Nat.ne_of_lt hlt)]
      exact (hf c hcm).1
  done := by
    intro X hP hw hK hc i pins s σ H E I hf st hg
    subst hP hw hK
    obtain ⟨hz, hTI, ⟨x0, y0, hTO⟩, h1, h2⟩ := st
    obtain ⟨xs, ys, hqx, hqy, hend⟩ := hg
    obtain ⟨its, rv, p, _⟩ := I.tuple hqx
    obtain ⟨its2, rv2, p2, _⟩ := I.list hqy
    have pT : s.heap.IsTuple a its.toArray := p
    have l1 := rv.length
    have l2 := rv2.length
    have hd : X.A.in1.handled = none := I.ok.hd hc
    have z1 : its.toArray.size = xs.length := by rw [List.size_toArray]; omega
    have z2 : its2.toArray.size = ys.length := by rw [List.size_toArray]; omega
    exact wpAny_pyNext_zipD2_end S (Draws.tuple (prog := X.prog) (w := X.w) (A := X.A.in1) hd i1 a na its.toArray) (Draws.list (prog := X.prog) (w := X.w) (A := X.A.in1) hd i2 b nb its2.toArray) hz hTI hTO ⟨h1, pT⟩ ⟨h2, p2.isList⟩ (by omega) (by omega) (by omega)
      fun h' tk hk => ⟨rfl, I.turnedL (t' := tk) (ch := [z, TI, TO, i1, i2]) (fun c o hb q =>
        hk c o (fun q' => hb (by simp [q'])) (fun q' => hb (by simp [q'])) (fun q' => hb (by simp [q'])) (fun q' => hb (by simp [q'])) q) hf⟩
  self := fun A i s Q E st h => wpAny_pyIter_zip st.1 h
theorem walk_zipM {K : PySem.W.Frag} {a b : Addr} {xs ys : List V} {n : Nat} (hn : n = min xs.length ys.length) : Walk (ItzM K a b) n (fun H => SqT K H a xs ∧ SqL K H b ys) (YPair (fun i => xs[i]?) (fun i => ys[i]?)) where
  goes := fun i H hi ⟨h1, h2⟩ => ⟨xs, ys, xs[i]'(by omega), ys[i]'(by omega), h1, h2, List.getElem?_eq_getElem _, List.getElem?_eq_getElem _⟩
  stops := fun H ⟨h1, h2⟩ => ⟨xs, ys, h1, h2, hn⟩
  yields := fun i H x H' hi ⟨h1, h2⟩ ⟨T, x1, y1, e1, e2, e3, e4, e5⟩ => ⟨T, x1, y1, e1, e2, e3, e4 _ h1, e5 _ h2⟩
/-- a list or a tuple, and a list -/
def iZipM (K : PySem.W.Frag) (ta : TA) : TI := fun σ H R => ta σ H fun vs H1 => ∃ a b xs ys, vs = [.ref a, .ref b] ∧ SeqA K H1 a xs ∧ SqL K H1 b ys ∧
  ∀ (J : It) (G : Hp → Prop), Walk J (min xs.length ys.length) G (YPair (fun i => xs[i]?) (fun i => ys[i]?)) → (∀ H', KeepS K H1 H' a xs → KeepS K H1 H' b ys → G H') → R J H1
theorem pi_zipM {X : Cx} {e e2 : Expr} {ta : TA} {p pos tpos : Pos} {elts : List Expr} {kk : Nat} (hg : Gl X "zip") (hm : X.mg "zip" = none) (ha : PA X [e, e2] ta)
    (h1 : starEach [e, e2] X.env = (false, eval e X.env) :: starEach [e2] X.env := by rfl) (h2 : (backTo pos (starEach [e2] X.env)).any (·.1) = false := by rfl) :
    PI X (.Tuple elts kk tpos) (.Call (.Name "zip" p) [e, e2] [] pos) (iZipM X.K ta) := by
  refine ⟨fun pins s σ H R I h => Call_ (ld_blt I hg hm PyProof.Rows.boot_zip (PyProof.Rows.callWith_type1 (thn (ha.run pos pins s σ H _ I h) fun us s1 ⟨vs, H1, I1, r1, a, b, xs, ys, ex, hq, qy, q⟩ => ?_) h1 h2))⟩
  subst ex
  cases r1 with
  | cons r rr =>
    cases rr with
    | cons r' rr =>
      cases rr
      cases r
      cases r'
      have five : ∀ c ∈ [s1.heap.objs.size + 4, s1.heap.objs.size + 2, s1.heap.objs.size + 3, s1.heap.objs.size, s1.heap.objs.size + 1], FpOk X pins H1 c := by
        intro c hc
        have le : s1.heap.objs.size ≤ c := by
          simp only [List.mem_cons, List.not_mem_nil, or_false] at hc
          rcases hc with z | z | z | z | z <;> rw [z] <;> first | exact Nat.le_add_right _ _ | exact Nat.le_refl _
        exact I1.fpOk le (I1.hok.fresh le)
      rcases hq with qx | qx
      · obtain ⟨_, _, p1, _⟩ := I1.list qx
        obtain ⟨_, _, p2, _⟩ := I1.list qy
        refine call_zip_2 p1.isList p2.isList fun g hz hTI hTO i1 i2 _ hk => wpAny_pyIter_zip hz ?_
        exact ⟨_, [_, _, _, _, _], _, _, H1, rfl, I1.kept (t' := s1.toks) hk, turn_zip (PySem.W.ktu_apart s1.heap.objs.size a b p1.lt p2.lt), ⟨hz, hTI, ⟨_, _, hTO⟩, i1, i2⟩, five, q _ _ (walk_zip rfl) fun H' s t => ⟨s.1 qx, t.1 qy⟩⟩
      · obtain ⟨its1, _, p1, _⟩ := I1.tuple qx
        obtain ⟨its2, _, p2, _⟩ := I1.list qy
        obtain ⟨_, l1, _⟩ := id p1
        have ll1 := Heap.lt_size l1
        have ll2 : b < s1.heap.objs.size := p2.lt
        refine zip_begins2 (begins_tuple a its1.toArray) (begins_list b its2.toArray) (show s1.heap.IsTuple a its1.toArray from p1) p2.isList fun g hz hTI hTO g1 g2 _ hk => wpAny_pyIter_zip hz ?_
        exact ⟨_, [_, _, _, _, _], _, _, H1, rfl, I1.kept (t' := s1.toks) hk, turn_zipM (sep_new ll1 ll2) (Nat.ne_of_lt ll1) (Nat.ne_of_lt (Nat.lt_succ_of_lt ll2)), ⟨hz, hTI, ⟨_, _, hTO⟩, ⟨_, g1, rfl, rfl⟩, ⟨_, g2, rfl, rfl⟩⟩, five,
          q _ _ (walk_zipM rfl) fun H' s t => ⟨s.2 qx, t.1 qy⟩⟩
end WQ
end

section
set_option Elab.async false
set_option linter.all false
set_option maxRecDepth 100000
set_option maxHeartbeats 4000000
namespace WW
open PySem L2 WO WG RZ WQ WT WC
abbrev sIsRow : Stmt := top 40
abbrev sNeedRow : Stmt := top 41
abbrev sIsRun : Stmt := top 50
abbrev sNeedRun : Stmt := top 51
/-! ### rows -/
def Asc0 (ns : List Int) : Prop := ∃ r, ns = 0 :: r ∧ ns.Pairwise (· ≤ ·)
def RowOk (o : Option (List V)) : Prop := ∃ ns : List Int, o = some (ns.map V.int) ∧ Asc0 ns
/-- what stands in the place of a row -/
inductive RowIn (K : PySem.W.Frag) (H : Hp) : V → Option (List V) → Prop
  | no {x : V} (h : ListT K H x false) : RowIn K H x none
  | gen {a : Addr} {xs : List V} (h : SeqA K H a xs) (nf : ∀ x ∈ xs, ∀ H', Same H H' → NumT K H' x (numV x)) (l : xs.length ≤ 1001) : RowIn K H (.ref a) (some xs)
theorem RowIn.seq {K : PySem.W.Frag} {H : Hp} {a : Addr} {xs : List V} (h : SeqA K H a xs) (fl : xs.all flatV = true) (l : xs.length ≤ 1001) : RowIn K H (.ref a) (some xs) :=
  .gen h (fun x hx _ _ => numT_flat ((List.all_eq_true.mp fl) x hx)) l
theorem RowIn.same {K : PySem.W.Frag} {H H' : Hp} {x : V} {o : Option (List V)} (h : RowIn K H x o) (s : Same H H') : RowIn K H' x o := by
  cases h with
  | no h => exact .no (h.same s)
  | gen h fl l => exact .gen (h.same s) (fun x hx H2 s2 => fl x hx H2 (Same.trans s s2)) l
theorem ints_inj {ns ms : List Int} (h : ns.map V.int = ms.map V.int) : ns = ms := (List.map_inj_right fun a b h => V.int.inj h).mp h
theorem take_snocW {α : Type} {xs : List α} {i : Nat} {x : α} (h : xs[i]? = some x) : xs.take (i + 1) = xs.take i ++ [x] := by
  rw [List.take_add_one, h]
  rfl
def bls (bs : List Bool) : List V := bs.map V.bl
theorem bls_snoc (bs : List Bool) (b : Bool) : bls bs ++ [.bl b] = bls (bs ++ [b]) := by unfold bls; rw [List.map_append]; rfl
theorem bls_len (bs : List Bool) : (bls bs).length = bs.length := List.length_map ..
theorem small1001 {n : Nat} (h : n ≤ 1001) : n < sizeLine := Nat.lt_of_le_of_lt h (by decide)
/-- each one at most the next one -/
def steps (ns : List Int) : List Bool := (List.zip ns (ns.drop 1)).map fun p => decide (p.1 ≤ p.2)
theorem steps_pw : ∀ ns : List Int, (steps ns).all id = true ↔ ns.Pairwise (· ≤ ·)
  | [] => by simp [steps]
  | [a] => by simp [steps]
  | a :: b :: r => by
    have ih := steps_pw (b :: r)
    have e : steps (a :: b :: r) = decide (a ≤ b) :: steps (b :: r) := rfl
    rw [e, List.all_cons, Bool.and_eq_true, ih]
    constructor
    · rintro ⟨h1, h2⟩
      have h1' : a ≤ b := of_decide_eq_true h1
      refine .cons (fun z hz => ?_) h2
      rcases List.mem_cons.mp hz with rfl | hz
      · exact h1'
      · exact Int.le_trans h1' ((List.pairwise_cons.mp h2).1 z hz)
    · intro h
      exact ⟨decide_eq_true ((List.pairwise_cons.mp h).1 b (List.mem_cons_self ..)), (List.pairwise_cons.mp h).2⟩
section
variable {P : Program} {w : World} {K : PySem.W.Frag} {mg : Str → Option Value} {base : Heap}
def spIsRow (K : PySem.W.Frag) : Sp := fun vs H Q _ => ∃ (x : V) (o : Option (List V)), vs = [x] ∧ RowIn K H x o ∧ ∀ (b : Bool) H', Same H H' → (b = true ↔ RowOk o) → Q (.bl b) H'
abbrev nIsRow : List Str := ["thing", "one", "two"]
theorem scIsRow : FnScope nIsRow ["thing"] (defScope sIsRow) := ⟨rfl, rfl, rfl, by decide +kernel, rfl, by decide +kernel, by decide +kernel⟩
theorem ok_isRow {f fL fN : Addr} {fd dL dN : FuncData} (F : Fun K "is_row" "is_row" sIsRow f fd) (T : CurG mg) (MB : ∃ t, mg "MOST_BEATS" = some (.int 1000 t))
    (GL : FnOk P w K mg base CX0 1 fL dL ["thing"] (spIsList K)) (kL : PySem.W.keepIn K (.ref fL) = true) (bL : Binds K dL ["thing"] []) (mL : mg "is_list" = some (.ref fL))
    (GN : FnOk P w K mg base CX0 1 fN dN ["thing"] (spNum K)) (kN : PySem.W.keepIn K (.ref fN) = true) (bN : Binds K dN ["thing"] []) (mN : mg "is_number" = some (.ref fN)) :
    FnOk P w K mg base CX0 2 f fd ["thing"] (spIsRow K) := by
  refine F.ok scIsRow (fun vs H Q E h => ?_) (fun cdv A outer s H vs Q E hr h => ?_)
  · obtain ⟨x, o, rfl, _⟩ := h
    rfl
  · obtain ⟨x, o, rfl, h, k⟩ := h
    obtain ⟨tm, mM⟩ := MB
    refine ⟨_, pss_cons (ps_if (PW.pt (pw_or (pt_not (pt_val (pe_call GL hr rfl mL kL bL .nil pass0 (pa_cons (pv 0) pa_nil))))
          (pw_or1 (pt_not (pt_chain op_le op_le pe_int (pe_callB call_len_seq (by rfl) T.len PySem.boot_len (pa_cons (pv 0) pa_nil)) (pe_op op_add (pe_glob (v := .int 1000) rfl mM ⟨_, rfl⟩) pe_int))))))
        (pss_one (ps_ret pe_bl)) pss_nil)
      (pss_cons (ps_if (PW.pt (pw_or (pt_not (pt_val (pe_callB (cr_all rfl) (by rfl) T.all (by decide +kernel) (pa_cons
            (pe_lc (own := [("one", 1)]) (g := gName 1) (tt := tYes) rfl scIsRow.nd (pi_seq (pv 0)) (blkOk_by (N := nIsRow) (sc := defScope sIsRow) (by decide +kernel)) (fun _ _ _ _ _ => pg_name (i := 1) scIsRow.nd rfl (Or.inl rfl)) (fun _ _ _ _ _ => pts_nil)
              (fun _ _ _ _ _ => pe_call GN hr rfl mN kN bN .nil pass0 (pa_cons (pv 1) pa_nil))) pa_nil))))
          (pw_or1 (pt_cmpR op_ne (pe_ix ix_seq (pv 0) pe_int (fun _ _ => rfl)) pe_int (nomark _)))))
        (pss_one (ps_ret pe_bl)) pss_nil)
      (pss_one (ps_ret (pe_callB (cr_all rfl) (by rfl) T.all (by decide +kernel) (pa_cons
            (pe_lc (own := [("one", 1), ("two", 2)]) (g := gTup K 2 (gCons (gName 1) (gCons (gName 2) gNil))) (tt := tYes) rfl scIsRow.nd (pi_zipS (by rfl) T.zip (pa_cons (pv 0) (pa_cons (pe_slice sl_seqC (pv 0) (po_some pe_int) po_none) pa_nil))) (blkOk_by (N := nIsRow) (sc := defScope sIsRow) (by decide +kernel))
              (fun _ _ _ _ _ => pg_tup rfl (pgs_cons (pg_name (i := 1) scIsRow.nd rfl (Or.inl rfl)) (pgs_cons (pg_name (i := 2) scIsRow.nd rfl (Or.inl rfl)) pgs_nil))) (fun _ _ _ _ _ => pts_nil)
              (fun _ _ _ _ _ => pe_cmpR op_le (pv 1) (pv 2) (nomark _))) pa_nil))))), ?_⟩
    have no : ∀ {H' : Hp}, Same H H' → ¬ RowOk o → Q (.bl false) H' := fun s n => k false _ s ⟨fun z => (by cases z), fun z => absurd z n⟩
    cases h with
    | no h =>
      exact ⟨_, rfl, x, false, rfl, h, fun H1 s1 => ⟨false, rfl, iteT (no s1 (by rintro ⟨ns, e, _⟩; cases e))⟩⟩
    | @gen a xs h fl l =>
      refine ⟨_, rfl, .ref a, true, rfl, listT_seq h, fun H1 s1 => ⟨true, rfl, iteF ?_⟩⟩
      have h1 := h.same s1
      refine ⟨_, rfl, a, xs, rfl, h1, _, _, rfl, rfl, ?_⟩
      by_cases c1 : 1 ≤ xs.length
      · refine ⟨true, bT (by omega), iteT ⟨_, _, rfl, rfl, _, _, rfl, rfl, true, bT (by show (xs.length : Int) ≤ 1000 + 1; omega), iteF ?_⟩⟩
        refine ⟨_, rfl, a, xs, rfl, h1, fun J G wk st D hD => lc_it wk (fun i H2 => ∃ bs : List Bool, H2 D = some (.lst (bls bs)) ∧ bs = (xs.take i).map numV ∧ Same H1 H2) ⟨[], upd_same, rfl, same_new hD⟩ (fun i H2 _ ⟨_, _, _, s2⟩ => st _ (.of s2 _ _)) ?_ ?_⟩
        · rintro i x H2 H2' hi ⟨bs, hd, e, s2⟩ ⟨rfl, hx⟩
          have fx := fl x (List.mem_of_getElem? hx) _ (Same.trans s1 s2)
          refine ⟨rfl, _, rfl, x, numV x, rfl, fx, _, hd, ?_, bs ++ [numV x], ?_, ?_, fun b o e => by rw [upd_ne (ne_of_none e hD)]; exact s2 b o e⟩
          · rw [bls_len, e, List.length_map, List.length_take]
            exact small1001 (by omega)
          · rw [bls_snoc]
            exact upd_same
          · rw [take_snocW hx, List.map_append, e]
            rfl
        · rintro H2 ⟨bs, hd, e, s2⟩
          rw [List.take_length] at e
          refine ⟨D, bs, rfl, SqL.of hd, ?_⟩
          have e2 : bs.all id = xs.all numV := by rw [e, List.all_map]; rfl
          rw [e2]
          have sA := Same.trans s1 s2
          cases cN : xs.all numV with
          | false =>
            refine ⟨false, rfl, iteT (no sA ?_)⟩
            rintro ⟨ns, e, _⟩
            cases e
            rw [ints_all] at cN
            cases cN
          | true =>
            refine ⟨true, rfl, iteF ?_⟩
            obtain ⟨ns, rfl⟩ := all_ints cN
            have h2 := h.same sA
            cases ns with
            | nil => exact absurd c1 (by simp)
            | cons n0 r =>
              have ixr : ∀ Q : VK, Q (.int n0) H2 → rIx K (.ref a) (.int 0) H2 Q := fun Q q => by
                rcases h2 with h2 | h2
                · exact .inl ⟨a, _, _, _, rfl, rfl, h2, atI_nat (j := 0) rfl, q⟩
                · exact .inr (.inl ⟨a, _, _, _, rfl, rfl, h2, atI_nat (j := 0) rfl, q⟩)
              refine ⟨_, rfl, ixr _ ⟨rfl, !decide (V.int n0 = V.int 0), rfl, ?_⟩⟩
              by_cases c0 : n0 = 0
              · subst c0
                rw [decide_eq_true rfl]
                refine iteF ⟨_, rfl, _, rfl, 1, rfl, a, _, rfl, h2, fun H3 p s3 hp hpT hpL => ?_⟩
                rw [cut1 (by rw [List.length_map]; exact Nat.succ_le_succ (Nat.zero_le _))] at hp hpT hpL
                have h3 := h2.same s3
                have pr : SeqP K H3 a ((0 :: r).map V.int) p (((0 :: r).map V.int).drop 1) := by
                  rcases h2 with g | g
                  · exact .inl ⟨Same.seq s3 g, hpL _ g⟩
                  · exact .inr ⟨seqT s3 g, hpT _ g⟩
                have ln : min ((0 :: r).map V.int).length (((0 :: r).map V.int).drop 1).length = r.length := by simp
                refine ⟨a, p, _, _, rfl, pr, fun J G wk st D2 hD2 => lc_it wk (fun i H4 => ∃ bs : List Bool, H4 D2 = some (.lst (bls bs)) ∧ bs = (steps (0 :: r)).take i ∧ Same H3 H4) ⟨[], upd_same, rfl, same_new hD2⟩ (fun i H4 _ ⟨_, _, _, s4⟩ => st _ (.of s4 _ _) (.of s4 _ _)) ?_ ?_⟩
                · rintro i v H4 H5 hi ⟨bs, hd4, e4, s4⟩ ⟨t, x, y, rfl, ht, rfl, hx, hy⟩
                  rw [ln] at hi
                  dsimp only at hx hy
                  rw [List.getElem?_map] at hx
                  rw [List.getElem?_drop, List.getElem?_map, Nat.add_comm] at hy
                  obtain ⟨u, hu⟩ : ∃ u, (0 :: r : List Int)[i]? = some u := ⟨_, List.getElem?_eq_getElem (by simp; omega)⟩
                  obtain ⟨z, hz⟩ : ∃ z, (0 :: r : List Int)[i + 1]? = some z := ⟨_, List.getElem?_eq_getElem (by simp; omega)⟩
                  rw [hu] at hx
                  rw [hz] at hy
                  cases hx
                  cases hy
                  have es : (steps (0 :: r))[i]? = some (decide (u ≤ z)) := by
                    unfold steps
                    rw [List.getElem?_map, (List.getElem?_zip_eq_some (z := (u, z))).mpr ⟨hu, by rw [List.getElem?_drop, Nat.add_comm]; exact hz⟩]
                    rfl
                  refine ⟨t, [_, _], rfl, SqT.of upd_same, rfl, _, _, rfl, _, _, rfl, rfl, rfl, _, rfl, _, rfl, _, _, rfl, rfl, bls bs, ?_, ?_, bs ++ [decide (u ≤ z)], ?_, ?_, fun b o e => by rw [upd_ne (ne_of_none e hD2), upd_ne (ne_of_none (s4 _ _ e) ht)]; exact s4 _ _ e⟩
                  · rw [upd_ne (ne_of_none hd4 ht)]; exact hd4
                  · rw [bls_len, e4, List.length_take]
                    rw [List.length_map, List.length_cons] at l
                    exact small1001 (by omega)
                  · rw [bls_snoc]
                    exact upd_same
                  · rw [take_snocW es, e4]
                · rintro H4 ⟨bs, hd4, e4, s4⟩
                  have ls : (steps (0 :: r)).length = r.length := by simp [steps]
                  rw [ln, ← ls, List.take_length] at e4
                  refine ⟨D2, bs, rfl, SqL.of hd4, k _ _ (Same.trans sA (Same.trans s3 s4)) ?_⟩
                  rw [e4, steps_pw]
                  constructor
                  · intro pw
                    exact ⟨_, rfl, r, rfl, pw⟩
                  · rintro ⟨ns, e, r', e', pw⟩
                    have := ints_inj (Option.some.inj e)
                    rw [this]
                    exact pw
              · have e0 : decide (V.int n0 = V.int 0) = false := decide_eq_false fun z => c0 (V.int.inj z)
                rw [e0]
                refine iteT (no sA ?_)
                rintro ⟨ns, e, r', e', _⟩
                have := ints_inj (Option.some.inj e)
                rw [e'] at this
                exact c0 (List.cons.inj this).1
      · refine ⟨false, bF (by omega), iteF ⟨false, rfl, iteT (no s1 ?_)⟩⟩
        rintro ⟨ns, e, r, rfl, _⟩
        have := congrArg List.length (Option.some.inj e)
        simp at this
        omega
end
/-! ### runs -/
abbrev Two : Type := Option (Option (List V) × Option (List V))
def RunPair (cs gs : List Int) : Prop := Asc0 cs ∧ Asc0 gs ∧ cs.length = gs.length ∧ ∀ (i : Nat) (c g : Int), cs[i]? = some c → gs[i]? = some g → g ≤ c
def RunOk (o : Two) : Prop := ∃ cs gs : List Int, o = some (some (cs.map V.int), some (gs.map V.int)) ∧ RunPair cs gs
def NoTup (K : PySem.W.Frag) (H : Hp) (x : V) : Prop := ∃ t : Value, TyX K H x t ∧ PySem.W.kitOne K t (.type "tuple") = some false
inductive ThIn (K : PySem.W.Frag) (H : Hp) : V → Two → Prop
  | no {x : V} (h : NoTup K H x) : ThIn K H x none
  | len {a : Addr} {ys : List V} (h : SqT K H a ys) (l : ys.length ≠ 2) : ThIn K H (.ref a) none
  | two {a : Addr} {y z : V} {o1 o2 : Option (List V)} (h : SqT K H a [y, z]) (h1 : RowIn K H y o1) (h2 : RowIn K H z o2)
      (hp : ∀ xs ys, o1 = some xs → o2 = some ys → ∃ c g, y = .ref c ∧ z = .ref g ∧ SeqP K H c xs g ys) : ThIn K H (.ref a) (some (o1, o2))
theorem NoTup.same {K : PySem.W.Frag} {H H' : Hp} {x : V} (h : NoTup K H x) (s : Same H H') : NoTup K H' x := by
  obtain ⟨t, h1, h2⟩ := h
  exact ⟨t, TyX.same' s h1, h2⟩
theorem ThIn.same {K : PySem.W.Frag} {H H' : Hp} {x : V} {o : Two} (h : ThIn K H x o) (s : Same H H') : ThIn K H' x o := by
  cases h with
  | no h => exact .no (h.same s)
  | len h l => exact .len (seqT s h) l
  | two h h1 h2 hp =>
    refine .two (seqT s h) (h1.same s) (h2.same s) fun xs ys e1 e2 => ?_
    obtain ⟨c, g, a, b, p⟩ := hp xs ys e1 e2
    exact ⟨c, g, a, b, p.same s⟩
theorem RowIn.len {K : PySem.W.Frag} {H : Hp} {x : V} {xs : List V} (h : RowIn K H x (some xs)) : ∃ a, x = .ref a ∧ SeqA K H a xs ∧ xs.length ≤ 1001 := by
  cases h with
  | gen h fl l => exact ⟨_, rfl, h, l⟩
/-- pairwise at most -/
def below (gs cs : List Int) : List Bool := (List.zip gs cs).map fun p => decide (p.1 ≤ p.2)
theorem below_iff {gs cs : List Int} : (below gs cs).all id = true ↔ ∀ (i : Nat) (c g : Int), cs[i]? = some c → gs[i]? = some g → g ≤ c := by
  unfold below
  rw [List.all_eq_true]
  constructor
  · intro h i c g hc hg
    have hz : (List.zip gs cs)[i]? = some (g, c) := (List.getElem?_zip_eq_some (z := (g, c))).mpr ⟨hg, hc⟩
    have := h (decide (g ≤ c)) (List.mem_map.mpr ⟨(g, c), List.mem_of_getElem? hz, rfl⟩)
    exact of_decide_eq_true this
  · intro h b hb
    obtain ⟨⟨g, c⟩, hm, rfl⟩ := List.mem_map.mp hb
    obtain ⟨i, hi, e⟩ := List.mem_iff_getElem.mp hm
    have hz : (List.zip gs cs)[i]? = some (g, c) := by rw [List.getElem?_eq_getElem hi, e]
    have z := (List.getElem?_zip_eq_some (z := (g, c))).mp hz
    exact decide_eq_true (h i c g z.2 z.1)
section
variable {P : Program} {w : World} {K : PySem.W.Frag} {mg : Str → Option Value} {base : Heap}
def spIsRun (K : PySem.W.Frag) : Sp := fun vs H Q _ => ∃ (x : V) (o : Two), vs = [x] ∧ ThIn K H x o ∧ ∀ (b : Bool) H', Same H H' → (b = true ↔ RunOk o) → Q (.bl b) H'
abbrev nIsRun : List Str := ["thing", "came", "gone", "less", "more"]
theorem scIsRun : FnScope nIsRun ["thing"] (defScope sIsRun) := ⟨rfl, rfl, rfl, by decide +kernel, rfl, by decide +kernel, by decide +kernel⟩
theorem ok_isRun {f fR : Addr} {fd dR : FuncData} (F : Fun K "is_run" "is_run" sIsRun f fd) (T : CurG mg)
    (GR : FnOk P w K mg base CX0 2 fR dR ["thing"] (spIsRow K)) (kR : PySem.W.keepIn K (.ref fR) = true) (bR : Binds K dR ["thing"] []) (mR : mg "is_row" = some (.ref fR)) :
    FnOk P w K mg base CX0 3 f fd ["thing"] (spIsRun K) := by
  refine F.ok scIsRun (fun vs H Q E h => ?_) (fun cdv A outer s H vs Q E hr h => ?_)
  · obtain ⟨x, o, rfl, _⟩ := h
    rfl
  · obtain ⟨x, o, rfl, h, k⟩ := h
    refine ⟨_, pss_cons (ps_if (PW.pt (pw_or (pt_not (pt_val (pe_callB call_isi (by rfl) T.isi (by decide +kernel) (pa_cons (pv 0) (pa_cons (pe_bltn (v := .ty "tuple") (by rfl) T.tuple (by decide +kernel) rfl) pa_nil)))))
          (pw_or1 (pt_cmpR op_ne (pe_callB call_len_seq (by rfl) T.len PySem.boot_len (pa_cons (pv 0) pa_nil)) pe_int (nomark _)))))
        (pss_one (ps_ret pe_bl)) pss_nil)
      (pss_cons (ps_asg (pv 0) (pg_tup rfl (pgs_cons (pg_name (i := 1) scIsRun.nd rfl (.inl rfl)) (pgs_cons (pg_name (i := 2) scIsRun.nd rfl (.inl rfl)) pgs_nil))))
      (pss_cons (ps_if (PW.pt (pw_or (pt_not (pt_val (pe_call GR hr rfl mR kR bR .nil pass0 (pa_cons (pv 1) pa_nil)))) (pw_or (pt_not (pt_val (pe_call GR hr rfl mR kR bR .nil pass0 (pa_cons (pv 2) pa_nil))))
          (pw_or1 (pt_cmpR op_ne (pe_callB call_len_seq (by rfl) T.len PySem.boot_len (pa_cons (pv 1) pa_nil)) (pe_callB call_len_seq (by rfl) T.len PySem.boot_len (pa_cons (pv 2) pa_nil)) (nomark _))))))
        (pss_one (ps_ret pe_bl)) pss_nil)
      (pss_one (ps_ret (pe_callB (cr_all rfl) (by rfl) T.all (by decide +kernel) (pa_cons
            (pe_lc (own := [("less", 3), ("more", 4)]) (g := gTup K 2 (gCons (gName 3) (gCons (gName 4) gNil))) (tt := tYes) rfl scIsRun.nd (pi_zipS (by rfl) T.zip (pa_cons (pv 2) (pa_cons (pv 1) pa_nil))) (blkOk_by (N := nIsRun) (sc := defScope sIsRun) (by decide +kernel))
              (fun _ _ _ _ _ => pg_tup rfl (pgs_cons (pg_name (i := 3) scIsRun.nd rfl (Or.inl rfl)) (pgs_cons (pg_name (i := 4) scIsRun.nd rfl (Or.inl rfl)) pgs_nil))) (fun _ _ _ _ _ => pts_nil)
              (fun _ _ _ _ _ => pe_cmpR op_le (pv 3) (pv 4) (nomark _))) pa_nil)))))), ?_⟩
    have no : ∀ {H' : Hp}, Same H H' → ¬ RunOk o → Q (.bl false) H' := fun s n => k false _ s ⟨fun z => (by cases z), fun z => absurd z n⟩
    cases h with
    | no h =>
      obtain ⟨t, ty, kt⟩ := h
      exact ⟨_, rfl, x, .ty "tuple", t, .type "tuple", false, rfl, .ty _, ty, kt, false, rfl, iteT (no (Same.refl _) (by rintro ⟨_, _, e, _⟩; cases e))⟩
    | @len a ys h l =>
      refine ⟨_, rfl, .ref a, .ty "tuple", .type "tuple", .type "tuple", true, rfl, .ty _, tyX_seqT h, kit_ty (by decide +kernel), true, rfl, iteF ?_⟩
      refine ⟨_, rfl, a, ys, rfl, .inr h, rfl, true, ?_, iteT (no (Same.refl _) (by rintro ⟨_, _, e, _⟩; cases e))⟩
      have e : decide (V.int (ys.length : Nat) = V.int 2) = false := decide_eq_false fun z => l (by have := V.int.inj z; omega)
      show V.bl (!decide (V.int (ys.length : Nat) = V.int 2)) = _
      rw [e]
      rfl
    | @two a y z o1 o2 h h1 h2 hp =>
      refine ⟨_, rfl, .ref a, .ty "tuple", .type "tuple", .type "tuple", true, rfl, .ty _, tyX_seqT h, kit_ty (by decide +kernel), true, rfl, iteF ?_⟩
      refine ⟨_, rfl, a, [y, z], rfl, .inr h, rfl, false, rfl, iteF ?_⟩
      refine ⟨_, rfl, a, [y, z], rfl, h, rfl, _, _, rfl, _, _, rfl, rfl, ?_⟩
      refine ⟨_, rfl, y, o1, rfl, h1, fun b1 H1 s1 i1 => ⟨b1, rfl, ?_⟩⟩
      cases b1 with
      | false =>
        refine iteT (no s1 ?_)
        rintro ⟨cs, gs, e, p, _⟩
        cases e
        exact absurd (i1.mpr ⟨cs, rfl, p⟩) Bool.false_ne_true
      | true =>
        obtain ⟨cs, rfl, pc⟩ := i1.mp rfl
        refine iteF ⟨_, rfl, z, o2, rfl, h2.same s1, fun b2 H2 s2 i2 => ⟨b2, rfl, ?_⟩⟩
        have sA := Same.trans s1 s2
        cases b2 with
        | false =>
          refine iteT (no sA ?_)
          rintro ⟨cs', gs, e, _, p, _⟩
          injection e with e
          injection e with e1 e2
          exact absurd (i2.mpr ⟨gs, e2, p⟩) Bool.false_ne_true
        | true =>
          obtain ⟨gs, rfl, pg⟩ := i2.mp rfl
          obtain ⟨c, g, rfl, rfl, sp⟩ := hp _ _ rfl rfl
          obtain ⟨_, _, _, lc⟩ := h1.len
          obtain ⟨_, _, _, lg⟩ := h2.len
          rw [List.length_map] at lc lg
          have sp2 := sp.same sA
          refine iteF ⟨_, rfl, c, _, rfl, sp2.l, _, rfl, g, _, rfl, sp2.r, rfl, !decide (cs.length = gs.length), ?_, ?_⟩
          · show V.bl (!decide (V.int _ = V.int _)) = _
            congr 2
            exact decide_eq_decide.mpr ⟨fun q => by have := V.int.inj q; simp only [List.length_map] at this; omega, fun q => by simp only [List.length_map, q]⟩
          · by_cases el : cs.length = gs.length
            · rw [decide_eq_true el]
              refine iteF ?_
              refine ⟨_, rfl, _, rfl, g, c, _, _, rfl, sp2.swap, fun J G wk st D hD => lc_it wk (fun i H4 => ∃ bs : List Bool, H4 D = some (.lst (bls bs)) ∧ bs = (below gs cs).take i ∧ Same H2 H4) ⟨[], upd_same, rfl, same_new hD⟩ (fun i H4 _ ⟨_, _, _, s4⟩ => st _ (.of s4 _ _) (.of s4 _ _)) ?_ ?_⟩
              · rintro i v H4 H5 hi ⟨bs, hd4, e4, s4⟩ ⟨t, x, y, rfl, ht, rfl, hx, hy⟩
                dsimp only at hx hy
                rw [List.length_map, List.length_map] at hi
                rw [List.getElem?_map] at hx hy
                obtain ⟨u, hu⟩ : ∃ u, gs[i]? = some u := ⟨_, List.getElem?_eq_getElem (by omega)⟩
                obtain ⟨z, hz⟩ : ∃ z, cs[i]? = some z := ⟨_, List.getElem?_eq_getElem (by omega)⟩
                rw [hu] at hx
                rw [hz] at hy
                cases hx
                cases hy
                have es : (below gs cs)[i]? = some (decide (u ≤ z)) := by
                  unfold below
                  rw [List.getElem?_map, (List.getElem?_zip_eq_some (z := (u, z))).mpr ⟨hu, hz⟩]
                  rfl
                refine ⟨t, [_, _], rfl, SqT.of upd_same, rfl, _, _, rfl, _, _, rfl, rfl, rfl, _, rfl, _, rfl, _, _, rfl, rfl, bls bs, ?_, ?_, bs ++ [decide (u ≤ z)], ?_, ?_, fun b o e => by rw [upd_ne (ne_of_none e hD), upd_ne (ne_of_none (s4 _ _ e) ht)]; exact s4 _ _ e⟩
                · rw [upd_ne (ne_of_none hd4 ht)]; exact hd4
                · rw [bls_len, e4, List.length_take]
                  exact small1001 (by omega)
                · rw [bls_snoc]
                  exact upd_same
                · rw [take_snocW es, e4]
              · rintro H4 ⟨bs, hd4, e4, s4⟩
                have ls : (below gs cs).length = min gs.length cs.length := by unfold below; rw [List.length_map, List.length_zip]
                rw [List.length_map, List.length_map, ← ls, List.take_length] at e4
                refine ⟨D, bs, rfl, SqL.of hd4, k _ _ (Same.trans sA s4) ?_⟩
                rw [e4, below_iff]
                constructor
                · intro q
                  exact ⟨cs, gs, rfl, pc, pg, el, q⟩
                · rintro ⟨cs', gs', e, _, _, _, q⟩
                  injection e with e
                  injection e with e1 e2
                  have a1 := ints_inj (Option.some.inj e1)
                  have a2 := ints_inj (Option.some.inj e2)
                  rw [a1, a2]
                  exact q
            · rw [decide_eq_false el]
              refine iteT (no sA ?_)
              rintro ⟨cs', gs', e, _, _, q, _⟩
              injection e with e
              injection e with e1 e2
              have a1 := ints_inj (Option.some.inj e1)
              have a2 := ints_inj (Option.some.inj e2)
              rw [← a1, ← a2] at q
              exact el q
def spNeedRun (K : PySem.W.Frag) (CR : Addr) : Sp := fun vs H Q E => ∃ (x : V) (o : Two), vs = [x] ∧ ThIn K H x o ∧ (RunOk o → ∀ H', Same H H' → Q .non H') ∧ (¬ RunOk o → ∀ H', Same H H' → E (.ref CR) none H')
theorem scNeedRun : FnScope ["thing"] ["thing"] (defScope sNeedRun) := ⟨rfl, rfl, rfl, by decide +kernel, rfl, by decide +kernel, by decide +kernel⟩
theorem ok_needRun {f fR CR : Addr} {fd dR : FuncData} (F : Fun K "need_run" "need_run" sNeedRun f fd) (B : PlainT K mg "BadRun" CR)
    (GR : FnOk P w K mg base CX0 3 fR dR ["thing"] (spIsRun K)) (kR : PySem.W.keepIn K (.ref fR) = true) (bR : Binds K dR ["thing"] []) (mR : mg "is_run" = some (.ref fR)) :
    FnOk P w K mg base (L2.CX P w) 4 f fd ["thing"] (spNeedRun K CR) := by
  refine F.okX scNeedRun (fun vs H Q E h => ?_) (fun cdv A outer s H vs Q E hr h => ?_)
  · obtain ⟨x, o, rfl, _⟩ := h
    rfl
  · obtain ⟨x, o, rfl, h, k1, k2⟩ := h
    refine ⟨_, pss_one (ps_if (pt_not (pt_val (pe_call GR hr rfl mR kR bR .nil pass0 (pa_cons (pv 0) pa_nil))))
      (pss_one (ps_raise rfl (takes_of rfl rfl rfl rfl) (pmk_own PySem.F.excBase_ValueError B.ex B.gC B.kC (raises_own B.sb B.ty) rfl))) pss_nil), ?_⟩
    refine ⟨_, rfl, x, o, rfl, h, fun b H1 s1 ib => ⟨b, rfl, ?_⟩⟩
    cases b with
    | true => exact iteF (k1 (ib.mp rfl) H1 s1)
    | false => exact iteT (k2 (fun z => absurd (ib.mpr z) Bool.false_ne_true) H1 s1)
def spNeedRow (K : PySem.W.Frag) (CR : Addr) : Sp := fun vs H Q E => ∃ (x : V) (o : Option (List V)), vs = [x] ∧ RowIn K H x o ∧ (RowOk o → ∀ H', Same H H' → Q .non H') ∧ (¬ RowOk o → ∀ H', Same H H' → E (.ref CR) none H')
theorem scNeedRow : FnScope ["thing"] ["thing"] (defScope sNeedRow) := ⟨rfl, rfl, rfl, by decide +kernel, rfl, by decide +kernel, by decide +kernel⟩
theorem ok_needRow {f fR CR : Addr} {fd dR : FuncData} (F : Fun K "need_row" "need_row" sNeedRow f fd) (B : PlainT K mg "BadRow" CR)
    (GR : FnOk P w K mg base CX0 2 fR dR ["thing"] (spIsRow K)) (kR : PySem.W.keepIn K (.ref fR) = true) (bR : Binds K dR ["thing"] []) (mR : mg "is_row" = some (.ref fR)) :
    FnOk P w K mg base (L2.CX P w) 3 f fd ["thing"] (spNeedRow K CR) := by
  refine F.okX scNeedRow (fun vs H Q E h => ?_) (fun cdv A outer s H vs Q E hr h => ?_)
  · obtain ⟨x, o, rfl, _⟩ := h
    rfl
  · obtain ⟨x, o, rfl, h, k1, k2⟩ := h
    refine ⟨_, pss_one (ps_if (pt_not (pt_val (pe_call GR hr rfl mR kR bR .nil pass0 (pa_cons (pv 0) pa_nil))))
      (pss_one (ps_raise rfl (takes_of rfl rfl rfl rfl) (pmk_own PySem.F.excBase_ValueError B.ex B.gC B.kC (raises_own B.sb B.ty) rfl))) pss_nil), ?_⟩
    refine ⟨_, rfl, x, o, rfl, h, fun b H1 s1 ib => ⟨b, rfl, ?_⟩⟩
    cases b with
    | true => exact iteF (k1 (ib.mp rfl) H1 s1)
    | false => exact iteT (k2 (fun z => absurd (ib.mpr z) Bool.false_ne_true) H1 s1)
end
end WW
end

section
set_option Elab.async false
set_option linter.all false
set_option maxRecDepth 100000
set_option maxHeartbeats 4000000
namespace WW
open PySem L2 WO WG RZ WQ WT WC
/-! ### what has gone at least -/
/-- a service's values, 0 at 0 -/
def SG (F : Nat → V) (j : Nat) : V := if j = 0 then .int 0 else F j
/-- a list's values -/
def GW (ws : List Int) (j : Nat) : V := if j < ws.length then .int (ws.getD j 0) else .non
def Lows (cs : List Int) (G : Nat → V) (t : Nat) (y : Int) : Prop := ∃ s k, s ≤ t ∧ G (t - s) = .int k ∧ y = cs.getD s 0 + k
def Lg (cs : List Int) (G : Nat → V) (t : Nat) (m : Int) : Prop := Lows cs G t m ∧ ∀ y, Lows cs G t y → m ≤ y
theorem Lg.uniq {cs : List Int} {G : Nat → V} {t : Nat} {m m' : Int} (h : Lg cs G t m) (h' : Lg cs G t m') : m = m' := by
  have := h.2 _ h'.1
  have := h'.2 _ h.1
  omega
def LgL (cs : List Int) (G : Nat → V) (ms : List Int) : Prop := ms.length = cs.length ∧ ∀ i m, ms[i]? = some m → Lg cs G i m
theorem LgL.uniq {cs ms ms' : List Int} {G : Nat → V} (h : LgL cs G ms) (h' : LgL cs G ms') : ms = ms' := by
  refine List.ext_getElem (by rw [h.1, h'.1]) fun i h1 h2 => ?_
  exact (h.2 i _ (List.getElem?_eq_getElem h1)).uniq (h'.2 i _ (List.getElem?_eq_getElem h2))
theorem Lg.as {cs : List Int} {G G' : Nat → V} {t : Nat} {m : Int} (h : Lg cs G t m) (e : ∀ j, j ≤ t → G j = G' j) : Lg cs G' t m := by
  have key : ∀ {G G' : Nat → V} {y : Int}, (∀ j, j ≤ t → G j = G' j) → Lows cs G t y → Lows cs G' t y := fun {G G' y} e ⟨s, k, a, b, c⟩ => ⟨s, k, a, by rw [← e _ (Nat.sub_le ..)]; exact b, c⟩
  exact ⟨key e h.1, fun y hy => h.2 y (key (fun j hj => (e j hj).symm) hy)⟩
theorem LgL.as {cs ms : List Int} {G G' : Nat → V} (h : LgL cs G ms) (e : ∀ j, j < cs.length → G j = G' j) : LgL cs G' ms := by
  refine ⟨h.1, fun i m hm => (h.2 i m hm).as fun j hj => e j ?_⟩
  have := (List.getElem?_eq_some_iff.mp hm).1
  have := h.1
  omega
theorem cutN {xs : List V} {l h : Nat} (lh : l ≤ h) (hx : h ≤ xs.length) : cutV xs (some (l : Int)) (some (h : Int)) = (xs.drop l).take (h - l) := by
  unfold cutV
  rw [six_nat (show l ≤ xs.length by omega), six_nat hx]
theorem cut_get {xs : List V} {l h i : Nat} (hi : i < h - l) : ((xs.drop l).take (h - l))[i]? = xs[l + i]? := by
  rw [List.getElem?_take, if_pos hi, List.getElem?_drop]
theorem getD_map {cs : List Int} {i : Nat} (h : i < cs.length) : (cs.map V.int)[i]? = some (.int (cs.getD i 0)) := by
  rw [List.getElem?_map, List.getElem?_eq_getElem h, List.getD_eq_getElem?_getD, List.getElem?_eq_getElem h]
  rfl
theorem getD_of {cs : List Int} {i : Nat} {c : Int} (h : cs[i]? = some c) : cs.getD i 0 = c := by
  rw [List.getD_eq_getElem?_getD, h]
  rfl
theorem GW_low {ws : List Int} {j : Nat} (h : j < ws.length) : GW ws j = .int (ws.getD j 0) := by unfold GW; rw [if_pos h]
theorem GW_get {ws : List Int} {j : Nat} {k : Int} (h : GW ws j = .int k) : j < ws.length ∧ k = ws.getD j 0 := by
  unfold GW at h
  split at h
  · exact ⟨by assumption, (V.int.inj h).symm⟩
  · cases h
/-- the sums over a window -/
theorem lg_win {cs ws : List Int} {i : Nat} {m : Int} (w1 : 1 ≤ ws.length) (h : m ∈ (List.range (i + 1 - (i - (ws.length - 1)))).map fun j => cs.getD (i - (ws.length - 1) + j) 0 + ws.getD (i - (i - (ws.length - 1) + j)) 0)
    (hl : ∀ y ∈ (List.range (i + 1 - (i - (ws.length - 1)))).map (fun j => cs.getD (i - (ws.length - 1) + j) 0 + ws.getD (i - (i - (ws.length - 1) + j)) 0), m ≤ y) : Lg cs (GW ws) i m := by
  constructor
  · obtain ⟨j, hj, e⟩ := List.mem_map.mp h
    have hj := List.mem_range.mp hj
    exact ⟨i - (ws.length - 1) + j, _, by omega, GW_low (by omega), e.symm⟩
  · rintro y ⟨s, k, hs, hk, rfl⟩
    obtain ⟨h1, rfl⟩ := GW_get hk
    refine hl _ (List.mem_map.mpr ⟨s - (i - (ws.length - 1)), List.mem_range.mpr (by omega), ?_⟩)
    rw [show i - (ws.length - 1) + (s - (i - (ws.length - 1))) = s by omega]
theorem setI {σ σ' : L2.St} {n : Nat} {x y : Int} (h : x = y) (e : σ.set n (some (V.int y)) = σ' := by rfl) : σ.set n (some (V.int x)) = σ' := by rw [h]; exact e
section
variable {P : Program} {w : World} {K : PySem.W.Frag} {mg : Str → Option Value} {base : Heap}
abbrev sLsu : Stmt := top 54
abbrev sSrw : Stmt := top 56
abbrev sLle : Stmt := top 57
abbrev nLsu : List Str := ["row", "other_row", "many", "back", "last", "sums", "beat", "low", "high", "place", "mine", "its", "one", "two"]
theorem scLsu : FnScope nLsu ["row", "other_row", "many"] (defScope sLsu) := ⟨rfl, rfl, rfl, by decide +kernel, rfl, by decide +kernel, by decide +kernel⟩
def spLsu (K : PySem.W.Frag) : Sp := fun vs H Q _ => ∃ (a b : Addr) (cs ws : List Int), vs = [.ref a, .ref b, .int (cs.length : Nat)] ∧ SeqA K H a (cs.map V.int) ∧ SqL K H b (ws.map V.int) ∧ cs.length ≤ 1001 ∧ 1 ≤ ws.length ∧ ws.length ≤ 2000 ∧
  ∀ z ms H', H z = none → H' z = some (.lst (ms.map V.int)) → LgL cs (GW ws) ms → Same H H' → Q (.ref z) H'
theorem ok_lsu {f : Addr} {fd : FuncData} (F : Fun K "least_sums" "least_sums" sLsu f fd) (T : CurG mg) (nmax : mg "max" = none) : FnOk P w K mg base CX0 1 f fd ["row", "other_row", "many"] (spLsu K) := by
  refine F.ok scLsu (fun vs H Q E h => ?_) (fun cdv A outer s H vs Q E hr h => ?_)
  · obtain ⟨a, b, cs, ws, rfl, _⟩ := h
    rfl
  · obtain ⟨a, b, cs, ws, rfl, ha, hb, lc, w1, w2, k⟩ := h
    refine ⟨_, (C8.pss_cut (ps_set (i := 3) scLsu.nd rfl (Or.inl rfl) (pe_revL (pv 1)))
 (C8.pss_cut (ps_set (i := 4) scLsu.nd rfl (Or.inl rfl) (pe_op op_sub (pe_callB call_len_seq (by rfl) T.len PySem.boot_len (pa_cons (pv 1) pa_nil)) pe_int))
 (C8.pss_cut (ps_set (i := 5) scLsu.nd rfl (Or.inl rfl) (pe_lst pa_nil))
 (C8.pss_cut (ps_for PassesOwn.never rfl (pi_range1 rfl T.range (pa_cons (pv 2) pa_nil)) (pg_name (i := 6) scLsu.nd rfl (Or.inl rfl)) (C8.pss_cut (ps_set (i := 7) scLsu.nd rfl (Or.inl rfl) (pe_callB (call_max2 rfl) (by rfl) nmax (by decide +kernel) (pa_cons pe_int (pa_cons (pe_op op_sub (pv 6) (pv 4)) pa_nil))))
 (C8.pss_cut (ps_set (i := 8) scLsu.nd rfl (Or.inl rfl) (pe_callB (call_min2 rfl) (by rfl) T.min (by decide +kernel) (pa_cons (pe_op op_add (pv 6) pe_int) (pa_cons (pe_callB call_len_seq (by rfl) T.len PySem.boot_len (pa_cons (pv 0) pa_nil)) pa_nil))))
 (C8.pss_cut (ps_set (i := 9) scLsu.nd rfl (Or.inl rfl) (pe_op op_add (pe_op op_sub (pv 4) (pv 6)) (pv 7)))
 (C8.pss_cut (ps_set (i := 10) scLsu.nd rfl (Or.inl rfl) (pe_slice WQ.sl_seqC (pv 0) (po_some (pv 7)) (po_some (pv 8))))
 (C8.pss_cut (ps_set (i := 11) scLsu.nd rfl (Or.inl rfl) (pe_slice sl_list (pv 3) (po_some (pv 9)) (po_some (pe_op op_sub (pe_op op_add (pv 9) (pv 8)) (pv 7)))))
 (pss_one
 (ps_expr (pe_bm PySem.F.plainAttrs_list PySem.F.slot_list_append PySem.F.type_list_append mt_append (pv 5) (pa_cons (pe_callB (cr_min rfl) (by rfl) T.min (by decide +kernel) (pa_cons (pe_lc (own := [("one", 12), ("two", 13)]) (g := (gTup K 2 (gCons (gName 12) (gCons (gName 13) gNil)))) (tt := tYes) rfl scLsu.nd (WQ.pi_zipM (by rfl) T.zip (pa_cons (pv 10) (pa_cons (pv 11) pa_nil))) (blkOk_by (N := nLsu) (sc := defScope sLsu) (by decide +kernel)) (fun _ _ _ _ _ => (pg_tup rfl (pgs_cons (pg_name (i := 12) scLsu.nd rfl (Or.inl rfl)) (pgs_cons (pg_name (i := 13) scLsu.nd rfl (Or.inl rfl)) pgs_nil)))) (fun _ _ _ _ _ => pts_nil) (fun _ _ _ _ _ => (pe_op op_add (pv 12) (pv 13)))) pa_nil)) pa_nil))))))))))
 (pss_one
 (ps_ret (pv 5))))))), ?_⟩
    have lcm : (cs.map V.int).length = cs.length := List.length_map ..
    have lwm : (ws.map V.int).length = ws.length := List.length_map ..
    refine ⟨fun σ H' => ∃ q, σ = [some (.ref a), some (.ref b), some (.int (cs.length : Nat)), some (.ref q), none, none, none, none, none, none, none, none, none, none] ∧ H' q = some (.lst (ws.map V.int).reverse) ∧ Same H H', ?_, ?_⟩
    · exact ⟨_, rfl, b, _, rfl, hb, fun q hq => ⟨q, rfl, upd_same, same_new hq⟩⟩
    rintro σ H1 ⟨q, rfl, h1, s1⟩
    refine ⟨fun σ H' => σ = [some (.ref a), some (.ref b), some (.int (cs.length : Nat)), some (.ref q), some (.int ((ws.length - 1 : Nat) : Int)), none, none, none, none, none, none, none, none, none] ∧ H1 = H', ?_, ?_⟩
    · refine ⟨_, rfl, b, _, rfl, .inl (hb.ext s1), _, _, rfl, rfl, ?_, rfl⟩
      refine setI (n := 4) ?_
      rw [lwm]
      show ((ws.length : Nat) : Int) - 1 = ((ws.length - 1 : Nat) : Int)
      omega
    rintro σ H' ⟨rfl, rfl⟩
    refine ⟨fun σ H' => ∃ S, σ = [some (.ref a), some (.ref b), some (.int (cs.length : Nat)), some (.ref q), some (.int ((ws.length - 1 : Nat) : Int)), some (.ref S), none, none, none, none, none, none, none, none] ∧ H S = none ∧ H1 S = none ∧ H' S = some (.lst []) ∧ Same H1 H', ?_, ?_⟩
    · exact ⟨(by show 0 ≤ sizeLine; decide), fun S hS => ⟨S, rfl, s1.free hS, hS, upd_same, same_new hS⟩⟩
    rintro σ H2 ⟨S, rfl, hS, hS1, h2, s2⟩
    have s02 := Same.trans s1 s2
    have nq : q ≠ S := ne_of_none h1 hS1
    have h1 := s2 _ _ h1
    refine ⟨fun σ H' => ∃ ms : List Int, (∃ v6 v7 v8 v9 v10 v11, σ = [some (.ref a), some (.ref b), some (.int (cs.length : Nat)), some (.ref q), some (.int ((ws.length - 1 : Nat) : Int)), some (.ref S), v6, v7, v8, v9, v10, v11, none, none]) ∧ H' S = some (.lst (ms.map V.int)) ∧ LgL cs (GW ws) ms ∧ Same H H', ?_, ?_⟩
    · refine ⟨_, rfl, cs.length, rfl, by omega, by omega, for_range (lo := 0) (n := cs.length) (fun i σ H' => ∃ ms : List Int, (∃ v6 v7 v8 v9 v10 v11, σ = [some (.ref a), some (.ref b), some (.int (cs.length : Nat)), some (.ref q), some (.int ((ws.length - 1 : Nat) : Int)), some (.ref S), v6, v7, v8, v9, v10, v11, none, none]) ∧ H' S = some (.lst (ms.map V.int)) ∧ ms.length = i ∧ (∀ t m, ms[t]? = some m → Lg cs (GW ws) t m) ∧ H' q = some (.lst (ws.map V.int).reverse) ∧ Same H H') ⟨[], ⟨_, _, _, _, _, _, rfl⟩, h2, rfl, fun t m hm => (by cases hm), h1, s02⟩ ?_ (fun σ H' ⟨ms, e, hh, l, lg, _, s⟩ => ⟨ms, e, hh, ⟨l, lg⟩, s⟩)⟩
      rintro i σ H3 hi ⟨ms, ⟨v6, v7, v8, v9, v10, v11, rfl⟩, h3, lm, lg, hq3, s3⟩
      have ei : (0 : Int) + (i : Int) = (i : Int) := by omega
      rw [ei]
      generalize elo : i - (ws.length - 1) = lo
      -- low
      refine ⟨fun σ H' => σ = [some (.ref a), some (.ref b), some (.int (cs.length : Nat)), some (.ref q), some (.int ((ws.length - 1 : Nat) : Int)), some (.ref S), some (.int (i : Nat)), some (.int (lo : Nat)), v8, v9, v10, v11, none, none] ∧ H3 = H', ?_, ?_⟩
      · refine ⟨_, rfl, _, rfl, _, _, rfl, rfl, _, _, rfl, ?_, rfl⟩
        refine setI (n := 7) ?_
        split <;> omega
      rintro σ H' ⟨rfl, rfl⟩
      refine ⟨fun σ H' => σ = [some (.ref a), some (.ref b), some (.int (cs.length : Nat)), some (.ref q), some (.int ((ws.length - 1 : Nat) : Int)), some (.ref S), some (.int (i : Nat)), some (.int (lo : Nat)), some (.int ((i + 1 : Nat) : Int)), v9, v10, v11, none, none] ∧ H3 = H', ?_, ?_⟩
      · refine ⟨_, rfl, _, _, rfl, rfl, _, rfl, a, _, rfl, ha.same s3, _, _, rfl, ?_, rfl⟩
        refine setI (n := 8) ?_
        rw [lcm]
        split <;> omega
      rintro σ H' ⟨rfl, rfl⟩
      refine ⟨fun σ H' => σ = [some (.ref a), some (.ref b), some (.int (cs.length : Nat)), some (.ref q), some (.int ((ws.length - 1 : Nat) : Int)), some (.ref S), some (.int (i : Nat)), some (.int (lo : Nat)), some (.int ((i + 1 : Nat) : Int)), some (.int ((ws.length - 1 - i : Nat) : Int)), v10, v11, none, none] ∧ H3 = H', ?_, ?_⟩
      · refine ⟨_, rfl, _, rfl, _, _, rfl, rfl, _, rfl, _, _, rfl, rfl, ?_, rfl⟩
        refine setI (n := 9) ?_
        omega
      rintro σ H' ⟨rfl, rfl⟩
      refine ⟨fun σ H' => ∃ p, σ = [some (.ref a), some (.ref b), some (.int (cs.length : Nat)), some (.ref q), some (.int ((ws.length - 1 : Nat) : Int)), some (.ref S), some (.int (i : Nat)), some (.int (lo : Nat)), some (.int ((i + 1 : Nat) : Int)), some (.int ((ws.length - 1 - i : Nat) : Int)), some (.ref p), v11, none, none] ∧ SeqA K H' p (((cs.map V.int).drop lo).take (i + 1 - lo)) ∧ Same H3 H', ?_, ?_⟩
      · refine ⟨_, rfl, _, rfl, _, rfl, _, rfl, _, rfl, a, _, rfl, ha.same s3, fun H4 p s4 hp _ _ => ⟨p, rfl, ?_, s4⟩⟩
        rw [cutN (by omega) (by rw [lcm]; omega)] at hp
        exact hp
      rintro σ H4 ⟨p, rfl, hp, s4⟩
      refine ⟨fun σ H' => ∃ r, σ = [some (.ref a), some (.ref b), some (.int (cs.length : Nat)), some (.ref q), some (.int ((ws.length - 1 : Nat) : Int)), some (.ref S), some (.int (i : Nat)), some (.int (lo : Nat)), some (.int ((i + 1 : Nat) : Int)), some (.int ((ws.length - 1 - i : Nat) : Int)), some (.ref p), some (.ref r), none, none] ∧ H' r = some (.lst (((ws.map V.int).reverse.drop (ws.length - 1 - i)).take (i + 1 - lo))) ∧ Same H4 H', ?_, ?_⟩
      · refine ⟨_, rfl, _, rfl, _, rfl, _, rfl, _, rfl, _, _, rfl, rfl, _, rfl, _, _, rfl, rfl, _, rfl, q, _, rfl, SqL.of (s4 _ _ hq3), fun r hr => ⟨r, rfl, ?_, same_new hr⟩⟩
        rw [show ((ws.length - 1 - i : Nat) : Int) + ((i + 1 : Nat) : Int) - (lo : Int) = ((ws.length - 1 - i + (i + 1 - lo) : Nat) : Int) by omega, cutN (by omega) (by rw [List.length_reverse, lwm]; omega), Nat.add_sub_cancel_left]
        exact upd_same
      rintro σ H5 ⟨r, rfl, hr, s5⟩
      have s35 := Same.trans s4 s5
      have l1 : (((cs.map V.int).drop lo).take (i + 1 - lo)).length = i + 1 - lo := by rw [List.length_take, List.length_drop, lcm]; omega
      have l2 : (((ws.map V.int).reverse.drop (ws.length - 1 - i)).take (i + 1 - lo)).length = i + 1 - lo := by rw [List.length_take, List.length_drop, List.length_reverse, lwm]; omega
      refine ⟨_, rfl, .inl ⟨rfl, _, SqL.of (s35 _ _ h3)⟩, _, rfl, _, rfl, p, r, _, _, rfl, hp.same s5, SqL.of hr, fun J G wk st D hD => LM.lcM (n := i + 1 - lo) (by rw [l1, l2, Nat.min_self] at wk; exact wk) (fun j => V.int (cs.getD (lo + j) 0 + ws.getD (i - (lo + j)) 0)) hD (by omega) (fun H6 s6 => st _ (.of s6 _ _) (.of s6 _ _)) ?_ fun H6 h6 s6 => ?_⟩
      · rintro j v H6 H7 hj s6 ⟨t, x, y, rfl, ht, rfl, hx, hy⟩ R N kk
        dsimp only at hx hy
        rw [cut_get hj, getD_map (by omega)] at hx
        rw [List.getElem?_take, if_pos hj, List.getElem?_drop, List.getElem?_reverse (by rw [lwm]; omega), lwm, show ws.length - 1 - (ws.length - 1 - i + j) = i - (lo + j) by omega, getD_map (by omega)] at hy
        cases hx
        cases hy
        exact ⟨t, [_, _], rfl, SqT.of upd_same, rfl, _, _, rfl, _, _, rfl, rfl, rfl, _, rfl, _, rfl, _, _, rfl, rfl, kk _ (same_new ht)⟩
      · have e6 : ((List.range (i + 1 - lo)).map fun j => cs.getD (lo + j) 0 + ws.getD (i - (lo + j)) 0).map V.int = (List.range (i + 1 - lo)).map fun j => V.int (cs.getD (lo + j) 0 + ws.getD (i - (lo + j)) 0) := by rw [List.map_map]; rfl
        have s36 := Same.trans s35 s6
        have h3' := s36 _ _ h3
        refine ⟨D, _, rfl, by rw [e6]; exact SqL.of h6, by rw [List.length_map, List.length_range]; omega, fun z hz hle => ⟨S, _, _, rfl, rfl, h3', by rw [List.length_map, lm]; exact small1001 (by omega), ?_⟩⟩
        subst elo
        have lz := lg_win w1 hz hle
        refine ⟨ms ++ [z], ⟨_, _, _, _, _, _, rfl⟩, by rw [List.map_append]; exact upd_same, by rw [List.length_append, lm]; rfl, fun t m hm => ?_, ?_, LM.sPut hS (Same.trans s3 s36)⟩
        · by_cases c : t < ms.length
          · rw [List.getElem?_append_left c] at hm
            exact lg t m hm
          · rw [List.getElem?_append_right (by omega)] at hm
            have e : t - ms.length = 0 := by
              have := (List.getElem?_eq_some_iff.mp hm).1
              simp only [List.length_cons, List.length_nil] at this
              omega
            rw [e] at hm
            cases hm
            rw [show t = i by omega]
            exact lz
        · rw [upd_ne nq]
          exact s36 _ _ hq3
    rintro σ H3 ⟨ms, ⟨v6, v7, v8, v9, v10, v11, rfl⟩, h3, lg, s3⟩
    exact ⟨_, rfl, k S ms H3 hS h3 lg s3⟩
end
end WW
end

section
set_option Elab.async false
set_option linter.all false
set_option maxRecDepth 100000
set_option maxHeartbeats 4000000
namespace WW
open PySem L2 WO WG RZ WQ WT WC
/-- a service -/
def SvC (H : Hp) (C x : Addr) (F : Nat → V) : Prop := ∃ (v : List V) (p : Nat) (g : Int), CurveAt H C x v p g ∧ RowF v p g F ∧ Calm v p g ∧ 0 < v.length ∧ v.length ≤ 100000
theorem SvC.same {H H' : Hp} {C x : Addr} {F : Nat → V} (h : SvC H C x F) (s : Same H H') : SvC H' C x F := by
  obtain ⟨v, p, g, h1, h2⟩ := h
  exact ⟨v, p, g, h1.same s, h2⟩
theorem RowF.upN {xs : List V} {p : Nat} {g : Int} {F : Nat → V} (h : RowF xs p g F) {i j : Nat} (hij : i ≤ j) (hi : F i = .non) : F j = .non := by
  cases h with
  | mkI s p g => cases hi
  | mkN s k p g =>
    unfold FN at hi ⊢
    split at hi
    · cases hi
    · rw [if_neg (by omega)]
theorem filter_pre {p : Nat → Bool} (dn : ∀ i j, i ≤ j → p j = true → p i = true) : ∀ n, ∃ L, L ≤ n ∧ (List.range n).filter p = List.range L ∧ ∀ j, j < n → (p j = true ↔ j < L)
  | 0 => ⟨0, Nat.le_refl _, rfl, fun j hj => absurd hj (Nat.not_lt_zero _)⟩
  | n + 1 => by
    obtain ⟨L, l1, l2, l3⟩ := filter_pre dn n
    rw [List.range_succ, List.filter_append, l2]
    cases hp : p n with
    | true =>
      have : L = n := by
        rcases Nat.lt_or_ge L n with q | q
        · have := (l3 L q).mp (dn L n (by omega) hp)
          omega
        · omega
      subst this
      refine ⟨L + 1, Nat.le_refl _, ?_, fun j hj => ⟨fun _ => hj, fun _ => dn j L (by omega) hp⟩⟩
      rw [List.filter_cons, hp, if_pos rfl, List.filter_nil, ← List.range_succ]
    | false =>
      refine ⟨L, by omega, ?_, fun j hj => ?_⟩
      · rw [List.filter_cons, hp, if_neg (by decide), List.filter_nil, List.append_nil]
      · by_cases c : j < n
        · exact l3 j c
        · have : j = n := by omega
          subst this
          rw [hp]
          exact ⟨fun z => (by cases z), fun z => by omega⟩
def iv : V → Int
  | .int i => i
  | _ => 0
theorem sg_row {xs : List V} {p : Nat} {g : Int} {F : Nat → V} (R : RowF xs p g F) {n : Nat} (n1 : 1 ≤ n) :
    ∃ ws : List Int, ((List.range n).filter fun j => !decide (SG F j = .non)).map (SG F) = ws.map V.int ∧ 1 ≤ ws.length ∧ ws.length ≤ n ∧ ∀ j, j < n → SG F j = GW ws j := by
  obtain ⟨L, l1, l2, l3⟩ := filter_pre (p := fun j => !decide (SG F j = .non)) (fun i j hij h => by
    have h : SG F j ≠ .non := by simpa using h
    have : SG F i ≠ .non := fun z => by
      unfold SG at z h
      split at z
      · cases z
      · rw [if_neg (by omega)] at h
        exact h (R.upN hij z)
    simpa using this) n
  have it : ∀ j, j < n → j < L → SG F j = .int (iv (SG F j)) := fun j h1 h2 => by
    have h : SG F j ≠ .non := by simpa using (l3 j h1).mpr h2
    unfold SG at h ⊢
    split
    · rfl
    · rename_i c
      rw [if_neg c] at h
      rcases R.flat j with q | ⟨i, q⟩
      · exact absurd q h
      · rw [q]
        rfl
  have lw : ((List.range L).map fun j => iv (SG F j)).length = L := by rw [List.length_map, List.length_range]
  have L1 : 0 < L := (l3 0 n1).mp (by simp [SG])
  refine ⟨(List.range L).map fun j => iv (SG F j), ?_, by omega, by omega, fun j hj => ?_⟩
  · rw [l2, List.map_map]
    exact List.map_congr_left fun j hj => by
      have := List.mem_range.mp hj
      exact it j (by omega) this
  · unfold GW
    rw [lw]
    by_cases c : j < L
    · rw [if_pos c, List.getD_eq_getElem?_getD, List.getElem?_map, List.getElem?_range c]
      exact it j hj c
    · rw [if_neg c]
      by_cases h : SG F j = .non
      · exact h
      · exact absurd ((l3 j hj).mp (by simpa using h)) c
theorem ixA {K : PySem.W.Frag} {H : Hp} {a : Addr} {xs : List V} {i : Nat} {v : V} {Q : VK} (h : SeqA K H a xs) (e : xs[i]? = some v) (q : Q v H) : rIx K (.ref a) (.int (i : Nat)) H Q := by
  rcases h with h | h
  · exact .inl ⟨a, _, _, _, rfl, rfl, h, atI_nat e, q⟩
  · exact .inr (.inl ⟨a, _, _, _, rfl, rfl, h, atI_nat e, q⟩)
theorem nocur_same {K : PySem.W.Frag} {H H' : Hp} {C : Addr} {x : V} (h : NoCur K H C x) (s : Same H H') : NoCur K H' C x := by
  obtain ⟨t, h1, h2⟩ := h
  exact ⟨t, TyX.same' s h1, h2⟩
section
variable {P : Program} {w : World} {K : PySem.W.Frag} {mg : Str → Option Value} {base : Heap}
abbrev nSrw : List Str := ["service", "many", "row", "one"]
theorem scSrw : FnScope nSrw ["service", "many"] (defScope sSrw) := ⟨rfl, rfl, rfl, by decide +kernel, rfl, by decide +kernel, by decide +kernel⟩
def spSrw (K : PySem.W.Frag) (C : Addr) : Sp := fun vs H Q _ => ∃ (x : Addr) (n : Nat) (F : Nat → V), vs = [.ref x, .int n] ∧ SvC H C x F ∧ 1 ≤ n ∧ n ≤ 1001 ∧
  ∀ z ws H', H z = none → H' z = some (.lst (ws.map V.int)) → 1 ≤ ws.length → ws.length ≤ n → (∀ j, j < n → SG F j = GW ws j) → Same H H' → Q (.ref z) H'
theorem ok_srw {f C : Addr} {fd : FuncData} (F : Fun K "service_row" "service_row" sSrw f fd) (T : CurG mg) (c_fir : Cal P w K mg base CX0 3 "first_values" ["curve", "many"] (spFirst K C)) : FnOk P w K mg base CX0 4 f fd ["service", "many"] (spSrw K C) := by
  refine F.ok scSrw (fun vs H Q E h => ?_) (fun cdv A outer s H vs Q E hr h => ?_)
  · obtain ⟨x, n, F, rfl, _⟩ := h
    rfl
  · obtain ⟨x, n, F, rfl, ⟨v, p, g, cu, R, CM, v0, v1⟩, n1, n2, k⟩ := h
    refine ⟨_, (C8.pss_cut (ps_set (i := 2) scSrw.nd rfl (Or.inl rfl) (pe_op op_cat (pe_lst (pa_cons pe_int pa_nil)) (pe_slice sl_list (pe_callC c_fir (hr.mono (by decide)) rfl pass0 (pa_cons (pv 0) (pa_cons (pv 1) pa_nil))) (po_some pe_int) po_none)))
 (pss_one
 (ps_ret (pe_lc (own := [("one", 3)]) (g := (gName 3)) rfl scSrw.nd (pi_list (pv 2)) (blkOk_by (N := nSrw) (sc := defScope sSrw) (by decide +kernel)) (fun _ _ _ _ _ => (pg_name (i := 3) scSrw.nd rfl (Or.inl rfl))) (fun _ _ _ _ _ => pts_one (pt_cmpR op_notN (pv 3) pe_non (nomark _))) (fun _ _ _ _ _ => (pv 3)))))), ?_⟩
    refine ⟨fun σ H' => ∃ o, σ = [some (.ref x), some (.int (n : Nat)), some (.ref o), none] ∧ H' o = some (.lst ((List.range n).map (SG F))) ∧ Same H H', ?_, ?_⟩
    · refine ⟨(by show 1 ≤ sizeLine; decide), fun u hu => ?_⟩
      generalize g1 : upd H u _ = H1
      obtain ⟨s1, f1⟩ := alloc g1 hu
      refine ⟨_, rfl, _, rfl, x, v, p, n, g, F, rfl, cu.same s1, R, CM, v0, v1, by omega, fun z H2 hz h2 s2 => ⟨1, rfl, z, _, rfl, SqL.of h2, fun y hy => ?_⟩⟩
      rw [cut1 (by rw [List.length_map, List.length_range]; exact n1)]
      generalize g3 : upd H2 y _ = H3
      obtain ⟨s3, f3⟩ := alloc g3 hy
      refine ⟨u, y, _, _, rfl, rfl, s3 _ _ (s2 _ _ f1), f3, ?_, fun o ho => ⟨o, rfl, ?_, Same.trans s1 (Same.trans s2 (Same.trans s3 (same_new ho)))⟩⟩
      · rw [List.length_drop, List.length_map, List.length_range]
        show 1 + (n - 1) ≤ sizeLine
        exact line_of (by omega)
      · have e : [V.int 0] ++ ((List.range n).map F).drop 1 = (List.range n).map (SG F) := by
          obtain ⟨m, rfl⟩ : ∃ m, n = m + 1 := ⟨n - 1, by omega⟩
          rw [List.range_succ_eq_map, List.map_cons, List.map_cons, List.map_map, List.map_map]
          rfl
        rw [e]
        exact upd_same
    rintro σ H1 ⟨o, rfl, h1, s1⟩
    obtain ⟨ws, ew, w1, w2, w3⟩ := sg_row R n1
    refine ⟨_, rfl, o, rfl, ⟨_, SqL.of h1⟩, fun D hD => LM.lcF (walk_list (xs := (List.range n).map (SG F))) (fun j => !decide (SG F j = .non)) (SG F) hD (by rw [List.length_map, List.length_range]; omega) (fun H2 s2 => SqL.of (s2 _ _ h1)) ?_ fun H2 h2 s2 => ?_⟩
    · rintro j y H2 H3 hj s2 ⟨rfl, hy⟩ R' N kk kn
      rw [List.length_map, List.length_range] at hj
      rw [List.getElem?_map, List.getElem?_range hj] at hy
      cases hy
      cases c : (!decide (SG F j = .non)) with
      | true => exact ⟨rfl, _, rfl, rfl, true, by rw [c], iteT ⟨_, rfl, kk c _ (Same.refl _)⟩⟩
      | false => exact ⟨rfl, _, rfl, rfl, false, by rw [c], iteF (kn c _ (Same.refl _))⟩
    · rw [List.length_map, List.length_range, ew] at h2
      exact k D ws H2 (s1.free hD) h2 w1 w2 w3 (Same.trans s1 s2)
abbrev nLle : List Str := ["came", "service"]
theorem scLle : FnScope nLle nLle (defScope sLle) := ⟨rfl, rfl, rfl, by decide +kernel, rfl, by decide +kernel, by decide +kernel⟩
def spLle (K : PySem.W.Frag) (C : Addr) : Sp := fun vs H Q _ => ∃ (a x : Addr) (cs : List Int) (F : Nat → V), vs = [.ref a, .ref x] ∧ SeqA K H a (cs.map V.int) ∧ SvC H C x F ∧ 1 ≤ cs.length ∧ cs.length ≤ 1001 ∧
  ∀ z ms H', H z = none → H' z = some (.tup (ms.map V.int)) → LgL cs (SG F) ms → Same H H' → Q (.ref z) H'
theorem ok_lle {f C : Addr} {fd : FuncData} (F : Fun K "least_left" "least_left" sLle f fd) (T : CurG mg) (c_lsu : Cal P w K mg base CX0 1 "least_sums" ["row", "other_row", "many"] (spLsu K)) (c_srw : Cal P w K mg base CX0 4 "service_row" ["service", "many"] (spSrw K C)) :
    FnOk P w K mg base CX0 5 f fd nLle (spLle K C) := by
  refine F.ok scLle (fun vs H Q E h => ?_) (fun cdv A outer s H vs Q E hr h => ?_)
  · obtain ⟨a, x, cs, F, rfl, _⟩ := h
    rfl
  · obtain ⟨a, x, cs, F, rfl, ha, sv, c1, c2, k⟩ := h
    refine ⟨_, (pss_one
 (ps_ret (pe_callTy call_tuple_of (by rfl) T.tuple (by decide +kernel) (pa_cons (pe_callC c_lsu (hr.mono (by decide)) rfl pass0 (pa_cons (pv 0) (pa_cons (pe_callC c_srw (hr.mono (by decide)) rfl pass0 (pa_cons (pv 1) (pa_cons (pe_callB call_len_seq (by rfl) T.len PySem.boot_len (pa_cons (pv 0) pa_nil)) pa_nil))) (pa_cons (pe_callB call_len_seq (by rfl) T.len PySem.boot_len (pa_cons (pv 0) pa_nil)) pa_nil)))) pa_nil)))), ?_⟩
    have lcm : (cs.map V.int).length = cs.length := List.length_map ..
    refine ⟨_, rfl, _, rfl, _, rfl, a, _, rfl, ha, x, cs.length, F, by rw [lcm]; rfl, sv, c1, c2, fun z ws H1 hz h1 w1 w2 w3 s1 => ?_⟩
    refine ⟨_, rfl, a, _, rfl, ha.same s1, a, z, cs, ws, by rw [lcm]; rfl, ha.same s1, SqL.of h1, c2, w1, by omega, fun z2 ms H2 hz2 h2 lg s2 => ?_⟩
    have s12 := Same.trans s1 s2
    exact ⟨z2, _, rfl, .inl ⟨SqL.of h2, fun y hy => k y ms _ (s12.free hy) upd_same (lg.as fun j hj => (w3 j hj).symm) (Same.trans s12 (same_new hy))⟩⟩
abbrev sSbr : Stmt := top 58
abbrev sKsv : Stmt := top 59
theorem flat_ints : ∀ ns : List Int, (ns.map V.int).all flatV = true
  | [] => rfl
  | i :: r => by rw [List.map_cons, List.all_cons, flat_ints r]; rfl
theorem Asc0.one {cs : List Int} (h : Asc0 cs) : 1 ≤ cs.length := by
  obtain ⟨r, rfl, _⟩ := h
  exact Nat.succ_le_succ (Nat.zero_le _)
/-- the first beat at which less has gone -/
def IsBrk (gs ms : List Int) (r : V) : Prop := (r = .non ∧ ∀ (i : Nat) (g m : Int), gs[i]? = some g → ms[i]? = some m → m ≤ g) ∨
  ∃ (i : Nat) (g m : Int), r = .int i ∧ gs[i]? = some g ∧ ms[i]? = some m ∧ g < m ∧ ∀ (j : Nat) (g m : Int), j < i → gs[j]? = some g → ms[j]? = some m → m ≤ g
abbrev nSbr : List Str := ["run", "service", "came", "gone", "beat", "least"]
theorem scSbr : FnScope nSbr ["run", "service"] (defScope sSbr) := ⟨rfl, rfl, rfl, by decide +kernel, rfl, by decide +kernel, by decide +kernel⟩
def spSbr (K : PySem.W.Frag) (C CN CB : Addr) : Sp := fun vs H Q E => ∃ x y : V, vs = [x, y] ∧
  ((∃ o, ThIn K H x o ∧ ¬ RunOk o ∧ ∀ H', Same H H' → E (.ref CN) none H') ∨
   ∃ (t a g : Addr) (cs gs : List Int), x = .ref t ∧ SqT K H t [.ref a, .ref g] ∧ SeqP K H a (cs.map V.int) g (gs.map V.int) ∧ RunPair cs gs ∧ cs.length ≤ 1001 ∧
    ((NoCur K H C y ∧ ∀ H1 d H', Same H H1 → Raised H1 "part" .non d H' → E (.ref CB) (some d) H') ∨
     ∃ (c : Addr) (F : Nat → V), y = .ref c ∧ SvC H C c F ∧ ∀ r ms H', LgL cs (SG F) ms → IsBrk gs ms r → Same H H' → Q r H'))
theorem ok_sbr {f C CN CB : Addr} {fd : FuncData} (F : Fun K "service_break" "service_break" sSbr f fd) (nenum : mg "enumerate" = none) (c_nru : Cal P w K mg base (L2.CX P w) 4 "need_run" ["thing"] (spNeedRun K CN)) (c_ncu : Cal P w K mg base (L2.CX P w) 3 "need_curve" ["thing"] (spNeedCur K C CB))
    (c_lle : Cal P w K mg base CX0 5 "least_left" nLle (spLle K C)) : FnOk P w K mg base (L2.CX P w) 6 f fd ["run", "service"] (spSbr K C CN CB) := by
  refine F.okX scSbr (fun vs H Q E h => ?_) (fun cdv A outer s H vs Q E hr h => ?_)
  · obtain ⟨x, y, rfl, _⟩ := h
    rfl
  · obtain ⟨x, y, rfl, h⟩ := h
    refine ⟨_, (C8.pss_cut (ps_expr (pe_callC c_nru (hr.mono (by decide)) rfl (passX (E := E) (takes_of rfl rfl rfl rfl) fun _ _ _ _ h => h) (pa_cons (pv 0) pa_nil)))
 (C8.pss_cut (ps_expr (pe_callC c_ncu (hr.mono (by decide)) rfl (passX (E := E) (takes_of rfl rfl rfl rfl) fun _ _ _ _ h => h) (pa_cons (pv 1) pa_nil)))
 (C8.pss_cut (ps_asg (pv 0) (pg_tup rfl (pgs_cons (pg_name (i := 2) scSbr.nd rfl (Or.inl rfl)) (pgs_cons (pg_name (i := 3) scSbr.nd rfl (Or.inl rfl)) pgs_nil))))
 (C8.pss_cut (ps_for (passes_of rfl) rfl (WQ.pi_enumS (by rfl) nenum (pa_cons (pe_callC c_lle (hr.mono (by decide)) rfl pass0 (pa_cons (pv 2) (pa_cons (pv 1) pa_nil))) pa_nil)) (pg_tup rfl (pgs_cons (pg_name (i := 4) scSbr.nd rfl (Or.inl rfl)) (pgs_cons (pg_name (i := 5) scSbr.nd rfl (Or.inl rfl)) pgs_nil))) (pss_one
 (ps_if (pt_cmpR op_lt (pe_ix ix_seq (pv 3) (pv 4) (fun _ _ => rfl)) (pv 5) (nomark _)) (pss_one
 (ps_ret (pv 4))) pss_nil)))
 (pss_one
 (ps_ret pe_non)))))), ?_⟩
    rcases h with ⟨o, ti, no, k⟩ | ⟨t, a, g, cs, gs, rfl, ht, hp, rp, lc, h⟩
    · exact ⟨fun _ _ => False, ⟨_, rfl, x, o, rfl, ti, fun z => absurd z no, fun _ H' s => k H' s⟩, fun _ _ z => z.elim⟩
    have lcm : (cs.map V.int).length = cs.length := List.length_map ..
    have lgm : (gs.map V.int).length = gs.length := List.length_map ..
    have el := rp.2.2.1
    refine ⟨fun σ H' => σ = [some (.ref t), some y, none, none, none, none] ∧ Same H H', ?_, ?_⟩
    · refine ⟨_, rfl, _, _, rfl, .two ht (.seq hp.l (flat_ints cs) (by rw [lcm]; exact lc)) (.seq hp.r (flat_ints gs) (by rw [lgm]; omega)) (fun xs ys e1 e2 => by cases e1; cases e2; exact ⟨a, g, rfl, rfl, hp⟩), fun _ H1 s1 => ⟨rfl, s1⟩, fun z => absurd ⟨cs, gs, rfl, rp⟩ z⟩
    rintro σ H1 ⟨rfl, s1⟩
    rcases h with ⟨no, k⟩ | ⟨c, F, rfl, sv, k⟩
    · exact ⟨fun _ _ => False, ⟨_, rfl, y, rfl, .inr ⟨nocur_same no s1, fun d H' r => k H1 d H' s1 r⟩⟩, fun _ _ z => z.elim⟩
    have sv1 := sv.same s1
    have ht1 := SqT.ext ht s1
    have hp1 := hp.same s1
    refine ⟨fun σ H' => σ = [some (.ref t), some (.ref c), none, none, none, none] ∧ H1 = H', ?_, ?_⟩
    · obtain ⟨v, p, g', cu, _⟩ := id sv1
      exact ⟨_, rfl, _, rfl, .inl ⟨c, v, _, _, rfl, cu, rfl, rfl⟩⟩
    rintro σ _ ⟨rfl, rfl⟩
    refine ⟨fun σ H' => σ = [some (.ref t), some (.ref c), some (.ref a), some (.ref g), none, none] ∧ H1 = H', ?_, ?_⟩
    · exact ⟨_, rfl, t, [_, _], rfl, ht1, rfl, _, _, rfl, _, _, rfl, rfl, rfl, rfl⟩
    rintro σ _ ⟨rfl, rfl⟩
    refine ⟨fun σ H' => ∃ ms, (∃ v4 v5, σ = [some (.ref t), some (.ref c), some (.ref a), some (.ref g), v4, v5]) ∧ LgL cs (SG F) ms ∧ IsBrk gs ms .non ∧ Same H H', ?_, ?_⟩
    · refine ⟨_, rfl, _, rfl, a, c, cs, F, rfl, hp1.l, sv1, rp.1.one, lc, fun z ms H2 hz h2 lg s2 => ?_⟩
      have s02 := Same.trans s1 s2
      have lms : (ms.map V.int).length = ms.length := List.length_map ..
      have l1 := lg.1
      refine ⟨z, _, rfl, .inr (SqT.of h2), fun J G wk st => for_it wk (fun i σ H' => (∃ v4 v5, σ = [some (.ref t), some (.ref c), some (.ref a), some (.ref g), v4, v5]) ∧ Same H2 H' ∧ ∀ (j : Nat) (g m : Int), j < i → gs[j]? = some g → ms[j]? = some m → m ≤ g) ⟨⟨_, _, rfl⟩, Same.refl _, fun j g m hj => absurd hj (Nat.not_lt_zero _)⟩ (fun i σ H' _ ⟨_, s, _⟩ => st _ (.of s _ _)) ?_ ?_⟩
      · rintro i x σ H3 H4 hi ⟨⟨v4, v5, rfl⟩, s3, al⟩ ⟨T, u1, u2, rfl, hT, rfl, e1, e2⟩
        rw [lms] at hi
        dsimp only at e1 e2
        rw [getD_map hi] at e2
        cases e1
        cases e2
        have sT : Same H2 (upd H3 T (.tup [V.int (i : Nat), V.int (ms.getD i 0)])) := Same.trans s3 (same_new hT)
        have gi : (gs.map V.int)[i]? = some (.int (gs.getD i 0)) := getD_map (by omega)
        have g0 : gs[i]? = some (gs.getD i 0) := by rw [List.getD_eq_getElem?_getD, List.getElem?_eq_getElem (show i < gs.length by omega)]; rfl
        have m0 : ms[i]? = some (ms.getD i 0) := by rw [List.getD_eq_getElem?_getD, List.getElem?_eq_getElem hi]; rfl
        refine ⟨T, [_, _], rfl, SqT.of upd_same, rfl, _, _, rfl, _, _, rfl, rfl, ?_⟩
        refine ⟨_, rfl, _, rfl, ixA (hp1.r.same (Same.trans s2 sT)) gi ⟨_, rfl, _, _, rfl, rfl, ?_⟩⟩
        by_cases c0 : gs.getD i 0 < ms.getD i 0
        · exact ⟨true, bT c0, iteT ⟨_, rfl, k _ ms _ lg (.inr ⟨i, _, _, rfl, g0, m0, c0, al⟩) (Same.trans s02 sT)⟩⟩
        · refine ⟨false, bF c0, iteF ⟨⟨_, _, rfl⟩, sT, fun j g' m' hj hg hm => ?_⟩⟩
          by_cases cj : j < i
          · exact al j g' m' cj hg hm
          · have : j = i := by omega
            subst this
            rw [hg] at g0
            rw [hm] at m0
            have := Option.some.inj g0
            have := Option.some.inj m0
            omega
      · rintro σ H3 ⟨⟨v4, v5, rfl⟩, s3, al⟩
        refine ⟨ms, ⟨_, _, rfl⟩, lg, .inl ⟨rfl, fun i g' m' hg hm => al i g' m' ?_ hg hm⟩, Same.trans s02 s3⟩
        rw [lms]
        exact (List.getElem?_eq_some_iff.mp hm).1
    rintro σ H2 ⟨ms, ⟨v4, v5, rfl⟩, lg, br, s2⟩
    exact k _ ms H2 lg br s2
theorem scKsv : FnScope ["run", "service"] ["run", "service"] (defScope sKsv) := ⟨rfl, rfl, rfl, by decide +kernel, rfl, by decide +kernel, by decide +kernel⟩
def spKsv (K : PySem.W.Frag) (C CN CB : Addr) : Sp := fun vs H Q E => spSbr K C CN CB vs H (fun r H' => Q (.bl (decide (r = .non))) H') E
theorem ok_ksv {f C CN CB : Addr} {fd : FuncData} (F : Fun K "keeps_service" "keeps_service" sKsv f fd) (c_sbr : Cal P w K mg base (L2.CX P w) 6 "service_break" ["run", "service"] (spSbr K C CN CB)) : FnOk P w K mg base (L2.CX P w) 7 f fd ["run", "service"] (spKsv K C CN CB) := by
  refine F.okX scKsv (fun vs H Q E h => ?_) (fun cdv A outer s H vs Q E hr h => ?_)
  · obtain ⟨x, y, rfl, _⟩ := h
    rfl
  · obtain ⟨x, y, rfl, h⟩ := h
    refine ⟨_, (pss_one
 (ps_ret (pe_cmpR op_isN (pe_callC c_sbr (hr.mono (by decide)) rfl (passX (E := E) (takes_of rfl rfl rfl rfl) fun _ _ _ _ h => h) (pa_cons (pv 0) (pa_cons (pv 1) pa_nil))) pe_non (nomark _)))), ?_⟩
    refine ⟨_, rfl, _, rfl, x, y, rfl, ?_⟩
    rcases h with h | ⟨t, a, g, cs, gs, rfl, ht, hp, rp, lc, h⟩
    · exact .inl h
    refine .inr ⟨t, a, g, cs, gs, rfl, ht, hp, rp, lc, ?_⟩
    rcases h with h | ⟨c, F, rfl, sv, k⟩
    · exact .inl h
    exact .inr ⟨c, F, rfl, sv, fun r ms H' lg br s => ⟨rfl, k r ms H' lg br s⟩⟩
end
end WW
end

section
set_option Elab.async false
set_option linter.all false
set_option maxRecDepth 100000
set_option maxHeartbeats 4000000
namespace WW
open PySem L2 WO WG RZ WQ WT WC
/-! ### services of sketches -/
def UpV (F : Nat → V) : Prop := ∀ (i j : Nat) (k : Int), i ≤ j → F j = .int k → ∃ k' : Int, F i = .int k' ∧ 0 ≤ k' ∧ k' ≤ k
theorem skiM {L pm : Nat} {B : Int} {s : List Int} {p : Nat} {g : Int} (h : SkI L pm B s p g) : MF.Mono (MF.at_ s p g) := by
  have p0 := h.p0
  have pn := h.pn
  refine MF.mono_at p0 pn (List.pairwise_iff_getElem.mpr fun i j hi hj l => ?_) ?_
  · exact asc_le h.asc (j - i) i _ _ (List.getElem?_eq_getElem hi) (by rw [show i + (j - i) = j by omega]; exact List.getElem?_eq_getElem hj)
  · rw [MF.at_low (show s.length - 1 < s.length by omega), MF.at_low (show s.length - p < s.length by omega), List.getD_eq_getElem?_getD, List.getD_eq_getElem?_getD, List.getElem?_eq_getElem (show s.length - 1 < s.length by omega), List.getElem?_eq_getElem (show s.length - p < s.length by omega)]
    exact h.fit _ _ (List.getElem?_eq_getElem _) (List.getElem?_eq_getElem _)
theorem mono_le {f : Nat → Int} (h : MF.Mono f) {i : Nat} : ∀ k, f i ≤ f (i + k)
  | 0 => Int.le_refl _
  | k + 1 => Int.le_trans (mono_le h k) (h (i + k))
theorem skiB {L pm : Nat} {B : Int} {s : List Int} {p : Nat} {g : Int} (h : SkI L pm B s p g) (j : Nat) : 0 ≤ MF.at_ s p g j ∧ MF.at_ s p g j ≤ B + ((j + 1 : Nat) : Int) * B := by
  have g0 := h.g0
  have g1 := h.g1
  have gd : ∀ i, i < s.length → 0 ≤ s.getD i 0 ∧ s.getD i 0 ≤ B := fun i hi => by
    rw [List.getD_eq_getElem?_getD, List.getElem?_eq_getElem hi]
    exact h.wi i _ (List.getElem?_eq_getElem hi)
  have m2 : 0 ≤ ((j + 1 : Nat) : Int) * B := Int.mul_nonneg (by omega) (by omega)
  by_cases c : j < s.length
  · rw [MF.at_low c]
    have := gd j c
    omega
  · unfold MF.at_
    rw [if_neg c]
    have p0 := h.p0
    have pn := h.pn
    have hm := Nat.mod_add_div (j - s.length) p
    have hml := Nat.mod_lt (j - s.length) p0
    have hq : (j - s.length) / p ≤ j - s.length := Nat.div_le_self _ _
    generalize (j - s.length) / p = qq at *
    have hmul : (qq + 1) * p = p * qq + p := by rw [Nat.succ_mul, Nat.mul_comm]
    have := gd (j - (qq + 1) * p) (by omega)
    have m0 : 0 ≤ ((qq + 1 : Nat) : Int) * g := Int.mul_nonneg (by omega) g0
    have m1 : ((qq + 1 : Nat) : Int) * g ≤ ((j + 1 : Nat) : Int) * B := Int.mul_le_mul (by omega) g1 g0 (by omega)
    omega
theorem skiR {L pm : Nat} {B : Int} {s : List Int} {p : Nat} {g : Int} (h : SkI L pm B s p g) (hp : pm ≤ 1000) : RowF (s.map V.int) p g (fun j => .int (MF.at_ s p g j)) := .mkI s p g h.p0 h.pn (by have := h.pm; omega)
theorem Sk.upV {L pm : Nat} {B : Int} {xs : List V} {p : Nat} {g : Int} (h : Sk L pm B xs p g) (hp : pm ≤ 1000) : ∃ F, RowF xs p g F ∧ UpV F := by
  cases h with
  | mkI s p g h =>
    refine ⟨_, skiR h hp, fun i j k hij e => ⟨_, rfl, (skiB h i).1, ?_⟩⟩
    have e := V.int.inj e
    have := mono_le (skiM h) (i := i) (j - i)
    rw [show i + (j - i) = j by omega] at this
    omega
  | mkN s k g le asc wi g0 g1 =>
    refine ⟨_, .mkN s k 1 g, fun i j z hij e => ?_⟩
    have hj : j < s.length := by
      refine Nat.not_le.mp fun c => ?_
      unfold FN at e
      rw [if_neg (by omega)] at e
      cases e
    have hi : i < s.length := by omega
    unfold FN at e ⊢
    rw [if_pos hj, List.getD_eq_getElem?_getD, List.getElem?_eq_getElem hj] at e
    rw [if_pos hi, List.getD_eq_getElem?_getD, List.getElem?_eq_getElem hi]
    have e := V.int.inj e
    refine ⟨_, rfl, (wi i _ (List.getElem?_eq_getElem hi)).1, ?_⟩
    have := asc_le asc (j - i) i _ _ (List.getElem?_eq_getElem hi) (by rw [show i + (j - i) = j by omega]; exact List.getElem?_eq_getElem hj)
    show s[i] ≤ z
    have e : s[j] = z := e
    omega
theorem Sk.wide {L L' pm : Nat} {B B' : Int} {xs : List V} {p : Nat} {g : Int} (h : Sk L pm B xs p g) (l : L ≤ L') (b : B ≤ B') : Sk L' pm B' xs p g := by
  have wd : ∀ {s}, Within s B → Within s B' := fun w i x hx => ⟨(w i x hx).1, Int.le_trans (w i x hx).2 b⟩
  cases h with
  | mkI s p g h => exact .mkI s p g ⟨h.p0, h.pn, h.pm, Nat.le_trans h.le l, h.asc, wd h.wi, h.g0, Int.le_trans h.g1 b, h.fit⟩
  | mkN s k g le asc wi g0 g1 => exact .mkN s k g (Nat.le_trans le l) asc (wd wi) g0 (Int.le_trans g1 b)
theorem svc_of {H : Hp} {C x : Addr} {xs v : List V} {p : Nat} {g q r : Int} {F : Nat → V} (M : MakeOk xs p g) (fv : FormV xs p g v q r) (R : RowF xs p g F) (cu : CurveAt H C x v q r) : SvC H C x F := by
  obtain ⟨q1, rfl, fo⟩ := form_g fv R
  obtain ⟨q2, e2, CM⟩ := calm_of M fv
  obtain rfl : q1 = q2 := Int.ofNat.inj e2
  obtain ⟨qn, rn, e3, _, _, qp, _⟩ := form_last M fv
  have := formV_len fv
  have := M.st.l2
  have := M.p2
  have := fo.len
  exact ⟨v, q1, r, cu, fo.rowF (by omega), CM, by omega, by omega⟩
/-- from nothing on -/
def s0 (s : List Int) (p : Nat) (g : Int) (j : Nat) : Int := if j = 0 then 0 else MF.at_ s p g j
theorem ski_s0 {s : List Int} {p : Nat} {g : Int} (h : SkI 6 6 28 s p g) {n : Nat} (h1 : s.length ≤ n) (h2 : p + 1 ≤ n) (h3 : n ≤ 7) : SkI 7 6 300 ((List.range n).map (s0 s p g)) p g := by
  have ln : ((List.range n).map (s0 s p g)).length = n := by rw [List.length_map, List.length_range]
  have get : ∀ {i x}, ((List.range n).map (s0 s p g))[i]? = some x → i < n ∧ x = s0 s p g i := fun {i x} e => by
    rw [List.getElem?_map] at e
    obtain ⟨j, hj, rfl⟩ := Option.map_eq_some_iff.mp e
    have hi := (List.getElem?_eq_some_iff.mp hj).1
    rw [List.length_range] at hi
    rw [List.getElem?_range hi] at hj
    cases hj
    exact ⟨hi, rfl⟩
  have p0 := h.p0
  have pn := h.pn
  have g0 := h.g0
  have g1 := h.g1
  refine ⟨p0, by omega, h.pm, by omega, fun i x y hx hy => ?_, fun i x hx => ?_, g0, by omega, fun x y hx hy => ?_⟩
  · obtain ⟨_, rfl⟩ := get hx
    obtain ⟨_, rfl⟩ := get hy
    unfold s0
    rw [if_neg (Nat.succ_ne_zero i)]
    split
    · exact (skiB h _).1
    · exact skiM h i
  · obtain ⟨hi, rfl⟩ := get hx
    have := skiB h i
    have : ((i + 1 : Nat) : Int) * 28 ≤ 8 * 28 := Int.mul_le_mul_of_nonneg_right (by omega) (by decide)
    unfold s0
    split <;> omega
  · rw [ln] at hx hy
    obtain ⟨_, rfl⟩ := get hx
    obtain ⟨_, rfl⟩ := get hy
    unfold s0
    rw [if_neg (by omega), if_neg (by omega)]
    have Q := MF.at_qp (s := s) (g := g) p0 pn (n - p) (by omega)
    have := skiM h (n - 1)
    rw [show n - 1 + 1 = n - p + p by omega] at this
    omega
section
variable {P : Program} {w : World} {K : PySem.W.Frag} {mg : Str → Option Value} {base : Heap}
abbrev sFno : Stmt := top 73
abbrev sSma : Stmt := top 72
abbrev sSat : Stmt := top 74
abbrev sPlu : Stmt := top 71
abbrev sLgn : Stmt := top 75
abbrev sAse : Stmt := top 81
abbrev nFno : List Str := ["sketch", "size", "start_here", "beat"]
theorem scFno : FnScope nFno ["sketch"] (defScope sFno) := ⟨rfl, rfl, rfl, by decide +kernel, rfl, by decide +kernel, by decide +kernel⟩
def spFno (K : PySem.W.Frag) : Sp := fun vs H Q _ => ∃ (e a : Addr) (s : List Int) (p : Nat) (g : Int), vs = [.ref e] ∧ H e = some (.dK (skKvs a p g)) ∧ H a = some (.lst (s.map V.int)) ∧ SkI 6 6 28 s p g ∧
  ∀ e' a' s' H', H e' = none → H a' = none → H' e' = some (.dK (skKvs a' p g)) → H' a' = some (.lst (s'.map V.int)) → SkI 7 6 300 s' p g → Same H H' → Q (.ref e') H'
theorem ok_fno {f : Addr} {fd : FuncData} (F : Fun K "_law_from_nought" "_law_from_nought" sFno f fd) (T : CurG mg) (nmax : mg "max" = none) (c_at : Cal P w K mg base CX0 1 "_law_at" ["sketch", "beat"] (spAt K)) : FnOk P w K mg base CX0 2 f fd ["sketch"] (spFno K) := by
  refine F.ok scFno (fun vs H Q E h => ?_) (fun cdv A outer s H vs Q E hr h => ?_)
  · obtain ⟨e, a, s, p, g, rfl, _⟩ := h
    rfl
  · obtain ⟨e, a, s, p, g, rfl, he, ha, S, k⟩ := h
    have hu := hu_of hr
    refine ⟨_, (C8.pss_cut (ps_set (i := 1) scFno.nd rfl (Or.inl rfl) (pe_callB (call_max2 rfl) (by rfl) nmax (by decide +kernel) (pa_cons (pe_callB call_len_seq (by rfl) T.len PySem.boot_len (pa_cons (pe_dget hu (pv 0) pe_str (fun _ _ => rfl)) pa_nil)) (pa_cons (pe_op op_add (pe_dget hu (pv 0) pe_str (fun _ _ => rfl)) pe_int) pa_nil))))
 (C8.pss_cut (ps_set (i := 2) scFno.nd rfl (Or.inl rfl) (pe_op op_cat (pe_lst (pa_cons pe_int pa_nil)) (pe_lc (own := [("beat", 3)]) (g := (gName 3)) (tt := tYes) rfl scFno.nd (pi_range2 (by rfl) T.range (pa_cons pe_int (pa_cons (pv 1) pa_nil))) (blkOk_by (N := nFno) (sc := defScope sFno) (by decide +kernel)) (fun _ _ _ _ _ => (pg_name (i := 3) scFno.nd rfl (Or.inl rfl))) (fun _ _ _ _ _ => pts_nil) (fun _ _ _ _ _ => (pe_callC c_at (hr.mono (by decide)) rfl pass0 (pa_cons (pv 0) (pa_cons (pv 3) pa_nil)))))))
 (pss_one
 (ps_ret (pe_disp (pps_cons pe_str (pv 2) (pps_cons pe_str (pe_dget hu (pv 0) pe_str (fun _ _ => rfl)) (pps_cons pe_str (pe_dget hu (pv 0) pe_str (fun _ _ => rfl)) pps_nil))) (by rfl) (by rfl) (fun z => by cases z) (by decide)))))), ?_⟩
    have p0 := S.p0
    have pn := S.pn
    have pm := S.pm
    have le := S.le
    obtain ⟨n, en⟩ : ∃ n, n = max s.length (p + 1) := ⟨_, rfl⟩
    refine ⟨fun σ H' => σ = [some (.ref e), some (.int (n : Nat)), none, none] ∧ H = H', ?_, ?_⟩
    · refine ⟨_, rfl, e, _, rfl, sk_start he, a, _, rfl, .inl (SqL.of ha), _, rfl, e, _, rfl, sk_period he, _, _, rfl, rfl, _, _, rfl, ?_, rfl⟩
      refine setI (n := 1) ?_
      rw [List.length_map]
      split <;> omega
    rintro σ _ ⟨rfl, rfl⟩
    refine ⟨fun σ H' => ∃ o, σ = [some (.ref e), some (.int (n : Nat)), some (.ref o), none] ∧ H o = none ∧ H' o = some (.lst (((List.range n).map (s0 s p g)).map V.int)) ∧ Same H H', ?_, ?_⟩
    · refine ⟨(by show 1 ≤ sizeLine; decide), fun u hu' => ?_⟩
      generalize g1 : upd H u _ = H1
      obtain ⟨s1, f1⟩ := alloc g1 hu'
      have he1 := s1 _ _ he
      have ha1 := s1 _ _ ha
      refine ⟨_, rfl, 1, _, rfl, by omega, ?_⟩
      rw [show ((n : Int) - 1).toNat = n - 1 by omega]
      refine fun D hD => LM.lcM (walk_range (lo := 1) (n := n - 1)) (fun j => V.int (s0 s p g (j + 1))) hD (by omega) (fun _ _ => trivial) ?_ fun H2 h2 s2 => ?_
      · rintro j v H2 H3 hj s2 ⟨rfl, rfl⟩ R N kk
        refine ⟨rfl, _, rfl, _, rfl, e, a, _, p, j + 1, g, _, ?_, s2 _ _ he1, s2 _ _ ha1, skiR S (by decide), by omega, ?_⟩
        · show [V.ref e, V.int (1 + (j : Int))] = _
          rw [show (1 : Int) + (j : Int) = ((j + 1 : Nat) : Int) by omega]
        · have := kk _ (Same.refl _)
          unfold s0 at this
          rw [if_neg (show ¬ (j + 1 = 0) by omega)] at this
          exact this
      · refine ⟨u, D, _, _, rfl, rfl, s2 _ _ f1, h2, ?_, fun o ho => ⟨o, rfl, s1.free (s2.free ho), ?_, Same.trans s1 (Same.trans s2 (same_new ho))⟩⟩
        · rw [List.length_map, List.length_range]
          show 1 + _ ≤ sizeLine
          exact line_of (by omega)
        · have ee : [V.int 0] ++ (List.range (n - 1)).map (fun j => V.int (s0 s p g (j + 1))) = ((List.range n).map (s0 s p g)).map V.int := by
            obtain ⟨m, rfl⟩ : ∃ m, n = m + 1 := ⟨n - 1, by omega⟩
            rw [List.range_succ_eq_map, List.map_cons, List.map_cons, List.map_map, List.map_map]
            rfl
          rw [ee]
          exact upd_same
    rintro σ H1 ⟨o, rfl, ho, h1, s1⟩
    have he1 := s1 _ _ he
    refine fun e' he' => ?_
    have he1' : ∀ o, upd H1 e' o e = some (.dK (skKvs a p g)) := fun o => by rw [upd_ne (ne_of_none he1 he')]; exact he1
    refine ⟨_, rfl, _, rfl, e, _, rfl, sk_period (he1' _), _, rfl, e, _, rfl, sk_growth (he1' _), upd_same, skKvs o p g, rfl, (by show 3 ≤ 15; decide), ?_⟩
    exact k e' o _ _ (s1.free he') ho upd_same (by rw [upd_ne (ne_of_none h1 he'), upd_ne (ne_of_none h1 he')]; exact h1) (ski_s0 S (by omega) (by omega) (by omega)) (fun b u hb => by rw [upd_ne (ne_of_none (s1 _ _ hb) he'), upd_ne (ne_of_none (s1 _ _ hb) he')]; exact s1 _ _ hb)
abbrev nSma : List Str := ["draw", "long_here", "most_here", "found"]
theorem scSma : FnScope nSma ["draw", "long_here", "most_here"] (defScope sSma) := ⟨rfl, rfl, rfl, by decide +kernel, rfl, by decide +kernel, by decide +kernel⟩
def spSma (K : PySem.W.Frag) : Sp := fun vs H Q _ => ∃ (d l c : Addr), vs = [.ref d, .int 6, .int 4] ∧ DrawAt H d l c ∧
  ∀ e a xs p g H', SkAt H' d l e a xs p g → Sk 7 6 300 xs p g → SkZ xs g → DrawAt H' d l c → KeepD H H' d l → Q (.ref e) H'
theorem ok_sma {f : Addr} {fd : FuncData} (F : Fun K "_law_small" "_law_small" sSma f fd) (T : CurG mg) (c_tak : Cal P w K mg base CX0 2 "_law_take" ["draw", "amount"] (spTake K)) (c_ske : Cal P w K mg base CX0 5 "_law_sketch" ["draw", "long", "most"] (spSketch K))
    (c_fn : Cal P w K mg base CX0 2 "_law_from_nought" ["sketch"] (spFno K)) : FnOk P w K mg base CX0 6 f fd ["draw", "long_here", "most_here"] (spSma K) := by
  refine F.ok scSma (fun vs H Q E h => ?_) (fun cdv A outer s H vs Q E hr h => ?_)
  · obtain ⟨d, l, c, rfl, _⟩ := h
    rfl
  · obtain ⟨d, l, c, rfl, D, k⟩ := h
    have hu := hu_of hr
    refine ⟨_, (C8.pss_cut (ps_set (i := 3) scSma.nd rfl (Or.inl rfl) (pe_callC c_ske (hr.mono (by decide)) rfl pass0 (pa_cons (pv 0) (pa_cons (pv 1) (pa_cons (pv 2) pa_nil)))))
 (C8.pss_cut (ps_if (pt_cmpR op_isN (pe_ix ix_list (pe_dget hu (pv 3) pe_str (fun _ _ => rfl)) (pe_un un_neg pe_int) (fun _ _ => rfl)) pe_non (nomark _)) (pss_one
 (ps_set (i := 3) scSma.nd rfl (Or.inl rfl) (pe_disp (pps_cons pe_str (pe_lst (pa_cons pe_int (pa_cons (pe_op op_add pe_int (pe_callC c_tak (hr.mono (by decide)) rfl pass0 (pa_cons (pv 0) (pa_cons (pv 2) pa_nil)))) pa_nil))) (pps_cons pe_str pe_int (pps_cons pe_str (pe_callC c_tak (hr.mono (by decide)) rfl pass0 (pa_cons (pv 0) (pa_cons pe_int pa_nil))) pps_nil))) (by rfl) (by rfl) (fun z => by cases z) (by decide)))) pss_nil)
 (pss_one
 (ps_ret (pe_callC c_fn (hr.mono (by decide)) rfl pass0 (pa_cons (pv 3) pa_nil)))))), ?_⟩
    refine ⟨fun σ H' => ∃ e a xs p g, σ = [some (.ref d), some (.int 6), some (.int 4), some (.ref e)] ∧ SkAt H' d l e a xs p g ∧ Sk 6 6 28 xs p g ∧ DrawAt H' d l c ∧ KeepD H H' d l, ?_, ?_⟩
    · exact ⟨_, rfl, _, rfl, _, rfl, d, l, c, 6, 4, rfl, D, by decide, by decide, by decide, by decide, fun e a xs p g H1 _ _ sk S _ D1 k1 => ⟨e, a, xs, p, g, rfl, sk, S, D1, k1⟩⟩
    rintro σ H1 ⟨e, a, xs, p, g, rfl, sk, S, D1, k1⟩
    refine ⟨fun σ H' => ∃ e a s, ∃ (p : Nat) (g : Int), σ = [some (.ref d), some (.int 6), some (.int 4), some (.ref e)] ∧ H' e = some (.dK (skKvs a p g)) ∧ H' a = some (.lst (s.map V.int)) ∧ SkI 6 6 28 s p g ∧ DrawAt H' d l c ∧ KeepD H H' d l, ?_, ?_⟩
    · cases S with
      | mkI s p g h =>
        obtain ⟨y, hy, hy2⟩ := lastInt (s := s) (by have := h.p0; have := h.pn; omega)
        exact ⟨_, rfl, e, _, rfl, sk_start sk.ob, 1, rfl, a, _, _, _, rfl, rfl, SqL.of sk.li, hy2, rfl, false, rfl, iteF ⟨e, a, s, p, g, rfl, sk.ob, sk.li, h, D1, k1⟩⟩
      | mkN s z g le asc wi g0 g1 =>
        refine ⟨_, rfl, e, _, rfl, sk_start sk.ob, 1, rfl, a, _, _, _, rfl, rfl, SqL.of sk.li, last_get (nones_get _ (by rw [List.length_append, List.length_map, List.length_replicate]; omega) (by rw [List.length_append, List.length_map, List.length_replicate]; omega)), rfl, true, rfl, iteT ?_⟩
        refine fun e' he' => ?_
        generalize g2 : upd H1 e' _ = H2
        obtain ⟨s2, f2⟩ := alloc g2 he'
        have D2 := D1.same s2
        refine ⟨_, rfl, _, rfl, d, l, c, _, rfl, D2, by decide, by decide, fun r H3 r0 r1 D3 k3 => ⟨_, _, rfl, rfl, (by show 2 ≤ sizeLine; decide), fun u hu' => ?_⟩⟩
        have f3 := k3 _ _ f2 (D1.nd he') (D1.nl he')
        generalize g4 : upd H3 u _ = H4
        obtain ⟨s4, f4⟩ := alloc g4 hu'
        have D4 := D3.same s4
        refine ⟨_, rfl, d, l, c, 3, rfl, D4, by decide, by decide, fun r2 H5 r20 r21 D5 k5 => ?_⟩
        have f5 := k5 _ _ (s4 _ _ f3) (D1.nd he') (D1.nl he')
        have u5 := k5 _ _ f4 (D3.nd hu') (D3.nl hu')
        have ne : u ≠ e' := fun z => by rw [z, f3] at hu'; cases hu'
        refine ⟨f5, skKvs u 1 r2, rfl, (by show 3 ≤ 15; decide), e', u, [0, 1 + r], 1, r2, rfl, upd_same, ?_, ?_, D5.put (D1.nd he') (D1.nl he') (D1.nc he'), ?_⟩
        · rw [upd_ne ne]
          exact u5
        · refine ⟨by decide, (by show 1 ≤ 2; decide), by decide, (by show 2 ≤ 6; decide), fun i x y hx hy => ?_, fun i x hx => ?_, r20, by omega, fun x y hx hy => ?_⟩
          · match i, hx, hy with
            | 0, hx, hy =>
              cases hx
              cases hy
              omega
          · match i, hx with
            | 0, hx =>
              cases hx
              omega
            | 1, hx =>
              cases hx
              omega
          · cases hx
            cases hy
            omega
        · have kk : KeepD H1 H5 d l := (Same.keepD d l s2).trans (k3.trans ((Same.keepD d l s4).trans k5))
          exact (k1.trans kk).trans' (D.keepF k1 D1 he')
    rintro σ H2 ⟨e2, a2, s, p2, g2, rfl, h1, h2, S2, D2, k2⟩
    exact ⟨_, rfl, e2, a2, s, p2, g2, rfl, h1, h2, S2, fun e' a' s' H' he' ha' h1' h2' S' s' => k e' a' _ p2 g2 H' ⟨h1', h2', D2.nd he', D2.nl he', D2.nd ha', D2.nl ha'⟩ (.mkI _ _ _ S') skz_int (D2.same s') (k2.trans (Same.keepD d l s'))⟩
theorem scAse : FnScope ["draw"] ["draw"] (defScope sAse) := ⟨rfl, rfl, rfl, by decide +kernel, rfl, by decide +kernel, by decide +kernel⟩
def spAse (K : PySem.W.Frag) : Sp := fun vs H Q _ => ∃ (d l c : Addr), vs = [.ref d] ∧ DrawAt H d l c ∧
  ∀ e a xs p g H', SkAt H' d l e a xs p g → Sk 7 6 300 xs p g → SkZ xs g → DrawAt H' d l c → KeepD H H' d l → Q (.ref e) H'
theorem ok_ase {f : Addr} {fd : FuncData} (F : Fun K "_law_any_service" "_law_any_service" sAse f fd) (T : CurG mg) (c_tak : Cal P w K mg base CX0 2 "_law_take" ["draw", "amount"] (spTake K)) (c_ske : Cal P w K mg base CX0 5 "_law_sketch" ["draw", "long", "most"] (spSketch K))
    (c_sma : Cal P w K mg base CX0 6 "_law_small" ["draw", "long_here", "most_here"] (spSma K)) : FnOk P w K mg base CX0 7 f fd ["draw"] (spAse K) := by
  refine F.ok scAse (fun vs H Q E h => ?_) (fun cdv A outer s H vs Q E hr h => ?_)
  · obtain ⟨d, l, c, rfl, _⟩ := h
    rfl
  · obtain ⟨d, l, c, rfl, D, k⟩ := h
    refine ⟨_, (pss_one
 (ps_ret (pe_ifExp (pt_cmpR op_eq (pe_callC c_tak (hr.mono (by decide)) rfl pass0 (pa_cons (pv 0) (pa_cons pe_int pa_nil))) pe_int (nomark _)) (pe_callC c_ske (hr.mono (by decide)) rfl pass0 (pa_cons (pv 0) (pa_cons pe_int (pa_cons pe_int pa_nil)))) (pe_callC c_sma (hr.mono (by decide)) rfl pass0 (pa_cons (pv 0) (pa_cons pe_int (pa_cons pe_int pa_nil))))))), ?_⟩
    refine ⟨_, rfl, d, l, c, 3, rfl, D, by decide, by decide, fun r H1 r0 r1 D1 k1 => ⟨rfl, _, rfl, ?_⟩⟩
    refine ite2 (fun _ => ?_) (fun _ => ?_)
    · exact ⟨_, rfl, d, l, c, 6, 4, rfl, D1, by decide, by decide, by decide, by decide, fun e a xs p g H2 _ _ sk S Z D2 k2 => k e a xs p g H2 sk (Sk.wide S (by decide) (by decide)) Z D2 (k1.trans k2)⟩
    · exact ⟨_, rfl, d, l, c, rfl, D1, fun e a xs p g H2 sk S Z D2 k2 => k e a xs p g H2 sk S Z D2 (k1.trans k2)⟩
theorem scSat : FnScope ["sketch", "beats"] ["sketch", "beats"] (defScope sSat) := ⟨rfl, rfl, rfl, by decide +kernel, rfl, by decide +kernel, by decide +kernel⟩
def spSat (K : PySem.W.Frag) : Sp := fun vs H Q _ => ∃ (e a : Addr) (xs : List V) (p b : Nat) (g : Int) (F : Nat → V), vs = [.ref e, .int b] ∧ H e = some (.dK (skKvs a p g)) ∧ H a = some (.lst xs) ∧ RowF xs p g F ∧ b ≤ 10000000000000 ∧ Q (SG F b) H
theorem ok_sat {f : Addr} {fd : FuncData} (F : Fun K "_law_service_at" "_law_service_at" sSat f fd) (c_at : Cal P w K mg base CX0 1 "_law_at" ["sketch", "beat"] (spAt K)) : FnOk P w K mg base CX0 2 f fd ["sketch", "beats"] (spSat K) := by
  refine F.ok scSat (fun vs H Q E h => ?_) (fun cdv A outer s H vs Q E hr h => ?_)
  · obtain ⟨e, a, xs, p, b, g, F, rfl, _⟩ := h
    rfl
  · obtain ⟨e, a, xs, p, b, g, F, rfl, he, ha, R, hb, k⟩ := h
    refine ⟨_, (pss_one
 (ps_ret (pe_ifExp (pt_cmpR op_eq (pv 1) pe_int (nomark _)) pe_int (pe_callC c_at (hr.mono (by decide)) rfl pass0 (pa_cons (pv 0) (pa_cons (pv 1) pa_nil)))))), ?_⟩
    by_cases c0 : b = 0
    · subst c0
      exact ⟨_, rfl, rfl, true, rfl, iteT k⟩
    · refine ⟨_, rfl, rfl, false, bF (fun z => c0 (by have := V.int.inj z; omega)), iteF ⟨_, rfl, _, rfl, e, a, xs, p, b, g, F, rfl, he, ha, R, hb, ?_⟩⟩
      unfold SG at k
      rw [if_neg c0] at k
      exact k
/-- one more -/
def plV (x y : V) : V := match x, y with
  | .int i, .int k => .int (i + k)
  | _, _ => .non
theorem scPlu : FnScope ["one", "other"] ["one", "other"] (defScope sPlu) := ⟨rfl, rfl, rfl, by decide +kernel, rfl, by decide +kernel, by decide +kernel⟩
def spPlu (K : PySem.W.Frag) : Sp := fun vs H Q _ => ∃ (i : Int) (y : V), vs = [.int i, y] ∧ (y = .non ∨ ∃ j : Int, y = .int j) ∧ Q (plV (.int i) y) H
theorem ok_plu {f : Addr} {fd : FuncData} (F : Fun K "_law_plus" "_law_plus" sPlu f fd) : FnOk P w K mg base CX0 1 f fd ["one", "other"] (spPlu K) := by
  refine F.ok scPlu (fun vs H Q E h => ?_) (fun cdv A outer s H vs Q E hr h => ?_)
  · obtain ⟨x, y, rfl, _⟩ := h
    rfl
  · obtain ⟨i, y, rfl, hy, k⟩ := h
    refine ⟨_, pss_one (ps_ret (pe_ifExp (PW.pt (pw_or (pt_cmpR op_isN (pv 0) pe_non (nomark _)) (pw_or1 (pt_cmpR op_isN (pv 1) pe_non (nomark _))))) pe_non (pe_op op_add (pv 0) (pv 1)))), ?_⟩
    rcases hy with rfl | ⟨j, rfl⟩
    · exact ⟨_, rfl, rfl, false, rfl, iteF ⟨_, rfl, rfl, true, rfl, iteT k⟩⟩
    · exact ⟨_, rfl, rfl, false, rfl, iteF ⟨_, rfl, rfl, false, rfl, iteF ⟨_, rfl, _, rfl, _, _, rfl, rfl, k⟩⟩⟩
end
end WW
end

section
set_option Elab.async false
set_option linter.all false
set_option maxRecDepth 100000
set_option maxHeartbeats 4000000
namespace WW
open PySem L2 WO WG RZ WQ WT WC
theorem sqT_keep {K : PySem.W.Frag} {H H' : Hp} {d l c a : Addr} {xs : List V} (h : SqT K H a xs) (D : DrawAt H d l c) (k : KeepD H H' d l) : SqT K H' a xs := by
  obtain ⟨⟨r', t', hd⟩, ⟨la, hl, _⟩, _⟩ := D
  rcases h with (h | ⟨o, h⟩) | h
  · exact .inl (.inl (k _ _ h (ne_of h hd (by intro z; cases z)) (ne_of h hl (by intro z; cases z))))
  · exact .inl (.inr ⟨o, k _ _ h (ne_of h hd (by intro z; cases z)) (ne_of h hl (by intro z; cases z))⟩)
  · exact .inr h
theorem asc0_of {cs : List Int} (h : Asc cs) (h0 : cs[0]? = some 0) : Asc0 cs := by
  cases cs with
  | nil => cases h0
  | cons a r =>
    cases h0
    refine ⟨r, rfl, List.pairwise_iff_getElem.mpr fun i j hi hj l => ?_⟩
    exact asc_le h (j - i) i _ _ (List.getElem?_eq_getElem hi) (by rw [show i + (j - i) = j by omega]; exact List.getElem?_eq_getElem hj)
theorem Asc0.asc {cs : List Int} (h : Asc0 cs) : Asc cs ∧ cs[0]? = some 0 ∧ ∀ (i : Nat) (x : Int), cs[i]? = some x → 0 ≤ x := by
  obtain ⟨r, rfl, pw⟩ := h
  refine ⟨fun i x y hx hy => ?_, rfl, fun i x hx => ?_⟩
  · obtain ⟨hi, rfl⟩ := List.getElem?_eq_some_iff.mp hx
    obtain ⟨hj, rfl⟩ := List.getElem?_eq_some_iff.mp hy
    exact List.pairwise_iff_getElem.mp pw i (i + 1) hi hj (Nat.lt_succ_self _)
  · cases i with
    | zero => cases hx; exact Int.le_refl _
    | succ i =>
      rw [List.getElem?_cons_succ] at hx
      exact (List.pairwise_cons.mp pw).1 x (List.mem_of_getElem? hx)
/-- over all summands -/
def lgN (cs : List Int) (G : Nat → V) (i : Nat) : List Int := ((List.range (i + 1)).filter fun s => !decide (plV (.int (cs.getD s 0)) (G (i - s)) = .non)).map fun s => cs.getD s 0 + iv (G (i - s))
theorem lgN_ok {cs : List Int} {G : Nat → V} {i : Nat} (fl : ∀ j, G j = .non ∨ ∃ k : Int, G j = .int k) :
    (lgN cs G i).map V.int = ((List.range (i + 1)).filter fun s => !decide (plV (.int (cs.getD s 0)) (G (i - s)) = .non)).map fun s => plV (.int (cs.getD s 0)) (G (i - s)) := by
  unfold lgN
  rw [List.map_map]
  refine List.map_congr_left fun s hs => ?_
  have h := (List.mem_filter.mp hs).2
  rcases fl (i - s) with e | ⟨k, e⟩
  · rw [e] at h
    cases h
  · show V.int (cs.getD s 0 + iv (G (i - s))) = _
    rw [e]
    rfl
theorem lgN_lg {cs : List Int} {G : Nat → V} {i : Nat} {m : Int} (fl : ∀ j, G j = .non ∨ ∃ k : Int, G j = .int k) (h : m ∈ lgN cs G i) (hl : ∀ y ∈ lgN cs G i, m ≤ y) : Lg cs G i m := by
  constructor
  · obtain ⟨s, hs, e⟩ := List.mem_map.mp h
    obtain ⟨h1, h2⟩ := List.mem_filter.mp hs
    have h1 := List.mem_range.mp h1
    rcases fl (i - s) with z | ⟨k, z⟩
    · rw [z] at h2
      cases h2
    · rw [z] at e
      exact ⟨s, k, by omega, z, e.symm⟩
  · rintro y ⟨s, k, hs, hk, rfl⟩
    refine hl _ (List.mem_map.mpr ⟨s, List.mem_filter.mpr ⟨List.mem_range.mpr (by omega), ?_⟩, by rw [hk]; rfl⟩)
    rw [hk]
    rfl
theorem lgN_pos {cs : List Int} {G : Nat → V} {i : Nat} (h0 : G 0 = .int 0) : 0 < (lgN cs G i).length := by
  refine List.length_pos_of_mem (a := cs.getD i 0 + iv (G (i - i))) (List.mem_map.mpr ⟨i, List.mem_filter.mpr ⟨List.mem_range.mpr (Nat.lt_succ_self _), ?_⟩, rfl⟩)
  rw [Nat.sub_self, h0]
  rfl
section
variable {P : Program} {w : World} {K : PySem.W.Frag} {mg : Str → Option Value} {base : Heap}
abbrev sRof : Stmt := top 77
abbrev sGab : Stmt := top 79
abbrev nLgn : List Str := ["came_here", "sketch", "found", "beat", "some", "s", "item"]
theorem scLgn : FnScope nLgn ["came_here", "sketch"] (defScope sLgn) := ⟨rfl, rfl, rfl, by decide +kernel, rfl, by decide +kernel, by decide +kernel⟩
def spLgn (K : PySem.W.Frag) : Sp := fun vs H Q _ => ∃ (b e a : Addr) (xs : List V) (p : Nat) (g : Int) (F : Nat → V) (cs : List Int), vs = [.ref b, .ref e] ∧ SqT K H b (cs.map V.int) ∧ H e = some (.dK (skKvs a p g)) ∧ H a = some (.lst xs) ∧ RowF xs p g F ∧ 1 ≤ cs.length ∧ cs.length ≤ 900 ∧
  ∀ z ms H', H z = none → H' z = some (.tup (ms.map V.int)) → LgL cs (SG F) ms → Same H H' → Q (.ref z) H'
theorem ok_lgn {f : Addr} {fd : FuncData} (F : Fun K "_law_least_gone" "_law_least_gone" sLgn f fd) (T : CurG mg) (c_plu : Cal P w K mg base CX0 1 "_law_plus" ["one", "other"] (spPlu K)) (c_sat : Cal P w K mg base CX0 2 "_law_service_at" ["sketch", "beats"] (spSat K)) :
    FnOk P w K mg base CX0 3 f fd ["came_here", "sketch"] (spLgn K) := by
  refine F.ok scLgn (fun vs H Q E h => ?_) (fun cdv A outer s H vs Q E hr h => ?_)
  · obtain ⟨b, e, a, xs, p, g, F, cs, rfl, _⟩ := h
    rfl
  · obtain ⟨b, e, a, xs, p, g, F, cs, rfl, hb, he, ha, R, c1, c2, k⟩ := h
    refine ⟨_, (C8.pss_cut (ps_set (i := 2) scLgn.nd rfl (Or.inl rfl) (pe_lst pa_nil))
 (C8.pss_cut (ps_for PassesOwn.never rfl (pi_range1 rfl T.range (pa_cons (pe_callB call_len_seq (by rfl) T.len PySem.boot_len (pa_cons (pv 0) pa_nil)) pa_nil)) (pg_name (i := 3) scLgn.nd rfl (Or.inr rfl)) (C8.pss_cut (ps_setLc (i := 4) (own := [("s", 5)]) (g := (gName 5)) (tt := tYes) rfl scLgn.nd rfl rfl (sw_true rfl rfl rfl (by decide +kernel)) (pi_range1 rfl T.range (pa_cons (pe_op op_add (pv 3) pe_int) pa_nil)) (blkOk_by (N := nLgn) (sc := defScope sLgn) (by decide +kernel)) (fun _ _ _ _ _ => (pg_name (i := 5) scLgn.nd rfl (Or.inl rfl))) (fun _ _ _ _ _ => pts_nil) (fun _ _ _ _ _ => (pe_callC c_plu (hr.mono (by decide)) rfl pass0 (pa_cons (pe_ix (r := rIxT K) ix_tup (pv 0) (pv 5) (fun _ _ => rfl)) (pa_cons (pe_callC c_sat (hr.mono (by decide)) rfl pass0 (pa_cons (pv 1) (pa_cons (pe_op op_sub (pv 3) (pv 5)) pa_nil))) pa_nil)))))
 (pss_one
 (ps_expr (pe_bm PySem.F.plainAttrs_list PySem.F.slot_list_append PySem.F.type_list_append mt_append (pv 2) (pa_cons (pe_callB (cr_min rfl) (by rfl) T.min (by decide +kernel) (pa_cons (pe_lc (own := [("item", 6)]) (g := (gName 6)) rfl scLgn.nd (pi_list (pv 4)) (blkOk_by (N := nLgn) (sc := defScope sLgn) (by decide +kernel)) (fun _ _ _ _ _ => (pg_name (i := 6) scLgn.nd rfl (Or.inl rfl))) (fun _ _ _ _ _ => pts_one (pt_cmpR op_notN (pv 6) pe_non (nomark _))) (fun _ _ _ _ _ => (pv 6))) pa_nil)) pa_nil))))))
 (pss_one
 (ps_ret (pe_callTy call_tuple_of (by rfl) T.tuple (by decide +kernel) (pa_cons (pv 2) pa_nil)))))), ?_⟩
    have lcm : (cs.map V.int).length = cs.length := List.length_map ..
    have fl : ∀ j, SG F j = .non ∨ ∃ k : Int, SG F j = .int k := fun j => by
      unfold SG
      split
      · exact .inr ⟨0, rfl⟩
      · exact R.flat j
    refine ⟨fun σ H' => ∃ S, σ = [some (.ref b), some (.ref e), some (.ref S), none, none, none, none] ∧ H S = none ∧ H' S = some (.lst []) ∧ Same H H', ?_, ?_⟩
    · exact ⟨(by show 0 ≤ sizeLine; decide), fun S hS => ⟨S, rfl, hS, upd_same, same_new hS⟩⟩
    rintro σ H1 ⟨S, rfl, hS, h1, s1⟩
    refine ⟨fun σ H' => ∃ ms : List Int, (∃ v3 v4, σ = [some (.ref b), some (.ref e), some (.ref S), v3, v4, none, none]) ∧ H' S = some (.lst (ms.map V.int)) ∧ LgL cs (SG F) ms ∧ Same H H', ?_, ?_⟩
    · refine ⟨_, rfl, b, _, rfl, .inr (SqT.ext hb s1), (cs.map V.int).length, rfl, by omega, by omega, for_range (lo := 0) (n := (cs.map V.int).length) (fun i σ H' => ∃ ms : List Int, (∃ v3 v4, σ = [some (.ref b), some (.ref e), some (.ref S), v3, v4, none, none]) ∧ H' S = some (.lst (ms.map V.int)) ∧ ms.length = i ∧ (∀ t m, ms[t]? = some m → Lg cs (SG F) t m) ∧ Same H H') ⟨[], ⟨_, _, rfl⟩, h1, rfl, fun t m hm => (by cases hm), s1⟩ ?_ (fun σ H' ⟨ms, e, hh, l, lg, s⟩ => ⟨ms, e, hh, ⟨by rw [l, lcm], lg⟩, s⟩)⟩
      rintro i σ H3 hi ⟨ms, ⟨v3, v4, rfl⟩, h3, lm, lg, s3⟩
      rw [lcm] at hi
      have ei : (0 : Int) + (i : Int) = (i : Int) := by omega
      rw [ei]
      refine ⟨fun σ H' => ∃ u, σ = [some (.ref b), some (.ref e), some (.ref S), some (.int (i : Nat)), some (.ref u), none, none] ∧ H' u = some (.lst ((List.range (i + 1)).map fun s => plV (.int (cs.getD s 0)) (SG F (i - s)))) ∧ Same H3 H', ?_, ?_⟩
      · refine ⟨_, rfl, _, _, rfl, rfl, ((i + 1 : Nat) : Int), rfl, by omega, by omega, fun u hu => LM.lcM (walk_range (lo := 0) (n := (((i + 1 : Nat) : Int)).toNat)) (fun s => plV (.int (cs.getD s 0)) (SG F (i - s))) hu (by omega) (fun _ _ => trivial) ?_ fun H4 h4 s4 => ⟨u, rfl, h4, s4⟩⟩
        rintro j v H4 H5 hj s4 ⟨rfl, rfl⟩ R' N kk
        have hj : j < i + 1 := hj
        have s04 := Same.trans s3 s4
        refine ⟨rfl, _, rfl, _, rfl, b, _, _, .int (cs.getD j 0), rfl, rfl, SqT.ext hb s04, ?_, _, rfl, _, rfl, _, rfl, _, _, rfl, rfl, e, a, xs, p, i - j, g, F, ?_, s04 _ _ he, s04 _ _ ha, R, by omega, _, _, rfl, fl _, kk _ (Same.refl _)⟩
        · show atI _ ((0 : Int) + (j : Int)) = _
          rw [show (0 : Int) + (j : Int) = (j : Int) by omega]
          exact atI_nat (getD_map (by omega))
        · show [V.ref e, V.int ((i : Int) - ((0 : Int) + (j : Int)))] = _
          rw [show (i : Int) - ((0 : Int) + (j : Int)) = ((i - j : Nat) : Int) by omega]
      rintro σ H4 ⟨u, rfl, h4, s4⟩
      have s04 := Same.trans s3 s4
      refine ⟨_, rfl, .inl ⟨rfl, _, SqL.of (s4 _ _ h3)⟩, _, rfl, u, rfl, ⟨_, SqL.of h4⟩, fun D hD => LM.lcF (walk_list (xs := (List.range (i + 1)).map fun s => plV (.int (cs.getD s 0)) (SG F (i - s)))) (fun s => !decide (plV (.int (cs.getD s 0)) (SG F (i - s)) = .non)) (fun s => plV (.int (cs.getD s 0)) (SG F (i - s))) hD (by rw [List.length_map, List.length_range]; omega) (fun H5 s5 => SqL.of (s5 _ _ h4)) ?_ fun H5 h5 s5 => ?_⟩
      · rintro j y H5 H6 hj s5 ⟨rfl, hy⟩ R' N kk kn
        rw [List.length_map, List.length_range] at hj
        rw [List.getElem?_map, List.getElem?_range hj] at hy
        cases hy
        cases c : (!decide (plV (.int (cs.getD j 0)) (SG F (i - j)) = .non)) with
        | true => exact ⟨rfl, _, rfl, rfl, true, by rw [c], iteT ⟨_, rfl, kk c _ (Same.refl _)⟩⟩
        | false => exact ⟨rfl, _, rfl, rfl, false, by rw [c], iteF (kn c _ (Same.refl _))⟩
      · rw [List.length_map, List.length_range, ← lgN_ok fl] at h5
        have s35 := Same.trans s4 s5
        refine ⟨D, _, rfl, SqL.of h5, lgN_pos rfl, fun z hz hle => ⟨S, _, _, rfl, rfl, s35 _ _ h3, by rw [List.length_map, lm]; exact small1001 (by omega), ?_⟩⟩
        have lz := lgN_lg fl hz hle
        refine ⟨ms ++ [z], ⟨_, _, rfl⟩, by rw [List.map_append]; exact upd_same, by rw [List.length_append, lm]; rfl, fun t m hm => ?_, LM.sPut hS (Same.trans s3 s35)⟩
        by_cases c : t < ms.length
        · rw [List.getElem?_append_left c] at hm
          exact lg t m hm
        · rw [List.getElem?_append_right (by omega)] at hm
          have e : t - ms.length = 0 := by
            have := (List.getElem?_eq_some_iff.mp hm).1
            simp only [List.length_cons, List.length_nil] at this
            omega
          rw [e] at hm
          cases hm
          rw [show t = i by omega]
          exact lz
    rintro σ H3 ⟨ms, ⟨v3, v4, rfl⟩, h3, lg, s3⟩
    exact ⟨_, rfl, S, _, rfl, .inl ⟨SqL.of h3, fun y hy => k y ms _ (s3.free hy) upd_same lg (Same.trans s3 (same_new hy))⟩⟩
abbrev nRof : List Str := ["draw", "size", "most_here", "found", "way", "lap", "step_here"]
theorem scRof : FnScope nRof ["draw", "size", "most_here"] (defScope sRof) := ⟨rfl, rfl, rfl, by decide +kernel, rfl, by decide +kernel, by decide +kernel⟩
def spRof (K : PySem.W.Frag) : Sp := fun vs H Q _ => ∃ (d l c : Addr) (n : Nat) (m : Int), vs = [.ref d, .int (n : Nat), .int m] ∧ 1 ≤ m ∧ m ≤ 5 ∧ DrawAt H d l c ∧ 1 ≤ n ∧ n ≤ 900 ∧
  ∀ z cs H', H z = none → H' z = some (.tup (cs.map V.int)) → cs.length = n → Asc0 cs → Within cs (5 * n) → DrawAt H' d l c → KeepD H H' d l → Q (.ref z) H'
theorem three {z1 z2 z3 : Int} {w : Nat} (hw : w < 3) (h1 : 0 ≤ z1 ∧ z1 ≤ 5) (h2 : 0 ≤ z2 ∧ z2 ≤ 5) (h3 : 0 ≤ z3 ∧ z3 ≤ 5) : ∃ z : Int, atI [V.int z1, .int z2, .int z3] (w : Int) = some (.int z) ∧ 0 ≤ z ∧ z ≤ 5 := by
  match w, hw with
  | 0, _ => exact ⟨z1, rfl, h1⟩
  | 1, _ => exact ⟨z2, rfl, h2⟩
  | 2, _ => exact ⟨z3, rfl, h3⟩
theorem ok_rof {f : Addr} {fd : FuncData} (F : Fun K "_law_row_of" "_law_row_of" sRof f fd) (T : CurG mg) (c_tak : Cal P w K mg base CX0 2 "_law_take" ["draw", "amount"] (spTake K)) (c_pic : Cal P w K mg base CX0 3 "_law_pick" ["draw", "some"] (spPick K)) :
    FnOk P w K mg base CX0 4 f fd ["draw", "size", "most_here"] (spRof K) := by
  refine F.ok scRof (fun vs H Q E h => ?_) (fun cdv A outer s H vs Q E hr h => ?_)
  · obtain ⟨d, l, c, n, m, rfl, _⟩ := h
    rfl
  · obtain ⟨d, l, c, n, m, rfl, m1, m5, D, n1, n2, k⟩ := h
    refine ⟨_, (C8.pss_cut (ps_par (i := 3) (j := 4) (by rfl) scRof.nd rfl rfl (by decide) rfl rfl (pa_cons (pe_lst (pa_cons pe_int pa_nil)) (pa_cons (pe_callC c_tak (hr.mono (by decide)) rfl pass0 (pa_cons (pv 0) (pa_cons pe_int pa_nil))) pa_nil)) (by rfl))
 (C8.pss_cut (ps_for PassesOwn.never rfl (pi_range1 rfl T.range (pa_cons (pe_op op_sub (pv 1) pe_int) pa_nil)) (pg_name (i := 5) scRof.nd rfl (Or.inl rfl)) (C8.pss_cut (ps_set (i := 6) scRof.nd rfl (Or.inl rfl) (pe_ix ix_list (pe_lst (pa_cons (pe_callC c_pic (hr.mono (by decide)) rfl pass0 (pa_cons (pv 0) (pa_cons (pe_lst (pa_cons pe_int (pa_cons pe_int (pa_cons pe_int (pa_cons (pe_callC c_tak (hr.mono (by decide)) rfl pass0 (pa_cons (pv 0) (pa_cons (pe_op op_add (pv 2) pe_int) pa_nil))) pa_nil))))) pa_nil))) (pa_cons (pe_callC c_tak (hr.mono (by decide)) rfl pass0 (pa_cons (pv 0) (pa_cons pe_int pa_nil))) (pa_cons (pe_callC c_pic (hr.mono (by decide)) rfl pass0 (pa_cons (pv 0) (pa_cons (pe_lst (pa_cons pe_int (pa_cons pe_int (pa_cons pe_int (pa_cons pe_int (pa_cons (pv 2) pa_nil)))))) pa_nil))) pa_nil)))) (pv 4) (fun _ _ => rfl)))
 (pss_one
 (ps_expr (pe_bm PySem.F.plainAttrs_list PySem.F.slot_list_append PySem.F.type_list_append mt_append (pv 3) (pa_cons (pe_op op_add (pe_ix ix_list (pv 3) (pe_un un_neg pe_int) (fun _ _ => rfl)) (pv 6)) pa_nil))))))
 (pss_one
 (ps_ret (pe_callTy call_tuple_of (by rfl) T.tuple (by decide +kernel) (pa_cons (pv 3) pa_nil)))))), ?_⟩
    refine ⟨fun σ H' => ∃ S, ∃ w : Nat, σ = [some (.ref d), some (.int (n : Nat)), some (.int m), some (.ref S), some (.int (w : Nat)), none, none] ∧ w < 3 ∧ H S = none ∧ H' S = some (.lst [.int 0]) ∧ DrawAt H' d l c ∧ KeepD H H' d l, ?_, ?_⟩
    · refine ⟨(by show 1 ≤ sizeLine; decide), fun S hS => ?_⟩
      generalize g1 : upd H S _ = H1
      obtain ⟨s1, f1⟩ := alloc g1 hS
      refine ⟨_, rfl, d, l, c, 3, rfl, D.same s1, by decide, by decide, fun r H2 r0 r1 D2 k2 => ⟨_, _, rfl, S, r.toNat, ?_, by omega, hS, lst_keep f1 (D.same s1) (D.nl hS) k2, D2, (Same.keepD d l s1).trans k2⟩⟩
      rw [show ((r.toNat : Nat) : Int) = r by omega]
      rfl
    rintro σ H1 ⟨S, w', rfl, hw, hS, h1, D1, k1⟩
    refine ⟨fun σ H' => ∃ cs : List Int, (∃ v5 v6, σ = [some (.ref d), some (.int (n : Nat)), some (.int m), some (.ref S), some (.int (w' : Nat)), v5, v6]) ∧ H' S = some (.lst (cs.map V.int)) ∧ cs.length = n ∧ Asc cs ∧ cs[0]? = some 0 ∧ Within cs (5 * n) ∧ DrawAt H' d l c ∧ KeepD H H' d l, ?_, ?_⟩
    · refine ⟨_, rfl, _, _, rfl, rfl, (n : Int) - 1, rfl, by omega, by omega, for_range (lo := 0) (n := ((n : Int) - 1).toNat) (fun i σ H' => ∃ cs : List Int, (∃ v5 v6, σ = [some (.ref d), some (.int (n : Nat)), some (.int m), some (.ref S), some (.int (w' : Nat)), v5, v6]) ∧ H' S = some (.lst (cs.map V.int)) ∧ cs.length = i + 1 ∧ Asc cs ∧ cs[0]? = some 0 ∧ Within cs (5 * ((i : Int) + 1)) ∧ DrawAt H' d l c ∧ KeepD H H' d l) ⟨[0], ⟨_, _, rfl⟩, h1, rfl, fun i x y hx hy => (by cases hy), rfl, fun i x hx => ?_, D1, k1⟩ ?_ (fun σ H' ⟨cs, e, hh, l1, as, z0, wi, D', k'⟩ => ⟨cs, e, hh, by omega, as, z0, fun i x hx => ?_, D', k'⟩)⟩
      · match i, hx with
        | 0, hx =>
          cases hx
          exact ⟨Int.le_refl _, by decide⟩
      · rintro i σ H3 hi ⟨cs, ⟨v5, v6, rfl⟩, h3, lc, as, z0, wi, D3, k3⟩
        have had := D.nd hS
        have hal := D.nl hS
        generalize V.int (0 + (i : Int)) = lap
        refine ⟨fun σ H' => ∃ z : Int, σ = [some (.ref d), some (.int (n : Nat)), some (.int m), some (.ref S), some (.int (w' : Nat)), some lap, some (.int z)] ∧ 0 ≤ z ∧ z ≤ 5 ∧ H' S = some (.lst (cs.map V.int)) ∧ DrawAt H' d l c ∧ KeepD H H' d l, ?_, ?_⟩
        · refine ⟨_, rfl, _, rfl, _, rfl, _, _, rfl, rfl, d, l, c, _, rfl, D3, by omega, by omega, fun r H4 r0 r1 D4 k4 => ⟨(by show 4 ≤ sizeLine; decide), fun p1 hp1 => ?_⟩⟩
          generalize g5 : upd H4 p1 _ = H5
          obtain ⟨s5, f5⟩ := alloc g5 hp1
          refine ⟨d, l, c, p1, _, rfl, D4.same s5, f5, D4.nl hp1, (by show 0 < 4; decide), (by show 4 ≤ 2 ^ 100; decide), fun j x H6 hx D6 k6 => ?_⟩
          obtain ⟨z1, rfl, z10, z11⟩ := pick4 (M := 5) hx (by omega) (by omega) (by omega) ⟨r0, by omega⟩
          refine ⟨_, rfl, d, l, c, 2, rfl, D6, by decide, by decide, fun r2 H7 r20 r21 D7 k7 => ?_⟩
          refine ⟨_, rfl, _, rfl, (by show 5 ≤ sizeLine; decide), fun p2 hp2 => ?_⟩
          generalize g8 : upd H7 p2 _ = H8
          obtain ⟨s8, f8⟩ := alloc g8 hp2
          refine ⟨d, l, c, p2, _, rfl, D7.same s8, f8, D7.nl hp2, (by show 0 < 5; decide), (by show 5 ≤ 2 ^ 100; decide), fun j2 x H9 hx2 D9 k9 => ?_⟩
          obtain ⟨z3, rfl, z30, z31⟩ : ∃ z : Int, x = .int z ∧ 0 ≤ z ∧ z ≤ 5 := by
            have hm := List.mem_of_getElem? hx2
            simp only [List.mem_cons, List.not_mem_nil, or_false] at hm
            rcases hm with rfl | rfl | rfl | rfl | rfl
            · exact ⟨0, rfl, by decide, by decide⟩
            · exact ⟨0, rfl, by decide, by decide⟩
            · exact ⟨0, rfl, by decide, by decide⟩
            · exact ⟨0, rfl, by decide, by decide⟩
            · exact ⟨m, rfl, by omega, by omega⟩
          refine ⟨(by show 3 ≤ sizeLine; decide), fun p3 hp3 => ?_⟩
          obtain ⟨z, ez, zz0, zz1⟩ := three (z1 := z1) (z2 := r2) (z3 := z3) hw ⟨z10, z11⟩ ⟨r20, by omega⟩ ⟨z30, z31⟩
          have kk : KeepD H3 H9 d l := k4.trans ((Same.keepD d l s5).trans (k6.trans (k7.trans ((Same.keepD d l s8).trans k9))))
          exact ⟨_, rfl, p3, _, _, _, rfl, rfl, SqL.of upd_same, ez, z, rfl, zz0, zz1, same_new hp3 _ _ (lst_keep h3 D3 hal kk), D9.same (same_new hp3), (k3.trans kk).trans (Same.keepD d l (same_new hp3))⟩
        rintro σ H4 ⟨z, rfl, zz0, zz1, h4, D4, k4⟩
        obtain ⟨y, hy, hy2⟩ := lastInt (s := cs) (by omega)
        refine ⟨_, rfl, .inl ⟨rfl, _, SqL.of h4⟩, _, rfl, 1, rfl, S, _, _, _, rfl, rfl, SqL.of h4, hy2, _, rfl, _, _, rfl, rfl, S, _, _, rfl, rfl, h4, by rw [List.length_map]; exact small1001 (by omega), ?_⟩
        have wy := wi _ _ hy
        refine ⟨cs ++ [y + z], ⟨_, _, rfl⟩, by rw [List.map_append]; exact upd_same, by rw [List.length_append, lc]; rfl, asc_snoc as hy (by omega), by rw [List.getElem?_append_left (by omega)]; exact z0, within_snoc wi (by omega) (by omega) (by omega), D4.put had hal (D.nc hS), k4.trans' hS⟩
      · have := wi i x hx
        omega
    rintro σ H3 ⟨cs, ⟨v5, v6, rfl⟩, h3, lc, as, z0, wi, D3, k3⟩
    exact ⟨_, rfl, S, _, rfl, .inl ⟨SqL.of h3, fun y hy => k y cs _ (D.keepF k3 D3 hy) upd_same lc (asc0_of as z0) wi (D3.same (same_new hy)) (k3.trans (Same.keepD d l (same_new hy)))⟩⟩
abbrev nGab : List Str := ["draw", "came_here", "least_here", "found", "way", "t", "low"]
theorem scGab : FnScope nGab ["draw", "came_here", "least_here"] (defScope sGab) := ⟨rfl, rfl, rfl, by decide +kernel, rfl, by decide +kernel, by decide +kernel⟩
def spGab (K : PySem.W.Frag) : Sp := fun vs H Q _ => ∃ (d l c a b : Addr) (cs ls : List Int), vs = [.ref d, .ref a, .ref b] ∧ DrawAt H d l c ∧ SqT K H a (cs.map V.int) ∧ SqT K H b (ls.map V.int) ∧ ls.length = cs.length ∧ cs.length ≤ 900 ∧ Asc0 cs ∧ Within cs 10000 ∧
  (∀ (i : Nat) (c m : Int), cs[i]? = some c → ls[i]? = some m → m ≤ c) ∧
  ∀ z gs H', H z = none → H' z = some (.tup (gs.map V.int)) → RunPair cs gs → DrawAt H' d l c → KeepD H H' d l → Q (.ref z) H'
theorem ok_gab {f : Addr} {fd : FuncData} (F : Fun K "_law_gone_above" "_law_gone_above" sGab f fd) (T : CurG mg) (nmax : mg "max" = none) (c_tak : Cal P w K mg base CX0 2 "_law_take" ["draw", "amount"] (spTake K)) (c_pic : Cal P w K mg base CX0 3 "_law_pick" ["draw", "some"] (spPick K)) :
    FnOk P w K mg base CX0 4 f fd ["draw", "came_here", "least_here"] (spGab K) := by
  refine F.ok scGab (fun vs H Q E h => ?_) (fun cdv A outer s H vs Q E hr h => ?_)
  · obtain ⟨d, l, c, a, b, cs, ls, rfl, _⟩ := h
    rfl
  · obtain ⟨d, l, c, a, b, cs, ls, rfl, D, ha, hb, ll, lc, ac, wc, le, k⟩ := h
    refine ⟨_, (C8.pss_cut (ps_par (i := 3) (j := 4) (by rfl) scGab.nd rfl rfl (by decide) rfl rfl (pa_cons (pe_lst (pa_cons pe_int pa_nil)) (pa_cons (pe_callC c_tak (hr.mono (by decide)) rfl pass0 (pa_cons (pv 0) (pa_cons pe_int pa_nil))) pa_nil)) (by rfl))
 (C8.pss_cut (ps_for PassesOwn.never rfl (pi_range2 (by rfl) T.range (pa_cons pe_int (pa_cons (pe_callB call_len_seq (by rfl) T.len PySem.boot_len (pa_cons (pv 1) pa_nil)) pa_nil))) (pg_name (i := 5) scGab.nd rfl (Or.inl rfl)) (C8.pss_cut (ps_set (i := 6) scGab.nd rfl (Or.inl rfl) (pe_callB (call_max2 rfl) (by rfl) nmax (by decide +kernel) (pa_cons (pe_ix ix_list (pv 3) (pe_un un_neg pe_int) (fun _ _ => rfl)) (pa_cons (pe_ix ix_tup (pv 2) (pv 5) (fun _ _ => rfl)) pa_nil))))
 (pss_one
 (ps_expr (pe_bm PySem.F.plainAttrs_list PySem.F.slot_list_append PySem.F.type_list_append mt_append (pv 3) (pa_cons (pe_ifExp (pt_cmpR op_eq (pv 4) pe_int (nomark _)) (pv 6) (pe_ifExp (pt_cmpR op_eq (pv 4) pe_int (nomark _)) (pe_op op_add (pv 6) (pe_callC c_tak (hr.mono (by decide)) rfl pass0 (pa_cons (pv 0) (pa_cons (pe_op op_add (pe_op op_sub (pe_ix ix_tup (pv 1) (pv 5) (fun _ _ => rfl)) (pv 6)) pe_int) pa_nil)))) (pe_callC c_pic (hr.mono (by decide)) rfl pass0 (pa_cons (pv 0) (pa_cons (pe_lst (pa_cons (pv 6) (pa_cons (pv 6) (pa_cons (pe_ix ix_tup (pv 1) (pv 5) (fun _ _ => rfl)) pa_nil)))) pa_nil))))) pa_nil))))))
 (pss_one
 (ps_ret (pe_callTy call_tuple_of (by rfl) T.tuple (by decide +kernel) (pa_cons (pv 3) pa_nil)))))), ?_⟩
    have lcm : (cs.map V.int).length = cs.length := List.length_map ..
    have n1 := ac.one
    obtain ⟨acs, a0, apos⟩ := ac.asc
    refine ⟨fun σ H' => ∃ S, ∃ r : Int, σ = [some (.ref d), some (.ref a), some (.ref b), some (.ref S), some (.int r), none, none] ∧ H S = none ∧ H' S = some (.lst [.int 0]) ∧ DrawAt H' d l c ∧ KeepD H H' d l, ?_, ?_⟩
    · refine ⟨(by show 1 ≤ sizeLine; decide), fun S hS => ?_⟩
      generalize g1 : upd H S _ = H1
      obtain ⟨s1, f1⟩ := alloc g1 hS
      exact ⟨_, rfl, d, l, c, 3, rfl, D.same s1, by decide, by decide, fun r H2 r0 r1 D2 k2 => ⟨_, _, rfl, S, r, rfl, hS, lst_keep f1 (D.same s1) (D.nl hS) k2, D2, (Same.keepD d l s1).trans k2⟩⟩
    rintro σ H1 ⟨S, r, rfl, hS, h1, D1, k1⟩
    have had := D.nd hS
    have hal := D.nl hS
    refine ⟨fun σ H' => ∃ gs : List Int, (∃ v5 v6, σ = [some (.ref d), some (.ref a), some (.ref b), some (.ref S), some (.int r), v5, v6]) ∧ H' S = some (.lst (gs.map V.int)) ∧ RunPair cs gs ∧ DrawAt H' d l c ∧ KeepD H H' d l, ?_, ?_⟩
    · refine ⟨_, rfl, a, _, rfl, .inr (sqT_keep ha D k1), 1, _, rfl, by rw [lcm]; omega, ?_⟩
      rw [lcm, show ((cs.length : Int) - 1).toNat = cs.length - 1 by omega]
      refine for_range (lo := 1) (n := cs.length - 1) (fun i σ H' => ∃ gs : List Int, (∃ v5 v6, σ = [some (.ref d), some (.ref a), some (.ref b), some (.ref S), some (.int r), v5, v6]) ∧ H' S = some (.lst (gs.map V.int)) ∧ gs.length = i + 1 ∧ Asc gs ∧ gs[0]? = some 0 ∧ Within gs 10000 ∧ (∀ (i : Nat) (c g : Int), cs[i]? = some c → gs[i]? = some g → g ≤ c) ∧ DrawAt H' d l c ∧ KeepD H H' d l) ⟨[0], ⟨_, _, rfl⟩, h1, rfl, fun i x y hx hy => (by cases hy), rfl, fun i x hx => ?_, fun i c g hc hg => ?_, D1, k1⟩ ?_ (fun σ H' ⟨gs, e, hh, l1, as, z0, wi, le', D', k'⟩ => ⟨gs, e, hh, ⟨ac, asc0_of as z0, by omega, le'⟩, D', k'⟩)
      · match i, hx with
        | 0, hx =>
          cases hx
          exact ⟨Int.le_refl _, by decide⟩
      · match i, hc, hg with
        | 0, hc, hg =>
          cases hg
          exact apos 0 c hc
      rintro i σ H3 hi ⟨gs, ⟨v5, v6, rfl⟩, h3, lg, as, z0, wi, le', D3, k3⟩
      have ei : (1 : Int) + (i : Int) = ((i + 1 : Nat) : Int) := by omega
      rw [ei]
      obtain ⟨y, hy, hy2⟩ := lastInt (s := gs) (by omega)
      rw [lg] at hy
      have ci : cs[i]? = some (cs.getD i 0) := by rw [List.getD_eq_getElem?_getD, List.getElem?_eq_getElem (show i < cs.length by omega)]; rfl
      have ci1 : cs[i + 1]? = some (cs.getD (i + 1) 0) := by rw [List.getD_eq_getElem?_getD, List.getElem?_eq_getElem (show i + 1 < cs.length by omega)]; rfl
      have li1 : ls[i + 1]? = some (ls.getD (i + 1) 0) := by rw [List.getD_eq_getElem?_getD, List.getElem?_eq_getElem (show i + 1 < ls.length by omega)]; rfl
      have yc : y ≤ cs.getD (i + 1) 0 := Int.le_trans (le' i _ y ci (by rw [show i + 1 - 1 = i by omega] at hy; exact hy)) (acs i _ _ ci ci1)
      have mc : ls.getD (i + 1) 0 ≤ cs.getD (i + 1) 0 := le _ _ _ ci1 li1
      have wy := wi _ _ hy
      have wc1 := wc _ _ ci1
      generalize hc : cs.getD (i + 1) 0 = cc at *
      have ha3 := sqT_keep ha D k3
      have hb3 := sqT_keep hb D k3
      refine ⟨fun σ H' => ∃ lo : Int, σ = [some (.ref d), some (.ref a), some (.ref b), some (.ref S), some (.int r), some (.int ((i + 1 : Nat) : Int)), some (.int lo)] ∧ y ≤ lo ∧ lo ≤ cc ∧ H3 = H', ?_, ?_⟩
      · refine ⟨_, rfl, 1, rfl, S, _, _, _, rfl, rfl, SqL.of h3, hy2, _, rfl, _, rfl, b, _, _, _, rfl, rfl, hb3, atI_nat (getD_map (show i + 1 < ls.length by omega)), _, _, rfl, _, rfl, ?_, ?_, rfl⟩
        · split <;> omega
        · split <;> omega
      rintro σ _ ⟨lo, rfl, lo0, lo1, rfl⟩
      have ga : atI (cs.map V.int) ((i + 1 : Nat) : Int) = some (.int cc) := by
        rw [← hc]
        exact atI_nat (getD_map (show i + 1 < cs.length by omega))
      have fin : ∀ (v : Int) (H' : Hp), y ≤ v → v ≤ cc → H' S = some (.lst (gs.map V.int)) → DrawAt H' d l c → KeepD H H' d l → ∃ gs' : List Int, (∃ v5 v6, ([some (.ref d), some (.ref a), some (.ref b), some (.ref S), some (.int r), some (.int ((i + 1 : Nat) : Int)), some (.int lo)] : L2.St) = [some (.ref d), some (.ref a), some (.ref b), some (.ref S), some (.int r), v5, v6]) ∧ upd H' S (.lst (gs.map V.int ++ [.int v])) S = some (.lst (gs'.map V.int)) ∧ gs'.length = i + 1 + 1 ∧ Asc gs' ∧ gs'[0]? = some 0 ∧ Within gs' 10000 ∧ (∀ (i : Nat) (c g : Int), cs[i]? = some c → gs'[i]? = some g → g ≤ c) ∧ DrawAt (upd H' S (.lst (gs.map V.int ++ [.int v]))) d l c ∧ KeepD H (upd H' S (.lst (gs.map V.int ++ [.int v]))) d l := fun v H' v0 v1 hh D' k' => by
        refine ⟨gs ++ [v], ⟨_, _, rfl⟩, by rw [List.map_append]; exact upd_same, by rw [List.length_append, lg]; rfl, asc_snoc as (by rw [lg]; exact hy) v0, by rw [List.getElem?_append_left (by omega)]; exact z0, within_snoc wi (by omega) (by omega) (by omega), fun j c' g' hc' hg' => ?_, D'.put had hal (D.nc hS), k'.trans' hS⟩
        by_cases cj : j < gs.length
        · rw [List.getElem?_append_left cj] at hg'
          exact le' j c' g' hc' hg'
        · have hl := (List.getElem?_eq_some_iff.mp hg').1
          rw [List.length_append] at hl
          have hl : j < gs.length + 1 := hl
          have ej : j = i + 1 := by omega
          rw [List.getElem?_append_right (by omega), show j - gs.length = 0 by omega] at hg'
          cases hg'
          rw [ej, ci1] at hc'
          cases hc'
          exact v1
      have len : (gs.map V.int).length < sizeLine := by rw [List.length_map]; exact small1001 (by omega)
      refine ⟨_, rfl, .inl ⟨rfl, _, SqL.of h3⟩, _, rfl, rfl, _, rfl, ite2 (fun _ => ?_) (fun _ => ?_)⟩
      · exact ⟨_, rfl, S, _, _, rfl, rfl, h3, len, fin lo _ lo0 lo1 h3 D3 k3⟩
      refine ⟨_, rfl, rfl, _, rfl, ite2 (fun _ => ?_) (fun _ => ?_)⟩
      · refine ⟨_, rfl, _, rfl, _, rfl, _, rfl, a, _, _, _, rfl, rfl, ha3, ga, _, rfl, _, _, rfl, rfl, _, _, rfl, rfl, d, l, c, _, rfl, D3, by omega, by omega, fun r2 H4 r20 r21 D4 k4 => ⟨_, _, rfl, rfl, S, _, _, rfl, rfl, lst_keep h3 D3 hal k4, len, fin _ _ (by omega) (by omega) (lst_keep h3 D3 hal k4) D4 (k3.trans k4)⟩⟩
      · refine ⟨_, rfl, _, rfl, _, rfl, _, rfl, _, rfl, a, _, _, _, rfl, rfl, ha3, ga, (by show 3 ≤ sizeLine; decide), fun p hp => ?_⟩
        generalize g4 : upd H3 p _ = H4
        obtain ⟨s4, f4⟩ := alloc g4 hp
        refine ⟨d, l, c, p, _, rfl, D3.same s4, f4, D3.nl hp, (by show 0 < 3; decide), (by show 3 ≤ 2 ^ 100; decide), fun j x H5 hx D5 k5 => ?_⟩
        obtain ⟨v, rfl, v0, v1⟩ : ∃ v : Int, x = .int v ∧ y ≤ v ∧ v ≤ cc := by
          have hm := List.mem_of_getElem? hx
          simp only [List.mem_cons, List.not_mem_nil, or_false] at hm
          rcases hm with rfl | rfl | rfl
          · exact ⟨lo, rfl, lo0, lo1⟩
          · exact ⟨lo, rfl, lo0, lo1⟩
          · exact ⟨cc, rfl, yc, Int.le_refl _⟩
        have kk : KeepD H3 H5 d l := (Same.keepD d l s4).trans k5
        exact ⟨S, _, _, rfl, rfl, lst_keep h3 D3 hal kk, len, fin _ _ v0 v1 (lst_keep h3 D3 hal kk) D5 (k3.trans kk)⟩
    rintro σ H3 ⟨gs, ⟨v5, v6, rfl⟩, h3, rp, D3, k3⟩
    exact ⟨_, rfl, S, _, rfl, .inl ⟨SqL.of h3, fun y hy => k y gs _ (D.keepF k3 D3 hy) upd_same rp (D3.same (same_new hy)) (k3.trans (Same.keepD d l (same_new hy)))⟩⟩
end
end WW
end

section
set_option Elab.async false
set_option linter.all false
set_option maxRecDepth 100000
set_option maxHeartbeats 4000000
namespace WW
open PySem L2 WO WG RZ WQ WT WC
abbrev sRun : Stmt := top 42
abbrev sWhp : Stmt := top 46
/-! ### ends of parcels -/
def en (zs : List Int) (k : Nat) : Int := (zs.take k).sum
theorem en_zero {zs : List Int} : en zs 0 = 0 := rfl
theorem en_succ {zs : List Int} {k : Nat} {z : Int} (h : zs[k]? = some z) : en zs (k + 1) = en zs k + z := by
  unfold en
  rw [List.take_add_one, h, Option.toList_some, List.sum_append]
  simp
def PosL (zs : List Int) : Prop := ∀ z ∈ zs, 1 ≤ z ∧ z ≤ 1000000
theorem en_step {zs : List Int} (p : PosL zs) (k : Nat) : en zs k ≤ en zs (k + 1) := by
  cases h : zs[k]? with
  | some z =>
    rw [en_succ h]
    have := (p z (List.mem_of_getElem? h)).1
    omega
  | none =>
    unfold en
    have := List.getElem?_eq_none_iff.mp h
    rw [List.take_of_length_le this, List.take_of_length_le (by omega)]
    exact Int.le_refl _
theorem en_mono {zs : List Int} (p : PosL zs) {j k : Nat} (h : j ≤ k) : en zs j ≤ en zs k := by
  obtain ⟨d, rfl⟩ : ∃ d, k = j + d := ⟨k - j, by omega⟩
  clear h
  induction d with
  | zero => exact Int.le_refl _
  | succ d ih => exact Int.le_trans ih (en_step p (j + d))
/-- the greatest end up to a number -/
def IsWh (zs : List Int) (n v : Int) : Prop := (∃ k, k ≤ zs.length ∧ v = en zs k) ∧ v ≤ n ∧ ∀ j, j ≤ zs.length → en zs j ≤ n → en zs j ≤ v
theorem IsWh.uniq {zs : List Int} {n v v' : Int} (h : IsWh zs n v) (h' : IsWh zs n v') : v = v' := by
  obtain ⟨⟨k, k1, rfl⟩, h1, h2⟩ := h
  obtain ⟨⟨k', k1', rfl⟩, h1', h2'⟩ := h'
  have := h2 k' k1' h1'
  have := h2' k k1 h1
  omega
def WhL (zs ns ws : List Int) : Prop := ws.length = ns.length ∧ ∀ (i : Nat) (n w : Int), ns[i]? = some n → ws[i]? = some w → IsWh zs n w
theorem WhL.uniq {zs ns ws ws' : List Int} (h : WhL zs ns ws) (h' : WhL zs ns ws') : ws = ws' := by
  refine List.ext_getElem (by rw [h.1, h'.1]) fun i h1 h2 => ?_
  have hn : i < ns.length := by have := h.1; omega
  exact (h.2 i _ _ (List.getElem?_eq_getElem hn) (List.getElem?_eq_getElem h1)).uniq (h'.2 i _ _ (List.getElem?_eq_getElem hn) (List.getElem?_eq_getElem h2))
def szB : V → Bool
  | .int i => decide (1 ≤ i ∧ i ≤ 1000000)
  | _ => false
theorem szB_all : ∀ {xs : List V}, xs.all szB = true → ∃ zs : List Int, xs = zs.map V.int ∧ PosL zs
  | [], _ => ⟨[], rfl, fun z hz => by cases hz⟩
  | x :: r, h => by
    rw [List.all_cons, Bool.and_eq_true] at h
    obtain ⟨zs, e, p⟩ := szB_all h.2
    cases x with
    | int i =>
      refine ⟨i :: zs, by rw [e]; rfl, fun z hz => ?_⟩
      rcases List.mem_cons.mp hz with rfl | hz
      · exact of_decide_eq_true h.1
      · exact p z hz
    | _ => exact absurd h.1 Bool.false_ne_true
theorem all_szB {zs : List Int} (p : PosL zs) : (zs.map V.int).all szB = true := by
  rw [List.all_eq_true]
  intro x hx
  obtain ⟨z, hz, rfl⟩ := List.mem_map.mp hx
  exact decide_eq_true (p z hz)
theorem from_flat {K : PySem.W.Frag} {H : Hp} {x : V} {Q : VK} {E : XK} (fx : flatV x = true) (k : Q (.bl (szB x)) H) : spFrom K [x, .int 1, .int 1000000] H Q E := by
  have n := numT_flat (K := K) (H := H) fx
  cases x with
  | int i =>
    by_cases c : 1 ≤ i ∧ i ≤ 1000000
    · refine from_ok c ?_
      have : szB (.int i) = true := decide_eq_true c
      rw [this] at k
      exact k
    · refine from_bad (.inr ⟨i, rfl, c⟩) ?_
      have : szB (.int i) = false := decide_eq_false c
      rw [this] at k
      exact k
  | _ => exact from_bad (.inl n) k
theorem map_getD {α β : Type} (f : α → β) (xs : List α) (d : α) : (List.range xs.length).map (fun i => f (xs.getD i d)) = xs.map f := by
  refine List.ext_getElem (by rw [List.length_map, List.length_range, List.length_map]) fun i h1 h2 => ?_
  rw [List.length_map] at h2
  rw [List.getElem_map, List.getElem_map, List.getElem_range, List.getD_eq_getElem?_getD, List.getElem?_eq_getElem h2]
  rfl
def SzBad (K : PySem.W.Frag) (H : Hp) (y : V) : Prop := ListT K H y false ∨ ∃ (a : Addr) (xs : List V), y = .ref a ∧ SeqA K H a xs ∧ xs.length ≤ 1001 ∧ (400 < xs.length ∨ (xs.length ≤ 400 ∧ xs.all flatV = true ∧ xs.all szB = false))
section
variable {P : Program} {w : World} {K : PySem.W.Frag} {mg : Str → Option Value} {base : Heap}
abbrev nRun : List Str := ["traffic", "row", "letters"]
theorem scRun : FnScope nRun ["traffic"] (defScope sRun) := ⟨rfl, rfl, rfl, by decide +kernel, rfl, by decide +kernel, by decide +kernel⟩
def spRun (K : PySem.W.Frag) : Sp := fun vs H Q _ => ∃ (a : Addr) (zs : List Int), vs = [.ref a] ∧ SeqA K H a (zs.map V.int) ∧ zs.length ≤ 1000 ∧ PosL zs ∧
  ∀ p H', H p = none → H' p = some (.lst ((List.range (zs.length + 1)).map fun k => V.int (en zs k))) → Same H H' → Q (.ref p) H'
theorem ok_run {f : Addr} {fd : FuncData} (F : Fun K "running" "running" sRun f fd) : FnOk P w K mg base CX0 1 f fd ["traffic"] (spRun K) := by
  refine F.ok scRun (fun vs H Q E h => ?_) (fun cdv A outer s H vs Q E hr h => ?_)
  · obtain ⟨a, zs, rfl, _⟩ := h
    rfl
  · obtain ⟨a, zs, rfl, ha, ln, pl, k⟩ := h
    refine ⟨_, (C8.pss_cut (ps_set (i := 1) scRun.nd rfl (Or.inl rfl) (pe_lst (pa_cons pe_int pa_nil)))
 (C8.pss_cut (ps_for PassesOwn.never rfl (WQ.pi_seq (pv 0)) (pg_name (i := 2) scRun.nd rfl (Or.inl rfl)) (pss_one
 (ps_expr (pe_bm PySem.F.plainAttrs_list PySem.F.slot_list_append PySem.F.type_list_append mt_append (pv 1) (pa_cons (pe_op op_add (pe_ix ix_list (pv 1) (pe_un un_neg pe_int) (fun _ _ => rfl)) (pv 2)) pa_nil)))))
 (pss_one
 (ps_ret (pv 1))))), ?_⟩
    refine ⟨fun σ H' => ∃ p, σ = [some (.ref a), some (.ref p), none] ∧ H p = none ∧ upd H p (.lst [.int 0]) = H', ?_, ?_⟩
    · exact ⟨(by show 1 ≤ sizeLine; decide), fun p hp => ⟨p, rfl, hp, rfl⟩⟩
    rintro σ H1 ⟨p, rfl, hp, g1⟩
    obtain ⟨s1, h1⟩ := alloc g1 hp
    have last : ∀ i, atI ((List.range (i + 1)).map fun k => V.int (en zs k)) (-1) = some (.int (en zs i)) := fun i => by
      refine last_get ?_
      rw [List.length_map, List.length_range, Nat.add_sub_cancel, List.getElem?_map, List.getElem?_range (Nat.lt_succ_self i)]
      rfl
    refine ⟨fun σ H' => (∃ v2, σ = [some (.ref a), some (.ref p), v2]) ∧ H' p = some (.lst ((List.range (zs.length + 1)).map fun k => V.int (en zs k))) ∧ Same H H', ?_, ?_⟩
    · refine ⟨_, rfl, a, _, rfl, ha.same s1, fun J G wk st => for_it wk (fun i σ H' => (∃ v2, σ = [some (.ref a), some (.ref p), v2]) ∧ H' p = some (.lst ((List.range (i + 1)).map fun k => V.int (en zs k))) ∧ Same H H') ⟨⟨_, rfl⟩, h1, s1⟩ ?_ ?_ ?_⟩
      · rintro i σ H3 hi ⟨_, h3, s3⟩
        refine st _ (KeepS.past g1 s3 (fun z => ?_) (fun z => by cases z) (fun _ _ z => by cases z))
        have e : zs.map V.int = [0].map V.int := (HO.lst.inj z).symm
        have := ints_inj e
        have := (pl 0 (by rw [this]; exact List.mem_singleton.mpr rfl)).1
        omega
      · rintro i v σ H3 H4 hi ⟨⟨v2, rfl⟩, h3, s3⟩ ⟨rfl, hx⟩
        rw [List.length_map] at hi
        rw [List.getElem?_map] at hx
        obtain ⟨z, hz, rfl⟩ := Option.map_eq_some_iff.mp hx
        refine ⟨_, rfl, .inl ⟨rfl, _, SqL.of h3⟩, _, rfl, 1, rfl, p, _, _, _, rfl, rfl, SqL.of h3, last i, _, rfl, _, _, rfl, rfl, p, _, _, rfl, rfl, h3, ?_, ⟨_, rfl⟩, ?_, ?_⟩
        · rw [List.length_map, List.length_range]
          exact small1001 (by omega)
        · rw [upd_same, List.range_succ (n := i + 1), List.map_append, List.map_singleton, en_succ hz]
        · exact fun b o e => by rw [upd_ne (ne_of_none e hp)]; exact s3 b o e
      · rintro σ H3 ⟨e, h3, s3⟩
        rw [List.length_map] at h3
        exact ⟨e, h3, s3⟩
    rintro σ H3 ⟨⟨v2, rfl⟩, h3, s3⟩
    exact ⟨_, rfl, k p H3 hp h3 s3⟩
abbrev nWhp : List Str := ["row", "sizes", "ends", "whole", "told", "letters", "size"]
theorem scWhp : FnScope nWhp ["row", "sizes"] (defScope sWhp) := ⟨rfl, rfl, rfl, by decide +kernel, rfl, by decide +kernel, by decide +kernel⟩
def spWhp (K : PySem.W.Frag) (CR CN : Addr) : Sp := fun vs H Q E => ∃ x y : V, vs = [x, y] ∧
  ((∃ o, RowIn K H x o ∧ ¬ RowOk o ∧ ∀ H', Same H H' → E (.ref CR) none H') ∨
   (∃ (a : Addr) (ns : List Int), x = .ref a ∧ SeqA K H a (ns.map V.int) ∧ Asc0 ns ∧ ns.length ≤ 1001 ∧
    ((SzBad K H y ∧ ∀ d H', Raised H "part" (.str "sizes") d H' → E (.ref CN) (some d) H') ∨
     (∃ (b : Addr) (zs : List Int), y = .ref b ∧ SeqA K H b (zs.map V.int) ∧ zs.length ≤ 400 ∧ PosL zs ∧ ∀ ws p H', H p = none → WhL zs ns ws → H' p = some (.tup (ws.map V.int)) → Same H H' → Q (.ref p) H'))))
theorem ok_whp {f fN CR CN : Addr} {fd dN : FuncData} (F : Fun K "whole_parcels" "whole_parcels" sWhp f fd) (T : CurG mg) (M1 : ∃ t, mg "MOST_SIZES" = some (.int 400 t)) (M2 : ∃ t, mg "MOST_SIZE" = some (.int 1000000 t)) (B_BadNumber : ErrT P w K mg base "BadNumber" "part" CN fN dN)
    (c_nro : Cal P w K mg base (L2.CX P w) 3 "need_row" ["thing"] (spNeedRow K CR)) (c_isl : Cal P w K mg base CX0 1 "is_list" ["thing"] (spIsList K)) (c_from : Cal P w K mg base CX0 2 "is_from" ["thing", "low", "high"] (spFrom K)) (c_run : Cal P w K mg base CX0 1 "running" ["traffic"] (spRun K)) :
    FnOk P w K mg base (L2.CX P w) 4 f fd ["row", "sizes"] (spWhp K CR CN) := by
  refine F.okX scWhp (fun vs H Q E h => ?_) (fun cdv A outer s H vs Q E hr h => ?_)
  · obtain ⟨x, y, rfl, _⟩ := h
    rfl
  · obtain ⟨x, y, rfl, h⟩ := h
    obtain ⟨t1, mMOST_SIZES⟩ := M1
    obtain ⟨t2, mMOST_SIZE⟩ := M2
    refine ⟨_, (C8.pss_cut (ps_expr (pe_callC c_nro (hr.mono (by decide)) rfl (passX (E := E) (takes_of rfl rfl rfl rfl) fun _ _ _ _ h => h) (pa_cons (pv 0) pa_nil)))
 (C8.pss_cut (ps_if (PW.pt (pw_or (pt_not (pt_val (pe_callC c_isl (hr.mono (by decide)) rfl pass0 (pa_cons (pv 1) pa_nil)))) (pw_or1 (pt_cmpR op_gt (pe_callB call_len_seq (by rfl) T.len PySem.boot_len (pa_cons (pv 1) pa_nil)) (pe_glob (v := .int 400) rfl mMOST_SIZES ⟨_, rfl⟩) (nomark _))))) (pss_one
 (ps_raise rfl (takes_of rfl rfl rfl rfl) (pmk_oex B_BadNumber.ox B_BadNumber.iC B_BadNumber.tI B_BadNumber.fn (hr.mono (by decide)) B_BadNumber.bd .nil pass0 rfl B_BadNumber.gC (pa_cons pe_str pa_nil)))) pss_nil)
 (C8.pss_cut (ps_if (pt_not (pt_val (pe_callB (cr_all rfl) (by rfl) T.all (by decide +kernel) (pa_cons (pe_lc (own := [("size", 6)]) (g := (gName 6)) (tt := tYes) rfl scWhp.nd (WQ.pi_seq (pv 1)) (blkOk_by (N := nWhp) (sc := defScope sWhp) (by decide +kernel)) (fun _ _ _ _ _ => (pg_name (i := 6) scWhp.nd rfl (Or.inl rfl))) (fun _ _ _ _ _ => pts_nil) (fun _ _ _ _ _ => (pe_callC c_from (hr.mono (by decide)) rfl pass0 (pa_cons (pv 6) (pa_cons pe_int (pa_cons (pe_glob (v := .int 1000000) rfl mMOST_SIZE ⟨_, rfl⟩) pa_nil)))))) pa_nil)))) (pss_one
 (ps_raise rfl (takes_of rfl rfl rfl rfl) (pmk_oex B_BadNumber.ox B_BadNumber.iC B_BadNumber.tI B_BadNumber.fn (hr.mono (by decide)) B_BadNumber.bd .nil pass0 rfl B_BadNumber.gC (pa_cons pe_str pa_nil)))) pss_nil)
 (C8.pss_cut (ps_set (i := 2) scWhp.nd rfl (Or.inl rfl) (pe_callC c_run (hr.mono (by decide)) rfl pass0 (pa_cons (pv 1) pa_nil)))
 (C8.pss_cut (ps_set (i := 3) scWhp.nd rfl (Or.inl rfl) pe_int)
 (C8.pss_cut (ps_set (i := 4) scWhp.nd rfl (Or.inl rfl) (pe_lst pa_nil))
 (C8.pss_cut (ps_for (passes_of rfl) rfl (WQ.pi_seq (pv 0)) (pg_name (i := 5) scWhp.nd rfl (Or.inl rfl)) (C8.pss_cut (ps_while (passes_of rfl) (PW.pt (pw_and (pt_cmpR op_lt (pe_op op_add (pv 3) pe_int) (pe_callB call_len_seq (by rfl) T.len PySem.boot_len (pa_cons (pv 2) pa_nil)) (nomark _)) (pw_and1 (pt_cmpR op_le (pe_ix ix_list (pv 2) (pe_op op_add (pv 3) pe_int) (fun _ _ => rfl)) (pv 5) (nomark _))))) (pss_one
 (ps_aug (i := 3) scWhp.nd rfl (Or.inl rfl) pe_int ip_add)))
 (pss_one
 (ps_expr (pe_bm PySem.F.plainAttrs_list PySem.F.slot_list_append PySem.F.type_list_append mt_append (pv 4) (pa_cons (pe_ix ix_list (pv 2) (pv 3) (fun _ _ => rfl)) pa_nil))))))
 (pss_one
 (ps_ret (pe_callTy call_tuple_of (by rfl) T.tuple (by decide +kernel) (pa_cons (pv 4) pa_nil))))))))))), ?_⟩
    rcases h with ⟨o, ro, no, k⟩ | ⟨a, ns, rfl, ha, ac, ln, h⟩
    · exact ⟨fun _ _ => False, ⟨_, rfl, x, o, rfl, ro, fun z => absurd z no, fun _ H' s' => k H' s'⟩, fun _ _ z => z.elim⟩
    have rok : RowOk (some (ns.map V.int)) := ⟨ns, rfl, ac⟩
    have rin : RowIn K H (.ref a) (some (ns.map V.int)) := .seq ha (flat_ints ns) (by rw [List.length_map]; exact ln)
    refine ⟨fun σ H' => σ = [some (.ref a), some (y), none, none, none, none, none] ∧ Same H H', ?_, ?_⟩
    · exact ⟨_, rfl, _, _, rfl, rin, fun _ H' s' => ⟨rfl, s'⟩, fun z => absurd rok z⟩
    rintro σ H1 ⟨rfl, s1⟩
    rcases h with ⟨bad, k⟩ | ⟨b, zs, rfl, hb, lz, pl, kf⟩
    · -- refused
      have er : ∀ {H'}, Same H H' → ∀ d H2, Raised H' "part" (.str "sizes") d H2 → E (.ref CN) (some d) H2 := fun s' d H2 r => k d H2 (Raised.same s' r)
      rcases bad with nl | ⟨b, xs, rfl, hb, l1, bd⟩
      · refine ⟨fun _ _ => False, ?_, fun _ _ z => z.elim⟩
        exact ⟨_, rfl, y, false, rfl, ListT.same nl s1, fun H2 s2 => ⟨false, rfl, iteT (mkO_post B_BadNumber (er (Same.trans s1 s2)))⟩⟩
      · rcases bd with l4 | ⟨l4, fl, sz⟩
        · refine ⟨fun _ _ => False, ?_, fun _ _ z => z.elim⟩
          exact ⟨_, rfl, _, true, rfl, listT_seq (hb.same s1), fun H2 s2 => ⟨true, rfl, iteF ⟨_, rfl, b, xs, rfl, hb.same (Same.trans s1 s2), _, _, rfl, rfl, true, bT (by omega), iteT (mkO_post B_BadNumber (er (Same.trans s1 s2)))⟩⟩⟩
        · refine ⟨fun σ H' => σ = [some (.ref a), some (.ref b), none, none, none, none, none] ∧ Same H H', ?_, ?_⟩
          · exact ⟨_, rfl, _, true, rfl, listT_seq (hb.same s1), fun H2 s2 => ⟨true, rfl, iteF ⟨_, rfl, b, xs, rfl, hb.same (Same.trans s1 s2), _, _, rfl, rfl, false, bF (by omega), iteF ⟨rfl, Same.trans s1 s2⟩⟩⟩⟩
          rintro σ H2 ⟨rfl, s2⟩
          refine ⟨fun _ _ => False, ?_, fun _ _ z => z.elim⟩
          refine ⟨_, rfl, b, xs, rfl, hb.same s2, fun J G wk st D hD => LM.lcM wk (fun i => .bl (szB (xs.getD i .non))) hD (by omega) (fun H3 s3 => st _ (.of s3 _ _)) ?_ fun H3 hd s3 => ?_⟩
          · rintro i v H3 H4 hi s3 ⟨rfl, hx⟩ R N kk
            have ev : xs.getD i .non = v := by rw [List.getD_eq_getElem?_getD, hx]; rfl
            have fx := (List.all_eq_true.mp fl) v (List.mem_of_getElem? hx)
            refine ⟨rfl, _, rfl, from_flat (E := fun _ _ _ => False) fx ?_⟩
            have := kk _ (Same.refl _)
            rw [ev] at this
            exact this
          · refine ⟨D, (List.range xs.length).map (fun i => szB (xs.getD i .non)), rfl, ?_, ?_⟩
            · rw [List.map_map] 
              exact SqL.of hd
            · have e : ((List.range xs.length).map (fun i => szB (xs.getD i .non))).all id = false := by
                rw [map_getD, List.all_map]
                exact sz
              rw [e]
              exact ⟨false, rfl, iteT (mkO_post B_BadNumber (er (Same.trans s2 s3)))⟩
    · -- told
      have lm : (zs.map V.int).length = zs.length := List.length_map ..
      refine ⟨fun σ H' => σ = [some (.ref a), some (.ref b), none, none, none, none, none] ∧ Same H H', ?_, ?_⟩
      · exact ⟨_, rfl, _, true, rfl, listT_seq (hb.same s1), fun H2 s2 => ⟨true, rfl, iteF ⟨_, rfl, b, _, rfl, hb.same (Same.trans s1 s2), _, _, rfl, rfl, false, bF (by omega), iteF ⟨rfl, Same.trans s1 s2⟩⟩⟩⟩
      rintro σ H2 ⟨rfl, s2⟩
      refine ⟨fun σ H' => σ = [some (.ref a), some (.ref b), none, none, none, none, none] ∧ Same H H', ?_, ?_⟩
      · refine ⟨_, rfl, b, _, rfl, hb.same s2, fun J G wk st D hD => LM.lcM wk (fun i => .bl (szB ((zs.map V.int).getD i .non))) hD (by omega) (fun H3 s3 => st _ (.of s3 _ _)) ?_ fun H3 hd s3 => ?_⟩
        · rintro i v H3 H4 hi s3 ⟨rfl, hx⟩ R N kk
          have ev : (zs.map V.int).getD i .non = v := by rw [List.getD_eq_getElem?_getD, hx]; rfl
          have fx := (List.all_eq_true.mp (flat_ints zs)) v (List.mem_of_getElem? hx)
          refine ⟨rfl, _, rfl, from_flat (E := fun _ _ _ => False) fx ?_⟩
          have := kk _ (Same.refl _)
          rw [ev] at this
          exact this
        · refine ⟨D, (List.range (zs.map V.int).length).map (fun i => szB ((zs.map V.int).getD i .non)), rfl, ?_, ?_⟩
          · rw [List.map_map]
            exact SqL.of hd
          · have e : ((List.range (zs.map V.int).length).map (fun i => szB ((zs.map V.int).getD i .non))).all id = true := by
              rw [map_getD, List.all_map]
              exact all_szB pl
            rw [e]
            exact ⟨true, rfl, iteF ⟨rfl, Same.trans s2 s3⟩⟩
      clear s1 s2
      rintro σ H3 ⟨rfl, s3⟩
      refine ⟨fun σ H' => ∃ e, σ = [some (.ref a), some (.ref b), some (.ref e), none, none, none, none] ∧ H' e = some (.lst ((List.range (zs.length + 1)).map fun k => V.int (en zs k))) ∧ Same H H', ?_, ?_⟩
      · exact ⟨_, rfl, b, zs, rfl, hb.same s3, by omega, pl, fun e H4 _ h4 s4 => ⟨e, rfl, h4, Same.trans s3 s4⟩⟩
      rintro σ H4 ⟨e, rfl, h4, s4⟩
      refine ⟨fun σ H' => σ = [some (.ref a), some (.ref b), some (.ref e), some (.int (0 : Nat)), none, none, none] ∧ H' = H4, ⟨rfl, rfl⟩, ?_⟩
      rintro σ H4 ⟨rfl, rfl⟩
      refine ⟨fun σ H' => ∃ l, σ = [some (.ref a), some (.ref b), some (.ref e), some (.int (0 : Nat)), some (.ref l), none, none] ∧ H4 l = none ∧ upd H4 l (.lst []) = H', ?_, ?_⟩
      · exact ⟨(by show 0 ≤ sizeLine; decide), fun l hl => ⟨l, rfl, hl, rfl⟩⟩
      rintro σ H5 ⟨l, rfl, hl, g5⟩
      obtain ⟨s5, h5⟩ := alloc g5 hl
      have es : ∀ k, k ≤ zs.length → ((List.range (zs.length + 1)).map fun k => V.int (en zs k))[k]? = some (.int (en zs k)) := fun k hk => by
        rw [List.getElem?_map, List.getElem?_range (by omega)]
        rfl
      have le : ((List.range (zs.length + 1)).map fun k => V.int (en zs k)).length = zs.length + 1 := by rw [List.length_map, List.length_range]
      obtain ⟨asc, n0, pos⟩ := ac.asc
      have n1 := ac.one
      have s05 := Same.trans s4 s5
      refine ⟨fun σ H' => ∃ (k : Nat) (ws : List Int), (∃ v5, σ = [some (.ref a), some (.ref b), some (.ref e), some (.int (k : Nat)), some (.ref l), v5, none]) ∧ WhL zs ns ws ∧ H' l = some (.lst (ws.map V.int)) ∧ Same H4 H', ?_, ?_⟩
      · refine ⟨_, rfl, a, _, rfl, ha.same s05, fun J G wk st => for_it wk (fun i σ H' => ∃ (k : Nat) (ws : List Int), (∃ v5, σ = [some (.ref a), some (.ref b), some (.ref e), some (.int (k : Nat)), some (.ref l), v5, none]) ∧ k ≤ zs.length ∧ (∀ n, ns[i]? = some n → en zs k ≤ n) ∧ ws.length = i ∧ (∀ (t : Nat) (n x : Int), ns[t]? = some n → ws[t]? = some x → IsWh zs n x) ∧ H' l = some (.lst (ws.map V.int)) ∧ Same H4 H') ?_ ?_ ?_ ?_⟩
        · exact ⟨0, [], ⟨_, rfl⟩, Nat.zero_le _, fun n hn => by rw [n0] at hn; cases hn; exact Int.le_refl _, rfl, fun t n x _ hx => (by cases hx), h5, s5⟩
        · rintro i σ H6 hi ⟨k, ws, _, _, _, _, _, _, s6⟩
          refine st _ (KeepS.past g5 s6 (fun z => ?_) (fun z => by cases z) (fun _ _ z => by cases z))
          have z : ns.map V.int = [] := (HO.lst.inj z).symm
          have := congrArg List.length z
          rw [List.length_map] at this
          simp only [List.length_nil] at this
          omega
        · rintro i v σ H6 H7 hi ⟨k, ws, ⟨v5, rfl⟩, hk, low, lw, ok, h6, s6⟩ ⟨rfl, hx⟩
          rw [List.length_map] at hi
          rw [List.getElem?_map] at hx
          obtain ⟨n, hn, rfl⟩ := Option.map_eq_some_iff.mp hx
          have low := low n hn
          have he6 := s6 _ _ h4
          refine ⟨fun σ H' => ∃ k : Nat, σ = [some (.ref a), some (.ref b), some (.ref e), some (.int (k : Nat)), some (.ref l), some (.int n), none] ∧ k ≤ zs.length ∧ en zs k ≤ n ∧ (k < zs.length → n < en zs (k + 1)) ∧ H' = H7, ?_, ?_⟩
          · refine while_by (fun σ H' => ∃ k : Nat, σ = [some (.ref a), some (.ref b), some (.ref e), some (.int (k : Nat)), some (.ref l), some (.int n), none] ∧ k ≤ zs.length ∧ en zs k ≤ n ∧ H' = H7)
              (fun σ' _ => match σ' with
                | [_, _, _, some (.int k), _, _, _] => zs.length - k.toNat
                | _ => 0) ⟨k, rfl, hk, low, rfl⟩ ?_ ?_
            · rintro σ' H' ⟨k, rfl, hk, low, rfl⟩
              refine ⟨_, rfl, _, _, rfl, rfl, _, rfl, e, _, rfl, .inl (SqL.of he6), _, _, rfl, rfl, _, rfl, ?_⟩
              by_cases c : k < zs.length
              · rw [decide_eq_true (show (k : Int) + 1 < ((((List.range (zs.length + 1)).map fun k => V.int (en zs k)).length : Nat) : Int) by rw [le]; omega)]
                refine iteT ⟨_, rfl, _, rfl, _, _, rfl, rfl, e, _, _, .int (en zs (k + 1)), rfl, rfl, SqL.of he6, ?_, _, rfl, _, _, rfl, rfl, ?_⟩
                · show atI _ ((k : Int) + 1) = _
                  rw [show (k : Int) + 1 = ((k + 1 : Nat) : Int) by omega]
                  exact atI_nat (es (k + 1) c)
                by_cases c2 : en zs (k + 1) ≤ n
                · refine ⟨true, bT c2, iteT ⟨_, rfl, _, _, rfl, rfl, ⟨k + 1, ?_, c, c2, rfl⟩, ?_⟩⟩
                  · show [_, _, _, some (V.int ((k : Int) + 1)), _, _, _] = _
                    rw [show (k : Int) + 1 = ((k + 1 : Nat) : Int) by omega]
                  · show zs.length - ((k : Int) + 1).toNat < zs.length - ((k : Int)).toNat
                    omega
                · exact ⟨false, bF c2, iteF ⟨k, rfl, hk, low, fun _ => by omega, rfl⟩⟩
              · rw [decide_eq_false (show ¬ ((k : Int) + 1 < ((((List.range (zs.length + 1)).map fun k => V.int (en zs k)).length : Nat) : Int)) by rw [le]; omega)]
                exact iteF (iteF ⟨k, rfl, hk, low, fun z => absurd z c, rfl⟩)
            · intro σ' H' Q1 Q2 m h
              obtain ⟨v1, e1, i1, j1, e2, e3, v2, e4, p, ys, e5, hs, i2, j2, e6, e7, b, e8, h⟩ := h
              refine ⟨v1, e1, i1, j1, e2, e3, v2, e4, p, ys, e5, hs, i2, j2, e6, e7, b, e8, ?_⟩
              cases b with
              | false => exact m _ _ h
              | true =>
                obtain ⟨v3, f1, v4, f2, i3, j3, f3, f4, p2, xs2, i4, v5', f5, f6, f7, f8, v6, f9, i5, j5, f10, f11, b2, f12, q⟩ := h
                exact ⟨v3, f1, v4, f2, i3, j3, f3, f4, p2, xs2, i4, v5', f5, f6, f7, f8, v6, f9, i5, j5, f10, f11, b2, f12, m _ _ q⟩
          clear hk low
          rintro σ' H' ⟨k, rfl, hk, low, high, rfl⟩
          have iw : IsWh zs n (en zs k) := ⟨⟨k, hk, rfl⟩, low, fun j hj le' => by
            rcases Nat.lt_or_ge k j with c | c
            · have h1 := high (by omega)
              have := en_mono pl (j := k + 1) (k := j) c
              omega
            · exact en_mono pl c⟩
          refine ⟨_, rfl, .inl ⟨rfl, _, SqL.of h6⟩, _, rfl, _, rfl, e, _, _, _, rfl, rfl, SqL.of he6, atI_nat (es k hk), l, _, _, rfl, rfl, h6, ?_, k, ws ++ [en zs k], ⟨_, rfl⟩, hk, fun n' hn' => ?_, by rw [List.length_append, lw]; rfl, fun t n' x hn' hx' => ?_, ?_, ?_⟩
          · rw [List.length_map]
            exact small1001 (by omega)
          · have := asc i _ _ hn hn'
            omega
          · by_cases c : t < ws.length
            · rw [List.getElem?_append_left c] at hx'
              exact ok t n' x hn' hx'
            · rw [List.getElem?_append_right (by omega)] at hx'
              have et : t - ws.length = 0 := by
                have := (List.getElem?_eq_some_iff.mp hx').1
                simp only [List.length_cons, List.length_nil] at this
                omega
              rw [et] at hx'
              cases hx'
              rw [show t = i by omega, hn] at hn'
              cases hn'
              exact iw
          · rw [List.map_append]
            exact upd_same
          · exact fun b o z => by rw [upd_ne (ne_of_none z hl)]; exact s6 b o z
        · rintro σ H6 ⟨k, ws, e6, _, _, lw, ok, h6, s6⟩
          rw [List.length_map] at lw
          exact ⟨k, ws, e6, ⟨lw, ok⟩, h6, s6⟩
      rintro σ H6 ⟨k, ws, ⟨v5, rfl⟩, wl, h6, s6⟩
      have s06 := Same.trans s4 s6
      exact ⟨_, rfl, l, _, rfl, .inl ⟨SqL.of h6, fun y hy => kf ws y _ (s06.free hy) wl upd_same (Same.trans s06 (same_new hy))⟩⟩
end
end WW
end

section
set_option Elab.async false
set_option linter.all false
set_option maxRecDepth 100000
set_option maxHeartbeats 8000000
namespace WW
open PySem L2 WO WG RZ WQ WT WC
abbrev sLif : Stmt := top 37
abbrev sPsv : Stmt := top 47
abbrev sPpr : Stmt := top 48
/-! ### curves lifted to 0 -/
def upf (f : Nat → Int) (j : Nat) : Int := if j = 0 then 0 else max 0 (f (j - 1))
theorem upf_qp {f : Nat → Int} {p c : Nat} {g : Int} (Q : MF.QP f p g c) (g0 : 0 ≤ g) (h : g = 0 ∨ ∀ j, c ≤ j → 0 ≤ f j) : MF.QP (upf f) p g (c + 1) := fun j hj => by
  have q := Q (j - 1) (by omega)
  rw [show j - 1 + p = j + p - 1 by omega] at q
  unfold upf
  rw [if_neg (by omega), if_neg (by omega), q]
  rcases h with rfl | h
  · omega
  · have := h (j - 1) (by omega)
    omega
theorem lab_last {f : Nat → Int} {p c : Nat} {g : Int} {r : V} (p0 : 0 < p) (g0 : 0 < g) (Q : MF.QP f p g c) (h : LastAb (fun j => 0 - f (c + j)) p c g r) :
    (r = .non ∧ ∀ j, c ≤ j → 0 ≤ f j) ∨ ∃ t : Nat, r = .int (t : Nat) ∧ c ≤ t ∧ f t < 0 ∧ ∀ j, t < j → 0 ≤ f j := by
  rcases h with ⟨rfl, h⟩ | ⟨t, k, rfl, t1, t2, t3, t4⟩
  · refine .inl ⟨rfl, fun j hj => ?_⟩
    obtain ⟨kk, i, e, hi⟩ := MF.dec_add p0 hj
    have m := Q.mul (j := c + i) (by omega) kk
    rw [← e] at m
    have h' : 0 - f (c + i) ≤ 0 := h i hi
    have : 0 ≤ (kk : Int) * g := Int.mul_nonneg (by omega) (by omega)
    omega
  · have t2 : (k : Int) * g < 0 - f (c + t) := t2
    refine .inr ⟨c + t + k * p, rfl, by omega, ?_, fun j hj => ?_⟩
    · have m := Q.mul (j := c + t) (by omega) k
      omega
    · obtain ⟨kk, i, e, hi⟩ := MF.dec_add p0 (show c ≤ j by omega)
      have m := Q.mul (j := c + i) (by omega) kk
      rw [← e] at m
      have t4 : 0 - f (c + i) ≤ ((k + 1 : Nat) : Int) * g := t4 i hi
      rcases Nat.lt_or_ge k kk with z | z
      · have : ((k + 1 : Nat) : Int) * g ≤ (kk : Int) * g := Int.mul_le_mul_of_nonneg_right (by omega) (by omega)
        omega
      · rcases Nat.lt_or_ge kk k with z2 | z2
        · exfalso
          have : (kk + 1) * p ≤ k * p := Nat.mul_le_mul_right _ z2
          rw [Nat.succ_mul] at this
          omega
        · have : kk = k := by omega
          subst this
          have t3 : 0 - f (c + i) ≤ (kk : Int) * g := t3 i (by omega) hi
          omega
theorem lift_far {f : Nat → Int} {p c t : Nat} {g : Int} (p0 : 0 < p) (g0 : 0 < g) (Q : MF.QP f p g c) (ct : c ≤ t) (ft : f t < 0) (hi : ∀ j, t < j → 0 ≤ f j) {q b : Nat} {r : Int} (F : MF.IsForm (upf f) q r b) : t + 1 < b := by
  refine Nat.not_le.mp fun hb => ?_
  have U : MF.QP (upf f) p g (t + 1 + 1) := upf_qp (Q.to (by omega)) (by omega) (.inr fun j hj => hi j (by omega))
  have e := MF.form_rise p0 U F
  have m := F.qp.mul (j := t + 1) hb p
  have m2 := Q.mul (j := t) ct q
  have q0 : 0 < (q : Int) * g := Int.mul_pos (by have := F.pos; omega) g0
  rw [Nat.mul_comm p q] at m
  unfold upf at m
  rw [if_neg (by omega), if_neg (by omega), show t + 1 + q * p - 1 = t + q * p by omega, show t + 1 - 1 = t by omega, m2] at m
  omega
theorem form_len_of {f : Nat → Int} {p n : Nat} {g : Int} (p0 : 0 < p) (pn : p ≤ n) (n4 : n ≤ 100000) (g0 : 0 ≤ g) (g1 : g ≤ 1000000000000000000) (Q : MF.QP f p g (n - p)) : ∃ (v : List V) (q : Nat) (r : Int), FormG (fun j => .int (f j)) v q r ∧ v.length ≤ n := by
  obtain ⟨v, q, r, fv⟩ := form_ex (in_int (f := f) p0 pn n4 g0 g1)
  obtain ⟨q', rfl, fg⟩ := form_g fv (row_int p0 pn (by omega) Q)
  refine ⟨v, q', r, fg, ?_⟩
  have := formV_len fv
  rw [List.length_map, List.length_range] at this
  exact this
section
variable {P : Program} {w : World} {K : PySem.W.Frag} {mg : Str → Option Value} {base : Heap}
abbrev nLif : List Str := ["front", "row", "period", "growth", "low", "begin", "last", "one"]
theorem scLif : FnScope nLif ["front", "row", "period", "growth", "low"] (defScope sLif) := ⟨rfl, rfl, rfl, by decide +kernel, rfl, by decide +kernel, by decide +kernel⟩
def spLif (K : PySem.W.Frag) (C CT : Addr) : Sp := fun vs H Q E => ∃ (a b : Addr) (f : Nat → Int) (n p : Nat) (g : Int), vs = [.ref a, .ref b, .int p, .int g, .int 0] ∧ H a = some (.lst [.int 0]) ∧ H b = some (.lst ((List.range n).map fun j => V.int (f j))) ∧ 0 < p ∧ p ≤ n ∧ n ≤ 4100 ∧ 0 ≤ g ∧ g < 2 ^ 30 ∧ MF.QP f p g (n - p) ∧
  (∀ v q r y H', FormG (fun j => .int (upf f j)) v q r → v.length ≤ 4000 → H y = none → CurveAt H' C y v q r → Same H H' → Q (.ref y) H') ∧
  ((∀ v q r, FormG (fun j => .int (upf f j)) v q r → 4000 < v.length) → ∀ d H', Raised H "most" (.int 4000) d H' → E (.ref CT) (some d) H')
theorem ok_lif {f fT C CT : Addr} {fd dT : FuncData} (F : Fun K "lifted" "lifted" sLif f fd) (T : CurG mg) (nmax : mg "max" = none) (MM : ∃ t, mg "MOST_MADE" = some (.int 4000 t)) (B_TooMany : ErrT P w K mg base "TooMany" "most" CT fT dT)
    (c_lab : Cal P w K mg base CX0 2 "last_above" ["row", "other_row", "begin", "gain"] (spLab K)) (c_made : Cal P w K mg base (L2.CX P w) 6 "made" ["row", "period", "growth"] (spMadeC K C CT)) :
    FnOk P w K mg base (L2.CX P w) 7 f fd ["front", "row", "period", "growth", "low"] (spLif K C CT) := by
  refine F.okX scLif (fun vs H Q E h => ?_) (fun cdv A outer s H vs Q E hr h => ?_)
  · obtain ⟨a, b, f, n, p, g, rfl, _⟩ := h
    rfl
  · obtain ⟨a, b, f, n, p, g, rfl, ha, hb, p0, pn, hn, g0, g1, QP, k1, k2⟩ := h
    obtain ⟨tmm, mMOST_MADE⟩ := MM
    refine ⟨_, (C8.pss_cut (ps_set (i := 5) scLif.nd rfl (Or.inl rfl) (pe_op op_sub (pe_callB call_len_seq (by rfl) T.len PySem.boot_len (pa_cons (pv 1) pa_nil)) (pv 2)))
 (C8.pss_cut (ps_set (i := 6) scLif.nd rfl (Or.inl rfl) pe_non)
 (C8.pss_cut (ps_if (pt_cmpR op_gt (pv 3) pe_int (nomark _)) (pss_one
 (ps_set (i := 6) scLif.nd rfl (Or.inl rfl) (pe_callC c_lab (hr.mono (by decide)) rfl pass0 (pa_cons (pe_op op_rep (pe_lst (pa_cons (pv 4) pa_nil)) (pv 2)) (pa_cons (pe_slice sl_list (pv 1) (po_some (pv 5)) po_none) (pa_cons (pv 5) (pa_cons (pv 3) pa_nil))))))) pss_nil)
 (C8.pss_cut (ps_if (pt_cmpR op_notN (pv 6) pe_non (nomark _)) (C8.pss_cut (ps_if (pt_cmpR op_ge (pe_op op_add (pe_callB call_len_seq (by rfl) T.len PySem.boot_len (pa_cons (pv 0) pa_nil)) (pv 6)) (pe_glob (v := .int 4000) rfl mMOST_MADE ⟨_, rfl⟩) (nomark _)) (pss_one
 (ps_raise rfl (takes_of rfl rfl rfl rfl) (pmk_oex B_TooMany.ox B_TooMany.iC B_TooMany.tI B_TooMany.fn (hr.mono (by decide)) B_TooMany.bd .nil pass0 rfl B_TooMany.gC (pa_cons (pe_glob (v := .int 4000) rfl mMOST_MADE ⟨_, rfl⟩) pa_nil)))) pss_nil)
 (C8.pss_cut (ps_set (i := 1) scLif.nd rfl (Or.inl rfl) (pe_callTy call_list_of (by rfl) T.list (by decide +kernel) (pa_cons (pv 1) pa_nil)))
 (pss_one
 (ps_while (passes_of rfl) (pt_cmpR op_le (pe_callB call_len_seq (by rfl) T.len PySem.boot_len (pa_cons (pv 1) pa_nil)) (pe_op op_add (pv 6) (pv 2)) (nomark _)) (pss_one
 (ps_expr (pe_bm PySem.F.plainAttrs_list PySem.F.slot_list_append PySem.F.type_list_append mt_append (pv 1) (pa_cons (pe_op op_add (pe_ix ix_list (pv 1) (pe_op op_sub (pe_callB call_len_seq (by rfl) T.len PySem.boot_len (pa_cons (pv 1) pa_nil)) (pv 2)) (fun _ _ => rfl)) (pv 3)) pa_nil)))))))) pss_nil)
 (pss_one
 (ps_ret (pe_callC c_made (hr.mono (by decide)) rfl (passX (E := E) (takes_of rfl rfl rfl rfl) fun _ _ _ _ h => h) (pa_cons (pe_op op_cat (pv 0) (pe_lc (own := [("one", 7)]) (g := (gName 7)) (tt := tYes) rfl scLif.nd (pi_list (pv 1)) (blkOk_by (N := nLif) (sc := defScope sLif) (by decide +kernel)) (fun _ _ _ _ _ => (pg_name (i := 7) scLif.nd rfl (Or.inl rfl))) (fun _ _ _ _ _ => pts_nil) (fun _ _ _ _ _ => (pe_callB (call_max2 rfl) (by rfl) nmax (by decide +kernel) (pa_cons (pv 4) (pa_cons (pv 7) pa_nil)))))) (pa_cons (pv 2) (pa_cons (pv 3) pa_nil)))))))))), ?_⟩
    have lf : ∀ m, ((List.range m).map fun j => V.int (f j)).length = m := fun m => by rw [List.length_map, List.length_range]
    refine ⟨fun σ H' => σ = [some (.ref a), some (.ref b), some (.int p), some (.int g), some (.int 0), some (.int (n - p : Nat)), none, none] ∧ H' = H, ?_, ?_⟩
    · refine ⟨_, rfl, b, _, rfl, .inl (SqL.of hb), _, rfl, _, _, rfl, rfl, ?_, rfl⟩
      rw [lf]
      show ([some (.ref a), some (.ref b), some (.int p), some (.int g), some (.int 0), some (.int ((n : Int) - (p : Int))), none, none] : L2.St) = _
      rw [show (n : Int) - (p : Int) = ((n - p : Nat) : Int) by omega]
    rintro σ H ⟨rfl, rfl⟩
    refine ⟨fun σ H' => σ = [some (.ref a), some (.ref b), some (.int p), some (.int g), some (.int 0), some (.int (n - p : Nat)), some (.non), none] ∧ H' = H, ⟨rfl, rfl⟩, ?_⟩
    rintro σ H ⟨rfl, rfl⟩
    refine ⟨fun σ H' => ∃ r, σ = [some (.ref a), some (.ref b), some (.int p), some (.int g), some (.int 0), some (.int (n - p : Nat)), some (r), none] ∧ Same H H' ∧ ((r = .non ∧ MF.QP (upf f) p g (n - p + 1)) ∨ ∃ t : Nat, r = .int (t : Nat) ∧ 0 < g ∧ n - p ≤ t ∧ f t < 0 ∧ ∀ j, t < j → 0 ≤ f j), ?_, ?_⟩
    · refine ⟨_, rfl, _, _, rfl, rfl, ?_⟩
      by_cases c : g > 0
      · refine ⟨true, bT c, iteT ⟨_, rfl, (by show 1 ≤ sizeLine; decide), fun u hu => ?_⟩⟩
        generalize g2 : upd H u _ = H2
        obtain ⟨s2, f2⟩ := alloc g2 hu
        refine ⟨_, rfl, u, p, [.int 0], rfl, rfl, f2, by omega, by omega, (by show 1 * _ ≤ sizeLine; exact line_le (by omega)), fun z1 hz1 => ?_⟩
        generalize g3 : upd H2 z1 _ = H3
        obtain ⟨s3, f3⟩ := alloc g3 hz1
        have s13 := Same.trans s2 s3
        have fl : ∀ m, (List.replicate m [V.int 0]).flatten = (List.range m).map fun _ => V.int 0 := fun m => by
          induction m with
          | zero => rfl
          | succ m ih => rw [List.replicate_succ', List.flatten_append, ih, List.range_succ, List.map_append]; rfl
        rw [Int.toNat_natCast, fl] at f3
        refine ⟨_, rfl, _, rfl, ((n - p : Nat) : Int), rfl, b, _, rfl, SqL.of (s13 _ _ hb), fun z2 hz2 => ?_⟩
        generalize g4 : upd H3 z2 _ = H4
        obtain ⟨s4, f4⟩ := alloc g4 hz2
        rw [cutL (by rw [lf]; omega)] at f4
        have ed : ((List.range n).map fun j => V.int (f j)).drop (n - p) = (List.range p).map fun j => V.int (f (n - p + j)) := by
          conv => lhs; rw [← List.map_drop, show n = (n - p) + p by omega, List.range_add, List.drop_append, List.length_range, Nat.add_sub_cancel, Nat.sub_self, List.drop_of_length_le (by rw [List.length_range]; exact Nat.le_refl _), List.nil_append, List.drop_zero, List.map_map]
          rfl
        rw [ed] at f4
        refine ⟨_, rfl, _, rfl, z1, z2, p, n - p, fun _ => 0, fun j => f (n - p + j), g, rfl, s4 _ _ f3, f4, p0, by omega, by omega, by omega, fun r lr H5 s5 => ?_⟩
        refine ⟨r, rfl, Same.trans s13 (Same.trans s4 s5), ?_⟩
        rcases lab_last p0 (by omega) QP lr with ⟨rfl, al⟩ | ⟨t, rfl, t1, t2, t3⟩
        · exact .inl ⟨rfl, upf_qp QP g0 (.inr al)⟩
        · exact .inr ⟨t, rfl, by omega, t1, t2, t3⟩
      · exact ⟨false, bF c, iteF ⟨_, rfl, Same.refl _, .inl ⟨rfl, upf_qp QP g0 (.inl (by omega))⟩⟩⟩
    rintro σ H1 ⟨r, rfl, s1, hr1⟩
    refine ⟨fun σ H' => ∃ z m, σ = [some (.ref a), some (.ref z), some (.int p), some (.int g), some (.int 0), some (.int (n - p : Nat)), some (r), none] ∧ Same H H' ∧ H' z = some (.lst ((List.range m).map fun j => V.int (f j))) ∧ n ≤ m ∧ m ≤ 20000 ∧ MF.QP (upf f) p g (m - p + 1), ?_, ?_⟩
    · rcases hr1 with ⟨rfl, QU⟩ | ⟨t, rfl, gp, t1, t2, t3⟩
      · exact ⟨_, rfl, rfl, false, rfl, iteF ⟨b, n, rfl, s1, s1 _ _ hb, Nat.le_refl _, by omega, QU⟩⟩
      · refine ⟨_, rfl, rfl, true, rfl, iteT ?_⟩
        refine ⟨fun σ H' => σ = [some (.ref a), some (.ref b), some (.int p), some (.int g), some (.int 0), some (.int (n - p : Nat)), some (.int (t : Nat)), none] ∧ H' = H1 ∧ t ≤ 3998, ?_, ?_⟩
        · refine ⟨_, rfl, a, _, rfl, .inl (SqL.of (s1 _ _ ha)), _, rfl, _, _, rfl, rfl, _, _, rfl, rfl, ?_⟩
          by_cases c : (1 : Int) + (t : Int) ≥ 4000
          · exact ⟨true, bT c, iteT (mkO_post B_TooMany fun d H' rd => k2 (fun v q r fg => by
              rcases fg.cases' with ⟨f', b', e', hf', rfl⟩ | ⟨s', e', _⟩
              · have := lift_far p0 gp QP t1 t2 t3 (hf'.same fun j => (V.int.inj (e' j)).symm)
                rw [List.length_map, List.length_range]
                omega
              · have z := e' s'.length
                rw [fn_high (Nat.le_refl _)] at z
                cases z) d H' (Raised.same s1 rd))⟩
          · exact ⟨false, bF c, iteF ⟨rfl, rfl, by omega⟩⟩
        rintro σ H1 ⟨rfl, rfl, t4⟩
        refine ⟨fun σ H' => ∃ z, σ = [some (.ref a), some (.ref z), some (.int p), some (.int g), some (.int 0), some (.int (n - p : Nat)), some (.int (t : Nat)), none] ∧ H1 z = none ∧ upd H1 z (.lst ((List.range n).map fun j => V.int (f j))) = H', ?_, ?_⟩
        · exact ⟨_, rfl, b, _, rfl, .inl (SqL.of (s1 _ _ hb)), fun z hz => ⟨z, rfl, hz, rfl⟩⟩
        rintro σ H2 ⟨z, rfl, hz, g2⟩
        obtain ⟨s2, f2⟩ := alloc g2 hz
        refine while_by (fun σ H' => ∃ m, σ = [some (.ref a), some (.ref z), some (.int p), some (.int g), some (.int 0), some (.int (n - p : Nat)), some (.int (t : Nat)), none] ∧ Same H1 H' ∧ H' z = some (.lst ((List.range m).map fun j => V.int (f j))) ∧ n ≤ m ∧ m ≤ max n (t + p + 1))
          (fun _ H' => match H' z with
            | some (.lst xs) => 20000 - xs.length
            | _ => 0) ⟨n, rfl, s2, f2, Nat.le_refl _, Nat.le_max_left _ _⟩ ?_ ?_
        · rintro σ' H' ⟨m, rfl, s', h', nm, mN⟩
          refine ⟨_, rfl, z, _, rfl, .inl (SqL.of h'), _, rfl, _, rfl, _, _, rfl, rfl, _, _, rfl, rfl, ?_⟩
          by_cases c : m ≤ t + p
          · refine ⟨true, bT (by rw [lf]; omega), iteT ?_⟩
            refine ⟨_, rfl, .inl ⟨rfl, _, SqL.of h'⟩, _, rfl, _, rfl, z, _, rfl, .inl (SqL.of h'), _, rfl, _, _, rfl, rfl, z, _, _, .int (f (m - p)), rfl, rfl, SqL.of h', ?_, _, rfl, _, _, rfl, rfl, z, _, _, rfl, rfl, h', ?_, ⟨m + 1, rfl, ?_, ?_, by omega, by omega⟩, ?_⟩
            · rw [lf]
              show atI _ ((m : Int) - (p : Int)) = _
              rw [show (m : Int) - (p : Int) = ((m - p : Nat) : Int) by omega]
              refine atI_nat ?_
              rw [List.getElem?_map, List.getElem?_range (by omega)]
              rfl
            · rw [lf]
              exact line_lt (by omega)
            · exact fun b o e => by rw [upd_ne (ne_of_none e hz)]; exact s' b o e
            · have q := QP (m - p) (by omega)
              rw [show m - p + p = m by omega] at q
              rw [upd_same, List.range_succ, List.map_append, List.map_singleton, q]
            · rw [upd_same, h']
              show 20000 - _ < 20000 - _
              rw [List.length_append, lf]
              show 20000 - (m + 1) < 20000 - m
              omega
          · refine ⟨false, bF (by rw [lf]; omega), iteF ⟨z, m, rfl, Same.trans s1 s', h', nm, by omega, ?_⟩⟩
            exact (upf_qp (QP.to (show n - p ≤ t + 1 by omega)) g0 (.inr fun j hj => t3 j (by omega))).to (by omega)
        · intro σ H Q Q' m h
          obtain ⟨v1, f1, z1, xs, e1, hs, v2, f2, v3, f3, i1, j1, e2, e3, i2, j2, e4, e5, b, eb, hQ⟩ := h
          exact ⟨v1, f1, z1, xs, e1, hs, v2, f2, v3, f3, i1, j1, e2, e3, i2, j2, e4, e5, b, eb, m _ _ hQ⟩
    rintro σ H2 ⟨z, m, rfl, s2, h2, nm, m4, QU⟩
    refine ⟨_, rfl, _, rfl, z, rfl, ⟨_, SqL.of h2⟩, fun D hD => LM.lcM (walk_list (xs := (List.range m).map fun j => V.int (f j))) (fun i => V.int (max 0 (f i))) hD (by rw [lf]; omega) (fun H3 s3 => SqL.of (s3 _ _ h2)) ?_ fun H3 h3 s3 => ?_⟩
    · rintro i x H3 H4 hi s3 ⟨rfl, hx⟩ R N kk
      rw [lf] at hi
      rw [List.getElem?_map, List.getElem?_range hi] at hx
      obtain rfl := Option.some.inj hx
      refine ⟨rfl, _, rfl, _, rfl, _, _, rfl, ?_⟩
      have kk := kk _ (Same.refl _)
      rw [show max 0 (f i) = (if f i > 0 then f i else 0) by split <;> omega] at kk
      exact kk
    · rw [lf] at h3
      refine ⟨a, D, _, _, rfl, rfl, s3 _ _ (s2 _ _ ha), h3, (by rw [List.length_map, List.length_range]; exact line_le (show 1 + m ≤ 200000 by omega)), fun z3 hz3 => ?_⟩
      generalize g4 : upd H3 z3 _ = H4
      obtain ⟨s4, f4⟩ := alloc g4 hz3
      have er : [V.int 0] ++ (List.range m).map (fun i => V.int (max 0 (f i))) = (List.range (m + 1)).map fun j => V.int (upf f j) := by
        rw [List.range_succ_eq_map, List.map_cons, List.map_map]
        rfl
      rw [er] at f4
      have sA : Same H H4 := Same.trans s2 (Same.trans s3 s4)
      have QU' : MF.QP (upf f) p g (m + 1 - p) := by rw [show m + 1 - p = m - p + 1 by omega]; exact QU
      have RU := row_int (f := upf f) p0 (show p ≤ m + 1 by omega) (by omega) QU'
      refine ⟨_, rfl, _, rfl, z3, _, p, g, rfl, f4, in_int p0 (by omega) (by omega) g0 (by omega), fun vals q r y H' fv l4 hy cu s' => ?_, fun vals q r fv l4 d H' rd => ?_⟩
      · obtain ⟨q', rfl, fg⟩ := form_g fv RU
        exact k1 vals q' r y H' fg l4 (sA.free hy) cu (Same.trans sA s')
      · obtain ⟨q', rfl, fg⟩ := form_g fv RU
        exact k2 (fun v q r fg' => by rw [(fg'.uniq fg).1]; exact l4) d H' (Raised.same sA rd)
/-- a curve of known values -/
def KcP (H : Hp) (C x : Addr) (L : Nat → V) (q : Nat) : Prop := ∃ (v : List V) (r : Int), CurveAt H C x v q r ∧ FormG L v q r ∧ Calm v q r ∧ v.length ≤ 3999
theorem KcP.same {H H' : Hp} {C x : Addr} {L : Nat → V} {q : Nat} (h : KcP H C x L q) (s : Same H H') : KcP H' C x L q := by
  obtain ⟨v, r, h1, h2⟩ := h
  exact ⟨v, r, h1.same s, h2⟩
/-- what is left for whole parcels; what whole parcels keep -/
def lesP (m : Int) (L : Nat → V) (j : Nat) : V := if j = 0 then .int 0 else match L j with
  | .int i => .int (max 0 (i - m + 1))
  | _ => .non
def morP (m : Int) (L : Nat → V) (j : Nat) : V := if j = 0 then .int 0 else match L j with
  | .int i => .int (i + m - 1)
  | _ => .non
abbrev nPsv : List Str := ["service", "most", "end", "row", "one"]
theorem scPsv : FnScope nPsv ["service", "most"] (defScope sPsv) := ⟨rfl, rfl, rfl, by decide +kernel, rfl, by decide +kernel, by decide +kernel⟩
def spPsv (K : PySem.W.Frag) (C CB CN CT : Addr) : Sp := fun vs H Q E => ∃ x y : V, vs = [x, y] ∧
  ((NoCur K H C x ∧ ∀ d H', Raised H "part" .non d H' → E (.ref CB) (some d) H') ∨
   (∃ (a : Addr) (L : Nat → V) (q : Nat), x = .ref a ∧ KcP H C a L q ∧
    ((badFrom K H y 1 1000000 ∧ ∀ d H', Raised H "part" (.str "most") d H' → E (.ref CN) (some d) H') ∨
     (∃ m : Int, y = .int m ∧ 1 ≤ m ∧ m ≤ 1000000 ∧
      (∀ v q r y H', FormG (lesP m L) v q r → v.length ≤ 4000 → H y = none → CurveAt H' C y v q r → Same H H' → Q (.ref y) H') ∧
      ((∀ v q r, FormG (lesP m L) v q r → 4000 < v.length) → ∀ d H', Raised H "most" (.int 4000) d H' → E (.ref CT) (some d) H')))))
theorem lesP_int {m : Int} {f : Nat → Int} : (fun j => V.int (upf (fun k => f (k + 1) - m + 1) j)) = lesP m (fun j => .int (f j)) := by
  funext j
  unfold upf lesP
  cases j with
  | zero => rfl
  | succ j => rw [if_neg (Nat.succ_ne_zero j), if_neg (Nat.succ_ne_zero j)]; rfl
theorem lesP_non {m : Int} {s : List Int} : FN (0 :: (s.drop 1).map fun i => max 0 (i - m + 1)) = lesP m (FN s) := by
  funext j
  unfold lesP
  cases j with
  | zero =>
    rw [if_pos rfl, fn_low (by show 0 < _ + 1; omega)]
    rfl
  | succ j =>
    rw [if_neg (Nat.succ_ne_zero j)]
    by_cases c : j + 1 < s.length
    · rw [fn_low c, fn_low (by rw [List.length_cons, List.length_map, List.length_drop]; omega), List.getD_cons_succ, List.getD_eq_getElem?_getD, List.getElem?_map, List.getElem?_drop, List.getD_eq_getElem?_getD, show 1 + j = j + 1 by omega, List.getElem?_eq_getElem c]
      rfl
    · rw [fn_high (s := s) (by omega), fn_high (by rw [List.length_cons, List.length_map, List.length_drop]; omega)]
theorem cut_end {s : List Int} : cutV (s.map V.int ++ [.non]) (some 1) (some ((max 1 s.length : Nat) : Int)) = (s.drop 1).map V.int := by
  have h1 : 1 ≤ (s.map V.int ++ [V.non]).length := by rw [List.length_append]; show 1 ≤ _ + 1; omega
  have h2 : max 1 s.length ≤ (s.map V.int ++ [V.non]).length := by rw [List.length_append, List.length_map]; show _ ≤ _ + 1; omega
  have e1 := six_nat (d := 0) h1
  have e2 := six_nat (d := (s.map V.int ++ [V.non]).length) h2
  unfold cutV
  have e1 : HT.sIx (s.map V.int ++ [V.non]).length 0 (some 1) = 1 := e1
  rw [e1, e2]
  cases s with
  | nil => rfl
  | cons a r =>
    show (r.map V.int ++ [V.non]).take (max 1 (r.length + 1) - 1) = r.map V.int
    rw [show max 1 (r.length + 1) - 1 = (r.map V.int).length by rw [List.length_map]; omega, List.take_left']
    rfl
theorem ok_psv {f fI fE C CB CN CT : Addr} {fd : FuncData} (F : Fun K "parcel_service" "parcel_service" sPsv f fd) (T : CurG mg) (U : CurT K mg C fI fE) (nmax : mg "max" = none) (M2 : ∃ t, mg "MOST_SIZE" = some (.int 1000000 t))
    (c_ncu : Cal P w K mg base (L2.CX P w) 3 "need_curve" ["thing"] (spNeedCur K C CB)) (c_nnm : Cal P w K mg base (L2.CX P w) 4 "need_number" ["thing", "low", "high", "part"] (spNeedNum K CN)) (c_has : Cal P w K mg base CX0 1 "has_none" ["curve"] (spHas K C))
    (c_fne : Cal P w K mg base CX0 1 "first_none" ["curve"] (spFne K C)) (c_fir : Cal P w K mg base CX0 3 "first_values" ["curve", "many"] (spFirst K C)) (c_lif : Cal P w K mg base (L2.CX P w) 7 "lifted" ["front", "row", "period", "growth", "low"] (spLif K C CT))
    (c_made : Cal P w K mg base (L2.CX P w) 6 "made" ["row", "period", "growth"] (spMadeC K C CT)) :
    FnOk P w K mg base (L2.CX P w) 8 f fd ["service", "most"] (spPsv K C CB CN CT) := by
  refine F.okX scPsv (fun vs H Q E h => ?_) (fun cdv A outer s H vs Q E hr h => ?_)
  · obtain ⟨x, y, rfl, _⟩ := h
    rfl
  · obtain ⟨x, y, rfl, h⟩ := h
    obtain ⟨t2, mMOST_SIZE⟩ := M2
    refine ⟨_, (C8.pss_cut (ps_expr (pe_callC c_ncu (hr.mono (by decide)) rfl (passX (E := E) (takes_of rfl rfl rfl rfl) fun _ _ _ _ h => h) (pa_cons (pv 0) pa_nil)))
 (C8.pss_cut (ps_expr (pe_callC c_nnm (hr.mono (by decide)) rfl (passX (E := E) (takes_of rfl rfl rfl rfl) fun _ _ _ _ h => h) (pa_cons (pv 1) (pa_cons pe_int (pa_cons (pe_glob (v := .int 1000000) rfl mMOST_SIZE ⟨_, rfl⟩) (pa_cons pe_str pa_nil))))))
 (C8.pss_cut (ps_if (pt_val (pe_callC c_has (hr.mono (by decide)) rfl pass0 (pa_cons (pv 0) pa_nil))) (C8.pss_cut (ps_set (i := 2) scPsv.nd rfl (Or.inl rfl) (pe_callB (call_max2 rfl) (by rfl) nmax (by decide +kernel) (pa_cons pe_int (pa_cons (pe_callC c_fne (hr.mono (by decide)) rfl pass0 (pa_cons (pv 0) pa_nil)) pa_nil))))
 (pss_one
 (ps_ret (pe_callC c_made (hr.mono (by decide)) rfl (passX (E := E) (takes_of rfl rfl rfl rfl) fun _ _ _ _ h => h) (pa_cons (pe_op op_cat (pe_op op_cat (pe_lst (pa_cons pe_int pa_nil)) (pe_lc (own := [("one", 4)]) (g := (gName 4)) (tt := tYes) rfl scPsv.nd (pi_tup (pe_slice LM.sl_tupN (pe_fld (pv 0) rfl) (po_some pe_int) (po_some (pv 2)))) (blkOk_by (N := nPsv) (sc := defScope sPsv) (by decide +kernel)) (fun _ _ _ _ _ => (pg_name (i := 4) scPsv.nd rfl (Or.inl rfl))) (fun _ _ _ _ _ => pts_nil) (fun _ _ _ _ _ => (pe_callB (call_max2 rfl) (by rfl) nmax (by decide +kernel) (pa_cons pe_int (pa_cons (pe_op op_add (pe_op op_sub (pv 4) (pv 1)) pe_int) pa_nil)))))) (pe_lst (pa_cons pe_non pa_nil))) (pa_cons pe_int (pa_cons pe_int pa_nil))))))) pss_nil)
 (C8.pss_cut (ps_set (i := 3) scPsv.nd rfl (Or.inl rfl) (pe_slice sl_list (pe_callC c_fir (hr.mono (by decide)) rfl pass0 (pa_cons (pv 0) (pa_cons (pe_op op_add (pe_callB call_len_seq (by rfl) T.len PySem.boot_len (pa_cons (pe_fld (pv 0) rfl) pa_nil)) pe_int) pa_nil))) (po_some pe_int) po_none))
 (pss_one
 (ps_ret (pe_callC c_lif (hr.mono (by decide)) rfl (passX (E := E) (takes_of rfl rfl rfl rfl) fun _ _ _ _ h => h) (pa_cons (pe_lst (pa_cons pe_int pa_nil)) (pa_cons (pe_lc (own := [("one", 4)]) (g := (gName 4)) (tt := tYes) rfl scPsv.nd (pi_list (pv 3)) (blkOk_by (N := nPsv) (sc := defScope sPsv) (by decide +kernel)) (fun _ _ _ _ _ => (pg_name (i := 4) scPsv.nd rfl (Or.inl rfl))) (fun _ _ _ _ _ => pts_nil) (fun _ _ _ _ _ => (pe_op op_add (pe_op op_sub (pv 4) (pv 1)) pe_int))) (pa_cons (pe_fld (pv 0) rfl) (pa_cons (pe_fld (pv 0) rfl) (pa_cons pe_int pa_nil)))))))))))), ?_⟩
    rcases h with ⟨no, k⟩ | ⟨a, L, q, rfl, ⟨v, r, cx, fx, CM, lx⟩, h⟩
    · exact ⟨fun _ _ => False, ⟨_, rfl, _, rfl, .inr ⟨no, k⟩⟩, fun _ _ z => z.elim⟩
    refine ⟨fun σ H' => σ = [some (.ref a), some y, none, none, none] ∧ H' = H, ⟨_, rfl, _, rfl, .inl ⟨a, v, q, r, rfl, cx, rfl, rfl⟩⟩, ?_⟩
    rintro σ H ⟨rfl, rfl⟩
    rcases h with ⟨bad, k⟩ | ⟨m, rfl, m0, m1, k1, k2⟩
    · exact ⟨fun _ _ => False, ⟨_, rfl, _, _, _, _, rfl, .inr ⟨bad, k⟩⟩, fun _ _ z => z.elim⟩
    refine ⟨fun σ H' => σ = [some (.ref a), some (.int m), none, none, none] ∧ H' = H, ⟨_, rfl, _, _, _, _, rfl, .inl ⟨m, rfl, by omega, by omega, rfl, rfl⟩⟩, ?_⟩
    rintro σ H ⟨rfl, rfl⟩
    have px := fx.len
    have rx := fx.rowF (by omega)
    obtain ⟨dx, t, x1, x2⟩ := id cx
    rcases fx.cases' with ⟨f, b, eL, hf, ev⟩ | ⟨s, eL, ev, rfl, rfl⟩
    · -- numbers
      obtain rfl : L = fun j => .int (f j) := funext eL
      have lv : v.length = b + q := by rw [ev, List.length_map, List.length_range]
      have lst : v[v.length - 1]? = some (.int (f (v.length - 1))) := rx.get (by omega)
      refine ⟨fun σ H' => σ = [some (.ref a), some (.int m), none, none, none] ∧ H' = H, ?_, ?_⟩
      · exact ⟨_, rfl, a, v, q, r, _, rfl, cx, lst, false, rfl, iteF ⟨rfl, rfl⟩⟩
      rintro σ H ⟨rfl, rfl⟩
      refine ⟨fun σ H' => ∃ z, σ = [some (.ref a), some (.int m), none, some (.ref z), none] ∧ Same H H' ∧ H' z = some (.lst ((List.range v.length).map fun j => V.int (f (j + 1)))), ?_, ?_⟩
      · refine ⟨_, rfl, _, rfl, a, C, dx, _, .ref t, rfl, x1, U.cl, U.nS, rfl, t, v, rfl, .inr (SqT.of x2), _, _, rfl, rfl, a, v, q, v.length + 1, r, _, rfl, cx, rx, CM, by omega, by omega, by omega, fun z1 H1 _ h1 s1 => ?_⟩
        refine ⟨1, rfl, z1, _, rfl, SqL.of h1, fun z2 hz2 => ?_⟩
        generalize g2 : upd H1 z2 _ = H2
        obtain ⟨s2, f2⟩ := alloc g2 hz2
        rw [cut1 (by rw [List.length_map, List.length_range]; omega)] at f2
        refine ⟨z2, rfl, Same.trans s1 s2, ?_⟩
        rw [f2, List.range_succ_eq_map, List.map_cons, List.drop_one, List.tail_cons, List.map_map]
        rfl
      rintro σ H1 ⟨z, rfl, s1, h1⟩
      refine ⟨(by show 1 ≤ sizeLine; decide), fun u hu => ?_⟩
      generalize g2 : upd H1 u _ = H2
      obtain ⟨s2, f2⟩ := alloc g2 hu
      have lr : ((List.range v.length).map fun j => V.int (f (j + 1))).length = v.length := by rw [List.length_map, List.length_range]
      refine ⟨_, rfl, z, rfl, ⟨_, SqL.of (s2 _ _ h1)⟩, fun D hD => LM.lcM (walk_list (xs := (List.range v.length).map fun j => V.int (f (j + 1)))) (fun i => V.int (f (i + 1) - m + 1)) hD (by rw [lr]; omega) (fun H3 s3 => SqL.of (s3 _ _ (s2 _ _ h1))) ?_ fun H3 h3 s3 => ?_⟩
      · rintro i x H3 H4 hi s3 ⟨rfl, hx⟩ R N kk
        rw [lr] at hi
        rw [List.getElem?_map, List.getElem?_range hi] at hx
        obtain rfl := Option.some.inj hx
        exact ⟨rfl, _, rfl, _, rfl, _, _, rfl, rfl, _, _, rfl, rfl, kk _ (Same.refl _)⟩
      · rw [lr] at h3
        have sA : Same H H3 := Same.trans s1 (Same.trans s2 s3)
        obtain ⟨dy, ty, y1, y2⟩ := cx.same sA
        refine ⟨_, rfl, a, C, dy, _, .int q, rfl, y1, U.cl, U.nP, rfl, _, rfl, a, C, dy, _, .int r, rfl, y1, U.cl, U.nG, rfl, u, D, fun i => f (i + 1) - m + 1, v.length, q, r, rfl, s3 _ _ f2, h3, px.1, px.2, by omega, CM.g0, CM.g1, fun j hj => ?_, fun v' q' r' y H' fg l4 hy cu s' => ?_, fun fa d H' rd => ?_⟩
        · have := hf.qp (j + 1) (by omega)
          rw [show j + 1 + q = j + q + 1 by omega] at this
          show f (j + q + 1) - m + 1 = f (j + 1) - m + 1 + r
          omega
        · rw [lesP_int] at fg
          exact k1 v' q' r' y H' fg l4 (sA.free hy) cu (Same.trans sA s')
        · rw [lesP_int] at fa
          exact k2 fa d H' (Raised.same sA rd)
    · -- without end
      obtain rfl : L = FN s := funext eL
      have lv : v.length = s.length + 1 := by rw [ev, List.length_append, List.length_map]; rfl
      have lst : v[v.length - 1]? = some .non := by
        have := rx.get (j := v.length - 1) (by omega)
        rw [this, lv, Nat.add_sub_cancel, fn_high (Nat.le_refl _)]
      refine ⟨fun _ _ => False, ?_, fun _ _ z => z.elim⟩
      refine ⟨_, rfl, a, v, 1, 0, _, rfl, cx, lst, true, rfl, iteT ?_⟩
      refine ⟨fun σ H' => σ = [some (.ref a), some (.int m), some (.int (max 1 s.length : Nat)), none, none] ∧ H' = H, ?_, ?_⟩
      · refine ⟨_, rfl, a, v, 1, 0, rfl, cx, by omega, _, _, rfl, ?_, rfl⟩
        rw [lv, Nat.add_sub_cancel]
        show ([some (.ref a), some (.int m), some (.int (if ((s.length : Nat) : Int) > 1 then ((s.length : Nat) : Int) else 1)), none, none] : L2.St) = _
        rw [show (if ((s.length : Nat) : Int) > 1 then ((s.length : Nat) : Int) else 1) = ((max 1 s.length : Nat) : Int) by split <;> omega]
      rintro σ H ⟨rfl, rfl⟩
      refine ⟨(by show 1 ≤ sizeLine; decide), fun u hu => ?_⟩
      generalize g2 : upd H u _ = H2
      obtain ⟨s2, f2⟩ := alloc g2 hu
      refine ⟨_, rfl, a, C, dx, _, .ref t, rfl, s2 _ _ x1, U.cl, U.nS, rfl, 1, rfl, _, rfl, ((max 1 s.length : Nat) : Int), rfl, t, v, rfl, SqT.of (s2 _ _ x2), fun p1 H3 h3 s3 => ?_⟩
      have h3 : SqT K H3 p1 ((s.drop 1).map V.int) := by rw [← cut_end, ← ev]; exact h3
      have ld : ((s.drop 1).map V.int).length ≤ s.length := by rw [List.length_map, List.length_drop]; omega
      refine ⟨p1, rfl, ⟨_, h3⟩, fun D hD => LM.lcM (walk_tup (xs := (s.drop 1).map V.int)) (fun i => V.int (max 0 ((s.drop 1).getD i 0 - m + 1))) hD (by omega) (fun H4 s4 => SqT.ext h3 s4) ?_ fun H4 h4 s4 => ?_⟩
      · rintro i x H4 H5 hi s4 ⟨rfl, hx⟩ R N kk
        rw [List.getElem?_map] at hx
        obtain ⟨z, hz, rfl⟩ := Option.map_eq_some_iff.mp hx
        refine ⟨rfl, _, rfl, _, rfl, _, _, rfl, rfl, _, _, rfl, rfl, _, _, rfl, ?_⟩
        have kk := kk _ (Same.refl _)
        have e : (s.drop 1).getD i 0 = z := by rw [List.getD_eq_getElem?_getD, hz]; rfl
        rw [e, show max 0 (z - m + 1) = (if z - m + 1 > 0 then z - m + 1 else 0) by split <;> omega] at kk
        exact kk
      rw [List.length_map, map_getD (fun z => V.int (max 0 (z - m + 1)))] at h4
      refine ⟨u, D, _, _, rfl, rfl, s4 _ _ (s3 _ _ f2), h4, ?_, fun z1 hz1 => ?_⟩
      · rw [List.length_map, List.length_drop]
        exact line_le (show 1 + (s.length - 1) ≤ 200000 by omega)
      generalize g5 : upd H4 z1 _ = H5
      obtain ⟨s5, f5⟩ := alloc g5 hz1
      refine ⟨(by show 1 ≤ sizeLine; decide), fun u6 hu6 => ?_⟩
      generalize g6 : upd H5 u6 _ = H6
      obtain ⟨s6, f6⟩ := alloc g6 hu6
      refine ⟨z1, u6, _, _, rfl, rfl, s6 _ _ f5, f6, ?_, fun z2 hz2 => ?_⟩
      · rw [List.length_append, List.length_map, List.length_drop]
        exact line_le (show 1 + (s.length - 1) + 1 ≤ 200000 by omega)
      generalize g7 : upd H6 z2 _ = H7
      obtain ⟨s7, f7⟩ := alloc g7 hz2
      have er : [V.int 0] ++ (s.drop 1).map (fun z => V.int (max 0 (z - m + 1))) ++ [.non] = (0 :: (s.drop 1).map fun i => max 0 (i - m + 1)).map V.int ++ List.replicate (0 + 1) .non := by
        rw [List.map_cons, List.map_map]
        rfl
      rw [er] at f7
      have sA : Same H H7 := Same.trans s2 (Same.trans s3 (Same.trans s4 (Same.trans s5 (Same.trans s6 s7))))
      refine ⟨z2, _, 1, 0, rfl, f7, .mkN _ 0 1 0 ?_, fun vals q r y H' fv l4 hy cu s' => ?_, fun vals q r fv l4 d H' rd => ?_⟩
      · rw [List.length_cons, List.length_map, List.length_drop]
        omega
      · obtain ⟨q', rfl, fg⟩ := form_g fv (.mkN _ 0 1 0)
        rw [lesP_non] at fg
        exact k1 vals q' r y H' fg l4 (sA.free hy) cu (Same.trans sA s')
      · exfalso
        have := formV_len fv
        rw [List.length_append, List.length_map, List.length_cons, List.length_map, List.length_drop, List.length_replicate] at this
        omega
abbrev nPpr : List Str := ["promise", "most", "row", "one"]
theorem scPpr : FnScope nPpr ["promise", "most"] (defScope sPpr) := ⟨rfl, rfl, rfl, by decide +kernel, rfl, by decide +kernel, by decide +kernel⟩
def spPpr (K : PySem.W.Frag) (C CB CN : Addr) : Sp := fun vs H Q E => ∃ x y : V, vs = [x, y] ∧
  ((NoCur K H C x ∧ ∀ d H', Raised H "part" .non d H' → E (.ref CB) (some d) H') ∨
   (∃ (a : Addr) (L : Nat → V) (q : Nat), x = .ref a ∧ KcP H C a L q ∧
    ((badFrom K H y 1 1000000 ∧ ∀ d H', Raised H "part" (.str "most") d H' → E (.ref CN) (some d) H') ∨
     (∃ m : Int, y = .int m ∧ 1 ≤ m ∧ m ≤ 1000000 ∧ ∀ v q r y H', FormG (morP m L) v q r → v.length ≤ 4000 → H y = none → CurveAt H' C y v q r → Same H H' → Q (.ref y) H'))))
/-- a row of values, without the first one, the first one 0 -/
theorem mor_row {m : Int} {L : Nat → V} {v : List V} {q : Nat} {r : Int} (fx : FormG L v q r) (hq : q ≤ 1000000) : RowF ((List.range (v.length + 1)).map (morP m L)) q r (morP m L) ∧ (0 ≤ r → r < 2 ^ 30 → v.length ≤ 90000 → FormIn ((List.range (v.length + 1)).map (morP m L)) q r) := by
  have px := fx.len
  rcases fx.cases' with ⟨f, b, eL, hf, ev⟩ | ⟨s, eL, ev, rfl, rfl⟩
  · obtain rfl : L = fun j => .int (f j) := funext eL
    have lv : v.length = b + q := by rw [ev, List.length_map, List.length_range]
    have e : morP m (fun j => .int (f j)) = fun j => .int (if j = 0 then 0 else f j + m - 1) := by
      funext j
      unfold morP
      split <;> rfl
    rw [e]
    refine ⟨row_int px.1 (by omega) hq fun j hj => ?_, fun r0 r1 l => in_int px.1 (by omega) (by omega) r0 (by omega)⟩
    rw [if_neg (by omega), if_neg (by omega)]
    have := hf.qp j (by omega)
    omega
  · obtain rfl : L = FN s := funext eL
    have lv : v.length = s.length + 1 := by rw [ev, List.length_append, List.length_map]; rfl
    have e : morP m (FN s) = FN (0 :: (s.drop 1).map fun i => i + m - 1) := by
      funext j
      unfold morP
      cases j with
      | zero =>
        rw [if_pos rfl, fn_low (by show 0 < _ + 1; omega)]
        rfl
      | succ j =>
        rw [if_neg (Nat.succ_ne_zero j)]
        by_cases c : j + 1 < s.length
        · rw [fn_low c, fn_low (by rw [List.length_cons, List.length_map, List.length_drop]; omega), List.getD_cons_succ, List.getD_eq_getElem?_getD, List.getD_eq_getElem?_getD, List.getElem?_map, List.getElem?_drop, show 1 + j = j + 1 by omega, List.getElem?_eq_getElem c]
          rfl
        · rw [fn_high (s := s) (by omega), fn_high (by rw [List.length_cons, List.length_map, List.length_drop]; omega)]
    rw [e]
    have l : (0 :: (s.drop 1).map fun i => i + m - 1).length < v.length + 1 := by
      rw [List.length_cons, List.length_map, List.length_drop]
      omega
    exact ⟨row_non l, fun _ _ l2 => in_non l (by omega)⟩
theorem ok_ppr {f fI fE C CB CN CT : Addr} {fd : FuncData} (F : Fun K "parcel_promise" "parcel_promise" sPpr f fd) (T : CurG mg) (U : CurT K mg C fI fE) (M2 : ∃ t, mg "MOST_SIZE" = some (.int 1000000 t))
    (c_ncu : Cal P w K mg base (L2.CX P w) 3 "need_curve" ["thing"] (spNeedCur K C CB)) (c_nnm : Cal P w K mg base (L2.CX P w) 4 "need_number" ["thing", "low", "high", "part"] (spNeedNum K CN))
    (c_fir : Cal P w K mg base CX0 3 "first_values" ["curve", "many"] (spFirst K C)) (c_made : Cal P w K mg base (L2.CX P w) 6 "made" ["row", "period", "growth"] (spMadeC K C CT)) :
    FnOk P w K mg base (L2.CX P w) 7 f fd ["promise", "most"] (spPpr K C CB CN) := by
  refine F.okX scPpr (fun vs H Q E h => ?_) (fun cdv A outer s H vs Q E hr h => ?_)
  · obtain ⟨x, y, rfl, _⟩ := h
    rfl
  · obtain ⟨x, y, rfl, h⟩ := h
    obtain ⟨t2, mMOST_SIZE⟩ := M2
    refine ⟨_, (C8.pss_cut (ps_expr (pe_callC c_ncu (hr.mono (by decide)) rfl (passX (E := E) (takes_of rfl rfl rfl rfl) fun _ _ _ _ h => h) (pa_cons (pv 0) pa_nil)))
 (C8.pss_cut (ps_expr (pe_callC c_nnm (hr.mono (by decide)) rfl (passX (E := E) (takes_of rfl rfl rfl rfl) fun _ _ _ _ h => h) (pa_cons (pv 1) (pa_cons pe_int (pa_cons (pe_glob (v := .int 1000000) rfl mMOST_SIZE ⟨_, rfl⟩) (pa_cons pe_str pa_nil))))))
 (C8.pss_cut (ps_set (i := 2) scPpr.nd rfl (Or.inl rfl) (pe_slice sl_list (pe_callC c_fir (hr.mono (by decide)) rfl pass0 (pa_cons (pv 0) (pa_cons (pe_op op_add (pe_callB call_len_seq (by rfl) T.len PySem.boot_len (pa_cons (pe_fld (pv 0) rfl) pa_nil)) pe_int) pa_nil))) (po_some pe_int) po_none))
 (pss_one
 (ps_ret (pe_callC c_made (hr.mono (by decide)) rfl (passX (E := E) (takes_of rfl rfl rfl rfl) fun _ _ _ _ h => h) (pa_cons (pe_op op_cat (pe_lst (pa_cons pe_int pa_nil)) (pe_lc (own := [("one", 3)]) (g := (gName 3)) (tt := tYes) rfl scPpr.nd (pi_list (pv 2)) (blkOk_by (N := nPpr) (sc := defScope sPpr) (by decide +kernel)) (fun _ _ _ _ _ => (pg_name (i := 3) scPpr.nd rfl (Or.inl rfl))) (fun _ _ _ _ _ => pts_nil) (fun _ _ _ _ _ => (pe_ifExp (pt_cmpR op_isN (pv 3) pe_non (nomark _)) pe_non (pe_op op_sub (pe_op op_add (pv 3) (pv 1)) pe_int))))) (pa_cons (pe_fld (pv 0) rfl) (pa_cons (pe_fld (pv 0) rfl) pa_nil))))))))), ?_⟩
    rcases h with ⟨no, k⟩ | ⟨a, L, q, rfl, ⟨v, r, cx, fx, CM, lx⟩, h⟩
    · exact ⟨fun _ _ => False, ⟨_, rfl, _, rfl, .inr ⟨no, k⟩⟩, fun _ _ z => z.elim⟩
    refine ⟨fun σ H' => σ = [some (.ref a), some y, none, none] ∧ H' = H, ⟨_, rfl, _, rfl, .inl ⟨a, v, q, r, rfl, cx, rfl, rfl⟩⟩, ?_⟩
    rintro σ H ⟨rfl, rfl⟩
    rcases h with ⟨bad, k⟩ | ⟨m, rfl, m0, m1, k⟩
    · exact ⟨fun _ _ => False, ⟨_, rfl, _, _, _, _, rfl, .inr ⟨bad, k⟩⟩, fun _ _ z => z.elim⟩
    refine ⟨fun σ H' => σ = [some (.ref a), some (.int m), none, none] ∧ H' = H, ⟨_, rfl, _, _, _, _, rfl, .inl ⟨m, rfl, by omega, by omega, rfl, rfl⟩⟩, ?_⟩
    rintro σ H ⟨rfl, rfl⟩
    have px := fx.len
    have rx := fx.rowF (by omega)
    obtain ⟨dx, t, x1, x2⟩ := id cx
    refine ⟨fun σ H' => ∃ z, σ = [some (.ref a), some (.int m), some (.ref z), none] ∧ Same H H' ∧ H' z = some (.lst ((List.range v.length).map fun j => L (j + 1))), ?_, ?_⟩
    · refine ⟨_, rfl, _, rfl, a, C, dx, _, .ref t, rfl, x1, U.cl, U.nS, rfl, t, v, rfl, .inr (SqT.of x2), _, _, rfl, rfl, a, v, q, v.length + 1, r, _, rfl, cx, rx, CM, by omega, by omega, by omega, fun z1 H1 _ h1 s1 => ?_⟩
      refine ⟨1, rfl, z1, _, rfl, SqL.of h1, fun z2 hz2 => ?_⟩
      generalize g2 : upd H1 z2 _ = H2
      obtain ⟨s2, f2⟩ := alloc g2 hz2
      rw [cut1 (by rw [List.length_map, List.length_range]; omega)] at f2
      refine ⟨z2, rfl, Same.trans s1 s2, ?_⟩
      rw [f2, List.range_succ_eq_map, List.map_cons, List.drop_one, List.tail_cons, List.map_map]
      rfl
    rintro σ H1 ⟨z, rfl, s1, h1⟩
    refine ⟨(by show 1 ≤ sizeLine; decide), fun u hu => ?_⟩
    generalize g2 : upd H1 u _ = H2
    obtain ⟨s2, f2⟩ := alloc g2 hu
    have lr : ((List.range v.length).map fun j => L (j + 1)).length = v.length := by rw [List.length_map, List.length_range]
    refine ⟨_, rfl, z, rfl, ⟨_, SqL.of (s2 _ _ h1)⟩, fun D hD => LM.lcM (walk_list (xs := (List.range v.length).map fun j => L (j + 1))) (fun i => morP m L (i + 1)) hD (by rw [lr]; omega) (fun H3 s3 => SqL.of (s3 _ _ (s2 _ _ h1))) ?_ fun H3 h3 s3 => ?_⟩
    · rintro i x H3 H4 hi s3 ⟨rfl, hx⟩ R N kk
      rw [lr] at hi
      rw [List.getElem?_map, List.getElem?_range hi] at hx
      have hx := Option.some.inj hx
      have hx : L (i + 1) = x := hx
      have kk := kk _ (Same.refl _)
      unfold morP at kk
      rw [if_neg (by omega), hx] at kk
      have fl := rx.flat (i + 1)
      rw [hx] at fl
      clear hx
      rcases fl with e | ⟨j, e⟩
      · rw [e] at kk ⊢
        exact ⟨rfl, _, rfl, rfl, true, rfl, iteT kk⟩
      · rw [e] at kk ⊢
        exact ⟨rfl, _, rfl, rfl, false, rfl, iteF ⟨_, rfl, _, rfl, _, _, rfl, rfl, _, _, rfl, rfl, kk⟩⟩
    · rw [lr] at h3
      refine ⟨u, D, _, _, rfl, rfl, s3 _ _ f2, h3, (by rw [List.length_map, List.length_range]; exact line_le (show 1 + v.length ≤ 200000 by omega)), fun z3 hz3 => ?_⟩
      generalize g4 : upd H3 z3 _ = H4
      obtain ⟨s4, f4⟩ := alloc g4 hz3
      have er : [V.int 0] ++ (List.range v.length).map (fun i => morP m L (i + 1)) = (List.range (v.length + 1)).map (morP m L) := by
        rw [List.range_succ_eq_map, List.map_cons, List.map_map]
        rfl
      rw [er] at f4
      have sA : Same H H4 := Same.trans s1 (Same.trans s2 (Same.trans s3 s4))
      obtain ⟨dy, ty, y1, y2⟩ := cx.same sA
      obtain ⟨RM, IM⟩ := mor_row (m := m) fx (by omega)
      refine ⟨_, rfl, a, C, dy, _, .int q, rfl, y1, U.cl, U.nP, rfl, _, rfl, a, C, dy, _, .int r, rfl, y1, U.cl, U.nG, rfl, z3, _, q, r, rfl, f4, IM CM.g0 CM.g1 (by omega), fun vals q2 r2 y H' fv l4 hy cu s' => ?_, fun vals q2 r2 fv l4 d H' rd => ?_⟩
      · obtain ⟨q', rfl, fg⟩ := form_g fv RM
        exact k vals q' r2 y H' fg l4 (sA.free hy) cu (Same.trans sA s')
      · exfalso
        have := formV_len fv
        rw [List.length_map, List.length_range] at this
        omega
end
end WW
end

section
set_option Elab.async false
set_option linter.all false
set_option maxRecDepth 100000
set_option maxHeartbeats 4000000
namespace WW
open PySem L2 WO WG RZ WQ WT
/-! ### texts of rows and forms fit -/
def SmallI (i : Int) : Prop := i.natAbs < 2 ^ 64
def SmallV (v : V) : Prop := v = .non ∨ ∃ i : Int, v = .int i ∧ SmallI i
theorem small_log {i : Int} (h : SmallI i) : i.natAbs.log2 < 64 := by
  rcases Nat.eq_zero_or_pos i.natAbs with z | z
  · rw [z]; decide
  · exact (Nat.log2_lt (by omega)).mpr h
theorem small_text {i : Int} (h : SmallI i) : (Str.ofString (toString i)).length ≤ 65 := by
  rw [ofString_length]
  exact int_text_length_le (by decide) (small_log h)
theorem shown_small {v : V} (h : SmallV v) : (PyData.shown (vD v)).length ≤ 65 ∧ (vD v).showable = true ∧ (vD v).hasDict = false := by
  rcases h with rfl | ⟨i, rfl, hi⟩
  · refine ⟨?_, ?_, ?_⟩
    · show (PyData.shown .none).length ≤ 65
      rw [PyData.shown.eq_1]
      decide
    · simp [vD, PyData.showable]
    · simp [vD, PyData.hasDict]
  · refine ⟨?_, ?_, ?_⟩
    · have e : PyData.shown (vD (.int i)) = Str.ofString (toString i) := by simp [vD, PyData.shown]
      rw [e]
      exact small_text hi
    · simp only [vD, PyData.showable, decide_eq_true_eq]
      have := small_log hi
      omega
    · simp [vD, PyData.hasDict]
theorem shownAll_small : ∀ vs : List V, (∀ v ∈ vs, SmallV v) → (∀ t ∈ PyData.shownAll (vs.map vD), t.length ≤ 65) ∧ (PyData.shownAll (vs.map vD)).length = vs.length ∧ PyData.showableAll (vs.map vD) = true ∧ PyData.hasDictAll (vs.map vD) = false
  | [], _ => by simp [PyData.shownAll, PyData.showableAll, PyData.hasDictAll]
  | v :: r, h => by
    obtain ⟨h1, h2, h3⟩ := shown_small (h v (List.mem_cons_self ..))
    obtain ⟨i1, i2, i3, i4⟩ := shownAll_small r fun x hx => h x (List.mem_cons_of_mem _ hx)
    simp only [List.map_cons, PyData.shownAll, PyData.showableAll, PyData.hasDictAll, List.length_cons]
    refine ⟨fun t ht => ?_, by rw [i2], by rw [h2, i3]; rfl, by rw [h3, i4]; rfl⟩
    rcases List.mem_cons.mp ht with rfl | ht
    · exact h1
    · exact i1 t ht
theorem join_len (sep : Str) : ∀ ts : List Str, (∀ t ∈ ts, t.length ≤ 65) → (Str.join sep ts).length ≤ ts.length * (65 + sep.length)
  | [], _ => by rw [Str.join.eq_1]; exact Nat.zero_le _
  | [a], h => by
    rw [Str.join.eq_2]
    have := h a (List.mem_cons_self ..)
    simp only [List.length_cons, List.length_nil]
    omega
  | a :: b :: r, h => by
    rw [Str.join.eq_3 _ _ _ (by intro z; cases z), Str.length_append, Str.length_append]
    have h1 := h a (List.mem_cons_self ..)
    have h2 := join_len sep (b :: r) fun t ht => h t (List.mem_cons_of_mem _ ht)
    rw [List.length_cons (a := a), Nat.succ_mul]
    omega
theorem tuple_len {ts : List Str} {n : Nat} (h : (Str.join (Str.ofString ", ") ts).length ≤ n) : (tupleText ts).length ≤ n + 3 := by
  unfold tupleText
  rw [Str.length_append, Str.length_append]
  have h1 : (Str.ofString "(").length = 1 := by decide
  have h2 : (Str.ofString (if (ts.length == 1) = true then ",)" else ")")).length ≤ 2 := by
    split
    · decide
    · decide
  omega
theorem text_len : ∀ (ts : List Str) (k : Nat) (acc : Str), (∀ t ∈ ts, t.length ≤ 65) → (textFrom k acc ts).length ≤ acc.length + 67 * ts.length
  | [], k, acc, _ => Nat.le_refl _
  | t :: r, k, acc, h => by
    have ih := text_len r (k + 1) (acc ++ (if k > 0 then ", " else "" : String) ++ t) fun x hx => h x (List.mem_cons_of_mem _ hx)
    have ht := h t (List.mem_cons_self ..)
    have hs : (Str.ofString (if k > 0 then ", " else "" : String)).length ≤ 2 := by
      split
      · decide
      · decide
    rw [Str.length_append, Str.length_append] at ih
    rw [List.length_cons]
    show (textFrom (k + 1) (acc ++ (if k > 0 then ", " else "" : String) ++ t) r).length ≤ _
    omega
theorem big_line {n : Nat} (h : n ≤ 16000000) : n ≤ sizeLine := Nat.le_trans h (by decide)
structure GoodD (d : PyData) : Prop where
  sh : d.showable = true
  dp : d.depth ≤ 60
  le : d.shown.length ≤ sizeLine
  hd : d.hasDict = false
theorem good_list {v : List V} (h : ∀ x ∈ v, SmallV x) (l : v.length ≤ 200000) : GoodD (.list (v.map vD)) := by
  obtain ⟨i1, i2, i3, i4⟩ := shownAll_small v h
  refine ⟨?_, ?_, ?_, ?_⟩
  · simp only [PyData.showable, i3]
  · simp [PyData.depth, depth_row]
  · have e : (PyData.list (v.map vD)).shown = listText (PyData.shownAll (v.map vD)) := by simp [PyData.shown]
    rw [e]
    unfold listText
    rw [Str.length_append]
    have q := text_len (PyData.shownAll (v.map vD)) 0 "[" i1
    have c1 : (Str.ofString "[").length = 1 := by decide
    have c2 : (Str.ofString "]").length = 1 := by decide
    rw [i2, c1] at q
    exact big_line (by omega)
  · simp only [PyData.hasDict, i4]
theorem good_tup {v : List V} (h : ∀ x ∈ v, SmallV x) (l : v.length ≤ 200000) : GoodD (.tuple (v.map vD)) := by
  obtain ⟨i1, i2, i3, i4⟩ := shownAll_small v h
  refine ⟨?_, ?_, ?_, ?_⟩
  · simp only [PyData.showable, i3]
  · simp [PyData.depth, depth_row]
  · have e : (PyData.tuple (v.map vD)).shown = tupleText (PyData.shownAll (v.map vD)) := by simp [PyData.shown]
    rw [e]
    have l1 : (tupleText (PyData.shownAll (v.map vD))).length ≤ v.length * 67 + 3 := by
      refine tuple_len (Nat.le_trans (join_len _ _ i1) ?_)
      rw [i2]
      have : (Str.ofString ", ").length = 2 := by decide
      rw [this]
      omega
    exact big_line (by omega)
  · simp only [PyData.hasDict, i4]
structure GoodC (v : List V) (q r : Int) : Prop where
  sh : (curD v q r).showable = true
  dp : (curD v q r).depth ≤ 60
  le : (curD v q r).shown.length ≤ sizeLine
  hd : (curD v q r).hasDict = false
theorem good_of {v : List V} {q r : Int} (h : ∀ x ∈ v, SmallV x) (l : v.length ≤ 200000) (hq : SmallI q) (hr : SmallI r) : GoodC v q r := by
  obtain ⟨i1, i2, i3, i4⟩ := shownAll_small v h
  obtain ⟨a1, a2, a3⟩ := shown_small (.inr ⟨q, rfl, hq⟩ : SmallV (.int q))
  obtain ⟨b1, b2, b3⟩ := shown_small (.inr ⟨r, rfl, hr⟩ : SmallV (.int r))
  refine ⟨?_, ?_, ?_, ?_⟩
  · simp only [curD, PyData.showable, PyData.showableAll, i3]
    simp only [vD, PyData.showable] at a2 b2
    rw [a2, b2]
    rfl
  · simp [curD, PyData.depth, PyData.depthAll, depth_row]
  · have e : (curD v q r).shown = tupleText [tupleText (PyData.shownAll (v.map vD)), PyData.shown (.int q), PyData.shown (.int r)] := by
      simp [curD, PyData.shown, PyData.shownAll]
    rw [e]
    have l1 : (tupleText (PyData.shownAll (v.map vD))).length ≤ v.length * 67 + 3 := by
      refine tuple_len (Nat.le_trans (join_len _ _ i1) ?_)
      rw [i2]
      have : (Str.ofString ", ").length = 2 := by decide
      rw [this]
      omega
    have l2 : (tupleText [tupleText (PyData.shownAll (v.map vD)), PyData.shown (.int q), PyData.shown (.int r)]).length ≤ v.length * 67 + 3 + 150 + 3 := by
      refine tuple_len ?_
      rw [Str.join.eq_3 _ _ _ (by intro z; cases z), Str.join.eq_3 _ _ _ (by intro z; cases z), Str.join.eq_2]
      simp only [Str.length_append]
      have c : (Str.ofString ", ").length = 2 := by decide
      have a1' : (PyData.shown (.int q)).length ≤ 65 := a1
      have b1' : (PyData.shown (.int r)).length ≤ 65 := b1
      omega
    exact big_line (by omega)
  · simp only [curD, PyData.hasDict, PyData.hasDictAll, i4]
    rfl
/-- the least form of a row of such numbers -/
theorem good_form {xs v : List V} {p : Nat} {g q r : Int} {L : Nat → V} (fi : FormIn xs p g) (R : RowF xs p g L) (fv : FormV xs p g v q r) (sm : ∀ j, j < xs.length → SmallV (L j)) : GoodC v q r := by
  cases fi with
  | mkI s p g p0 pn n4 g0 g1 =>
    generalize hx : s.map V.int = ys at fv R sm
    cases fv with
    | mkI s2 p g q r b p02 pn2 hf l =>
      have e : s = s2 := (List.map_inj_right fun a b h => V.int.inj h).mp hx
      subst e
      have QPf := MF.at_qp (s := s) (g := g) p0 pn
      have le := MF.form_le p0 g0 QPf hf
      have r0 : -(g + 1) ≤ r → r ≤ g → SmallI r := fun h1 h2 => by unfold SmallI; omega
      have e1 := MF.form_rise p0 QPf hf
      have rn : 0 ≤ r := by
        have h1 : (0 : Int) ≤ (p : Int) * r := by
          rw [e1]
          exact Int.mul_nonneg (by omega) g0
        rcases Int.lt_or_le r 0 with h | h
        · have h2 : (p : Int) * r ≤ (p : Int) * -1 := Int.mul_le_mul_of_nonneg_left (by omega) (by omega)
          omega
        · exact h
      refine good_of (fun x hx2 => ?_) (by rw [List.length_map, List.length_range]; omega) (by unfold SmallI; omega) (r0 (by omega) le.1)
      obtain ⟨j, hj, rfl⟩ := List.mem_map.mp hx2
      have hj2 := List.mem_range.mp hj
      have hjl : j < (s.map V.int).length := by rw [List.length_map]; omega
      have g1 := R.get hjl
      rw [get_map (p := p) (g := g) (by omega)] at g1
      have e3 := Option.some.inj g1
      rw [e3]
      exact sm j hjl
    | mkN s2 k p g =>
      have hm : V.non ∈ s.map V.int := by rw [hx]; simp
      obtain ⟨z, _, e⟩ := List.mem_map.mp hm
      cases e
  | mkN s k p g n4 =>
    generalize hx : s.map V.int ++ List.replicate (k + 1) V.non = ys at fv R sm
    cases fv with
    | mkI s2 p g q r b p02 pn2 hf l =>
      have hm : V.non ∈ s2.map V.int := by rw [← hx]; simp
      obtain ⟨z, _, e⟩ := List.mem_map.mp hm
      cases e
    | mkN s2 k2 p g =>
      have e := row_inj hx
      subst e
      refine good_of (fun x hx2 => ?_) (by rw [List.length_append, List.length_map]; show s.length + 1 ≤ _; omega) (by unfold SmallI; decide) (by unfold SmallI; decide)
      rcases List.mem_append.mp hx2 with h | h
      · obtain ⟨z, hz, rfl⟩ := List.mem_map.mp h
        obtain ⟨j, hj⟩ := List.getElem?_of_mem hz
        have hjs := (List.getElem?_eq_some_iff.mp hj).1
        have hjl : j < (s.map V.int ++ List.replicate (k2 + 1) V.non).length := by rw [List.length_append, List.length_map]; omega
        have g1 := R.get hjl
        rw [List.getElem?_append_left (by rw [List.length_map]; exact hjs), List.getElem?_map, hj] at g1
        have e3 := Option.some.inj g1
        rw [e3]
        exact sm j hjl
      · exact .inl (List.mem_singleton.mp h)
end WW
end

section
set_option Elab.async false
set_option linter.all false
set_option maxRecDepth 100000
set_option maxHeartbeats 4000000
/-! tuple * int, once or more often -/
namespace WM
open PySem PySem.Spec PyProof.Rows L2
theorem tuple_mul1 (l : Addr) (items : Array Value) (n : Nat) (dd : Option Addr) (sl : Array (Option Value)) (u : Tok) :
    Meets (Builtin.«tuple.__mul__» ⟨[.ref l, .int 1 u], []⟩) (fun _ R s => s.heap.get? l = some { cls := .type "tuple", dict := dd, data := .seq items n, slots := sl } ∧
      R (.ok (.ret (Value.ref l))) s) :=
  .of_wp fun prog w A R s h => by
    obtain ⟨hp, g, d, tk, os⟩ := s
    obtain ⟨hl, h⟩ := h
    have f1 := AutoSeq1.idx_int
    wp_walk using wpAny_loadPart' hl
    exact ⟨_, rfl, h⟩
def rRepA (K : PySem.W.Frag) : R2 := fun x y H Q => ∃ l k xs, x = .ref l ∧ y = .int k ∧ SqT K H l xs ∧ xs ≠ [] ∧ 1 ≤ k ∧ k ≤ 1000 ∧ xs.length ≤ 1000 ∧ ∀ p H', SqT K H' p (List.replicate k.toNat xs).flatten → (∀ b o, H b = some o → H' b = some o) → Q (.ref p) H'
section
variable {X : Cx}
theorem op_repA : OpR X (binaryOp .Mult) (rRepA X.K) := by
  intro pins s σ H x y v u Q I rx ry h
  obtain ⟨l, k, xs, rfl, rfl, hT, hne, h1, h2, hz, q⟩ := h
  by_cases hk : k = 1
  · subst hk
    cases rx
    obtain ⟨t, rfl⟩ := ry
    have e1 : (List.replicate (1 : Int).toNat xs).flatten = xs := by simp
    have hT' := hT
    obtain ⟨its, r, ⟨⟨cls, dd, data, sl⟩, ho, hc, n, hd⟩, hs⟩ := I.tuple hT
    simp only at hc hd
    subst hc hd
    refine wpAny_binaryOp_repeat_ref (T := "tuple") (U := "int") (by decide) ⟨_, ho, rfl⟩ (fun s' => typeIs_int s' 1 t) noFill_tuple_mul F.fills_int_mul F.slot_int_rmul repeat_tuple F.slot_int_index.lookup
      (call_meets F.slot_int_rmul (typeIs_int s 1 t) F.entry_int_rmul (F.args_int_rmul_2 _ _) (int_rmul_tuple 1 t l its.toArray n dd sl)
        ⟨ho, rfl, ⟨_, ho, rfl⟩, call_meets F.slot_tuple_mul ⟨_, ho, rfl⟩ F.entry_tuple_mul (F.args_tuple_mul_2 _ _) (tuple_mul1 l its.toArray n dd sl t) ⟨ho, ?_⟩⟩)
    exact ⟨.ref l, H, I, rfl, q l H (by rw [e1]; exact hT') fun _ _ z => z⟩
  · exact op_repT pins s σ H _ _ v u Q I rx ry ⟨l, k, xs, rfl, rfl, hT, hne, by omega, h2, hz, fun p hp => q p _ (.inl (.inl upd_same)) fun b o e => by rw [upd_ne (ne_of_none e hp)]; exact e⟩
end
end WM
end

section
set_option Elab.async false
set_option linter.all false
set_option maxRecDepth 100000
set_option maxHeartbeats 8000000
namespace WW
open PySem L2 WO WG RZ WQ WT WC
abbrev sLe2 : Stmt := top 70
abbrev sClo : Stmt := top 76
abbrev sSha : Stmt := top 78
abbrev sWho : Stmt := top 82
/-! ### values with and without end -/
def flV (x : V) : Prop := x = .non ∨ ∃ i : Int, x = .int i
def leV (x y : V) : Prop := ∀ k : Int, y = .int k → ∃ i : Int, x = .int i ∧ i ≤ k
def leB : V → V → Bool
  | .int i, .int k => decide (i ≤ k)
  | _, .int _ => false
  | _, _ => true
theorem leV.rfl' {x : V} : leV x x := fun k e => ⟨k, e, Int.le_refl _⟩
theorem leV.trans {x y z : V} (h : leV x y) (h' : leV y z) : leV x z := fun k e => by
  obtain ⟨i, e1, l1⟩ := h' k e
  obtain ⟨j, e2, l2⟩ := h i e1
  exact ⟨j, e2, Int.le_trans l2 l1⟩
theorem leB_iff {x y : V} (hx : flV x) (hy : flV y) : leB x y = true ↔ leV x y := by
  rcases hx with rfl | ⟨i, rfl⟩ <;> rcases hy with rfl | ⟨k, rfl⟩
  · exact ⟨fun _ => leV.rfl', fun _ => rfl⟩
  · exact ⟨fun z => absurd z Bool.false_ne_true, fun h => by obtain ⟨i, e, _⟩ := h k rfl; cases e⟩
  · exact ⟨fun _ k e => (by cases e), fun _ => rfl⟩
  · refine ⟨fun z k' e => ?_, fun h => ?_⟩
    · cases e
      exact ⟨i, rfl, of_decide_eq_true z⟩
    · obtain ⟨i', e, l⟩ := h k rfl
      cases e
      exact decide_eq_true l
theorem leV_total {x y : V} (hx : flV x) (hy : flV y) (h : ¬ leV x y) : leV y x := by
  rcases hx with rfl | ⟨i, rfl⟩ <;> rcases hy with rfl | ⟨k, rfl⟩
  · exact leV.rfl'
  · exact fun k e => by cases e
  · exact absurd (fun k e => by cases e) h
  · intro k' e
    cases e
    refine ⟨k, rfl, ?_⟩
    rcases Int.le_total k i with l | l
    · exact l
    · exact absurd (fun k' e => by cases e; exact ⟨i, rfl, l⟩) h
theorem plV_fl {x y : V} (hx : flV x) (hy : flV y) : flV (plV x y) := by
  rcases hx with rfl | ⟨i, rfl⟩ <;> rcases hy with rfl | ⟨k, rfl⟩
  · exact .inl rfl
  · exact .inl rfl
  · exact .inl rfl
  · exact .inr ⟨_, rfl⟩
theorem plV_int {x y : V} {k : Int} (h : plV x y = .int k) : ∃ i j, x = .int i ∧ y = .int j ∧ k = i + j := by
  unfold plV at h
  split at h
  · exact ⟨_, _, rfl, rfl, (V.int.inj h).symm⟩
  · cases h
theorem plV_le {x y x' y' : V} (h : leV x x') (h' : leV y y') : leV (plV x y) (plV x' y') := fun k e => by
  obtain ⟨i, j, rfl, rfl, rfl⟩ := plV_int e
  obtain ⟨i', rfl, l⟩ := h i rfl
  obtain ⟨j', rfl, l'⟩ := h' j rfl
  exact ⟨i' + j', rfl, by omega⟩
theorem plV_comm {x y : V} : plV x y = plV y x := by
  cases x <;> cases y <;> first | rfl | exact congrArg V.int (Int.add_comm _ _)
section
variable {P : Program} {w : World} {K : PySem.W.Frag} {mg : Str → Option Value} {base : Heap}
theorem scLe2 : FnScope ["one", "other"] ["one", "other"] (defScope sLe2) := ⟨rfl, rfl, rfl, by decide +kernel, rfl, by decide +kernel, by decide +kernel⟩
def spLe2 (K : PySem.W.Frag) : Sp := fun vs H Q _ => ∃ x y : V, vs = [x, y] ∧ flV x ∧ flV y ∧ Q (.bl (leB x y)) H
theorem ok_le2 {f : Addr} {fd : FuncData} (F : Fun K "_law_is_least" "_law_is_least" sLe2 f fd) : FnOk P w K mg base CX0 1 f fd ["one", "other"] (spLe2 K) := by
  refine F.ok scLe2 (fun vs H Q E h => ?_) (fun cdv A outer s H vs Q E hr h => ?_)
  · obtain ⟨x, y, rfl, _⟩ := h
    rfl
  · obtain ⟨x, y, rfl, hx, hy, k⟩ := h
    refine ⟨_, pss_one (ps_ret (pe_or (pe_cmpR op_isN (pv 1) pe_non (nomark _)) (pe_one (pe_and (pe_cmpR op_notN (pv 0) pe_non (nomark _)) (pe_one (pe_cmpR op_le (pv 0) (pv 1) (nomark _))))))), ?_⟩
    rcases hy with rfl | ⟨j, rfl⟩
    · rcases hx with rfl | ⟨i, rfl⟩
      · exact ⟨_, rfl, rfl, true, rfl, iteT k⟩
      · exact ⟨_, rfl, rfl, true, rfl, iteT k⟩
    · rcases hx with rfl | ⟨i, rfl⟩
      · exact ⟨_, rfl, rfl, false, rfl, iteF ⟨_, rfl, rfl, false, rfl, iteF k⟩⟩
      · exact ⟨_, rfl, rfl, false, rfl, iteF ⟨_, rfl, rfl, true, rfl, iteT ⟨_, rfl, _, rfl, _, _, rfl, rfl, k⟩⟩⟩
def spPl2 (K : PySem.W.Frag) : Sp := fun vs H Q _ => ∃ x y : V, vs = [x, y] ∧ flV x ∧ flV y ∧ Q (plV x y) H
theorem ok_pl2 {f : Addr} {fd : FuncData} (F : Fun K "_law_plus" "_law_plus" sPlu f fd) : FnOk P w K mg base CX0 1 f fd ["one", "other"] (spPl2 K) := by
  refine F.ok scPlu (fun vs H Q E h => ?_) (fun cdv A outer s H vs Q E hr h => ?_)
  · obtain ⟨x, y, rfl, _⟩ := h
    rfl
  · obtain ⟨x, y, rfl, hx, hy, k⟩ := h
    refine ⟨_, pss_one (ps_ret (pe_ifExp (PW.pt (pw_or (pt_cmpR op_isN (pv 0) pe_non (nomark _)) (pw_or1 (pt_cmpR op_isN (pv 1) pe_non (nomark _))))) pe_non (pe_op op_add (pv 0) (pv 1)))), ?_⟩
    rcases hx with rfl | ⟨i, rfl⟩
    · have e : plV .non y = .non := by unfold plV; split <;> first | rfl | (rename_i h; cases h)
      rw [e] at k
      exact ⟨_, rfl, rfl, true, rfl, iteT k⟩
    · rcases hy with rfl | ⟨j, rfl⟩
      · exact ⟨_, rfl, rfl, false, rfl, iteF ⟨_, rfl, rfl, true, rfl, iteT k⟩⟩
      · exact ⟨_, rfl, rfl, false, rfl, iteF ⟨_, rfl, rfl, false, rfl, iteF ⟨_, rfl, _, rfl, _, _, rfl, rfl, k⟩⟩⟩
end
/-! ### the closure -/
structure CloV (L c : Nat → V) (n : Nat) : Prop where
  z : c 0 = .int 0
  fl : ∀ t, flV (c t)
  low : ∀ t, 1 ≤ t → t < n → leV (c t) (L t)
  sum : ∀ t s, 1 ≤ s → s ≤ t / 2 → t < n → leV (c t) (plV (c s) (c (t - s)))
  is : ∀ t, 1 ≤ t → t < n → c t = L t ∨ ∃ s, 1 ≤ s ∧ s ≤ t / 2 ∧ c t = plV (c s) (c (t - s))
theorem plV_zero {x : V} (h : flV x) : plV (.int 0) x = x := by
  rcases h with rfl | ⟨i, rfl⟩
  · rfl
  · show V.int (0 + i) = _
    rw [Int.zero_add]
theorem CloV.add {L c : Nat → V} {n : Nat} (h : CloV L c n) {s t : Nat} (l : s + t < n) : leV (c (s + t)) (plV (c s) (c t)) := by
  by_cases c0 : s = 0
  · subst c0
    rw [Nat.zero_add, h.z, plV_zero (h.fl t)]
    exact leV.rfl'
  · by_cases c1 : t = 0
    · subst c1
      rw [Nat.add_zero, h.z, plV_comm, plV_zero (h.fl s)]
      exact leV.rfl'
    · rcases Nat.le_total s t with q | q
      · have := h.sum (s + t) s (by omega) (by omega) l
        rw [Nat.add_sub_cancel_left] at this
        exact this
      · have := h.sum (s + t) t (by omega) (by omega) l
        rw [Nat.add_sub_cancel, plV_comm] at this
        exact this
theorem CloV.up {L c : Nat → V} {n : Nat} (h : CloV L c n) (up : UpV L) : ∀ t, t < n → (∀ k, c t = .int k → 0 ≤ k) ∧ (t + 1 < n → leV (c t) (c (t + 1))) := by
  have pos : ∀ t, t < n → ∀ k, c t = .int k → 0 ≤ k := fun t => by
    induction t using Nat.strongRecOn with
    | ind t ih =>
      intro ht k e
      by_cases c0 : t = 0
      · subst c0
        rw [h.z] at e
        cases e
        exact Int.le_refl _
      · rcases h.is t (by omega) ht with q | ⟨s, s1, s2, q⟩
        · obtain ⟨k', e', h0, h1⟩ := up t t k (Nat.le_refl _) (q.symm.trans e)
          omega
        · obtain ⟨i, j, e1, e2, rfl⟩ := plV_int (q.symm.trans e)
          have := ih s (by omega) (by omega) i e1
          have := ih (t - s) (by omega) (by omega) j e2
          omega
  have mono : ∀ t, t + 1 < n → leV (c t) (c (t + 1)) := fun t => by
    induction t using Nat.strongRecOn with
    | ind t ih =>
      intro ht
      by_cases c0 : t = 0
      · subst c0
        intro k e
        exact ⟨0, h.z, pos 1 ht k e⟩
      · rcases h.is (t + 1) (by omega) ht with q | ⟨s, s1, s2, q⟩
        · rw [q]
          refine (h.low t (by omega) (by omega)).trans fun k e => ?_
          obtain ⟨k', e', h0, h1⟩ := up t (t + 1) k (by omega) e
          exact ⟨k', e', h1⟩
        · rw [q]
          have a := h.add (s := s) (t := t - s) (by omega)
          rw [show s + (t - s) = t by omega] at a
          refine a.trans (plV_le leV.rfl' ?_)
          have := ih (t - s) (by omega) (by omega)
          rw [show t - s + 1 = t + 1 - s by omega] at this
          exact this
  exact fun t ht => ⟨pos t ht, mono t⟩
section
variable {P : Program} {w : World} {K : PySem.W.Frag} {mg : Str → Option Value} {base : Heap}
abbrev nClo : List Str := ["sketch", "beats", "found", "t", "high", "s", "both_here"]
theorem scClo : FnScope nClo ["sketch", "beats"] (defScope sClo) := ⟨rfl, rfl, rfl, by decide +kernel, rfl, by decide +kernel, by decide +kernel⟩
def spClo (K : PySem.W.Frag) : Sp := fun vs H Q _ => ∃ (e a : Addr) (xs : List V) (p n : Nat) (g : Int) (L : Nat → V), vs = [.ref e, .int n] ∧ H e = some (.dK (skKvs a p g)) ∧ H a = some (.lst xs) ∧ RowF xs p g L ∧ 1 ≤ n ∧ n ≤ 900 ∧
  ∀ z cl H', H z = none → H' z = some (.lst cl) → cl.length = n → CloV L (fun j => cl.getD j .non) n → Same H H' → Q (.ref z) H'
theorem ok_clo {f : Addr} {fd : FuncData} (F : Fun K "_law_closure" "_law_closure" sClo f fd) (T : CurG mg) (c_at : Cal P w K mg base CX0 1 "_law_at" ["sketch", "beat"] (spAt K)) (c_pl2 : Cal P w K mg base CX0 1 "_law_plus" ["one", "other"] (spPl2 K)) (c_le2 : Cal P w K mg base CX0 1 "_law_is_least" ["one", "other"] (spLe2 K)) :
    FnOk P w K mg base CX0 2 f fd ["sketch", "beats"] (spClo K) := by
  refine F.ok scClo (fun vs H Q E h => ?_) (fun cdv A outer s H vs Q E hr h => ?_)
  · obtain ⟨e, a, xs, p, n, g, L, rfl, _⟩ := h
    rfl
  · obtain ⟨e, a, xs, p, n, g, L, rfl, he, ha, R, n1, n2, k⟩ := h
    refine ⟨_, (C8.pss_cut (ps_set (i := 2) scClo.nd rfl (Or.inl rfl) (pe_lst (pa_cons pe_int pa_nil)))
 (C8.pss_cut (ps_for PassesOwn.never rfl (pi_range2 (by rfl) T.range (pa_cons pe_int (pa_cons (pv 1) pa_nil))) (pg_name (i := 3) scClo.nd rfl (Or.inl rfl)) (C8.pss_cut (ps_set (i := 4) scClo.nd rfl (Or.inl rfl) (pe_callC c_at (hr.mono (by decide)) rfl pass0 (pa_cons (pv 0) (pa_cons (pv 3) pa_nil))))
 (C8.pss_cut (ps_for PassesOwn.never rfl (pi_range2 (by rfl) T.range (pa_cons pe_int (pa_cons (pe_op op_add (pe_op op_fdivN (pv 3) pe_int) pe_int) pa_nil))) (pg_name (i := 5) scClo.nd rfl (Or.inl rfl)) (C8.pss_cut (ps_set (i := 6) scClo.nd rfl (Or.inl rfl) (pe_callC c_pl2 (hr.mono (by decide)) rfl pass0 (pa_cons (pe_ix ix_list (pv 2) (pv 5) (fun _ _ => rfl)) (pa_cons (pe_ix ix_list (pv 2) (pe_op op_sub (pv 3) (pv 5)) (fun _ _ => rfl)) pa_nil))))
 (pss_one
 (ps_set (i := 4) scClo.nd rfl (Or.inl rfl) (pe_ifExp (pt_not (pt_val (pe_callC c_le2 (hr.mono (by decide)) rfl pass0 (pa_cons (pv 4) (pa_cons (pv 6) pa_nil))))) (pv 6) (pv 4))))))
 (pss_one
 (ps_expr (pe_bm PySem.F.plainAttrs_list PySem.F.slot_list_append PySem.F.type_list_append mt_append (pv 2) (pa_cons (pv 4) pa_nil)))))))
 (pss_one
 (ps_ret (pv 2))))), ?_⟩
    refine ⟨fun σ H' => ∃ S, σ = [some (.ref e), some (.int n), some (.ref S), none, none, none, none] ∧ H S = none ∧ H' S = some (.lst [.int 0]) ∧ Same H H', ?_, ?_⟩
    · exact ⟨(by show 1 ≤ sizeLine; decide), fun S hS => ⟨S, rfl, hS, upd_same, same_new hS⟩⟩
    rintro σ H1 ⟨S, rfl, hS, h1, s1⟩
    refine ⟨fun σ H' => ∃ cl : List V, (∃ v3 v4 v5 v6, σ = [some (.ref e), some (.int n), some (.ref S), v3, v4, v5, v6]) ∧ H' S = some (.lst cl) ∧ cl.length = n ∧ CloV L (fun j => cl.getD j .non) n ∧ Same H H', ?_, ?_⟩
    · refine ⟨_, rfl, 1, (n : Int), rfl, by omega, ?_⟩
      rw [show ((n : Int) - 1).toNat = n - 1 by omega]
      refine for_range (lo := 1) (n := n - 1) (fun i σ H' => ∃ cl : List V, (∃ v3 v4 v5 v6, σ = [some (.ref e), some (.int n), some (.ref S), v3, v4, v5, v6]) ∧ H' S = some (.lst cl) ∧ cl.length = i + 1 ∧ CloV L (fun j => cl.getD j .non) (i + 1) ∧ Same H H') ⟨[.int 0], ⟨_, _, _, _, rfl⟩, h1, rfl, ⟨rfl, fun t => ?_, fun t h1 h2 => by omega, fun t s h1 h2 h3 => by omega, fun t h1 h2 => by omega⟩, s1⟩ ?_ fun σ H' ⟨cl, e1, e2, l, q⟩ => ⟨cl, e1, e2, by omega, by rw [show n - 1 + 1 = n by omega] at q; exact q⟩
      · cases t with
        | zero => exact .inr ⟨0, rfl⟩
        | succ t => exact .inl rfl
      rintro i σ H2 hi ⟨cl, ⟨v3, v4, v5, v6, rfl⟩, h2, lc, cv, s2⟩
      have ei : (1 : Int) + (i : Int) = ((i + 1 : Nat) : Int) := by omega
      rw [ei]
      have flL : flV (L (i + 1)) := R.flat _
      refine ⟨fun σ H' => σ = [some (.ref e), some (.int n), some (.ref S), some (.int (i + 1 : Nat)), some (L (i + 1)), v5, v6] ∧ H' = H2, ?_, ?_⟩
      · exact ⟨_, rfl, _, rfl, e, a, xs, p, i + 1, g, L, rfl, s2 _ _ he, s2 _ _ ha, R, by omega, rfl, rfl⟩
      rintro σ H2 ⟨rfl, rfl⟩
      have gc : ∀ j, j < i + 1 → atI cl (j : Int) = some (cl.getD j .non) := fun j hj => atI_nat (by rw [List.getD_eq_getElem?_getD, List.getElem?_eq_getElem (by omega)]; rfl)
      refine ⟨fun σ H' => ∃ h : V, (∃ v5 v6, σ = [some (.ref e), some (.int n), some (.ref S), some (.int (i + 1 : Nat)), some (h), v5, v6]) ∧ H' = H2 ∧ flV h ∧ leV h (L (i + 1)) ∧ (∀ s, 1 ≤ s → s ≤ (i + 1) / 2 → leV h (plV (cl.getD s .non) (cl.getD (i + 1 - s) .non))) ∧ (h = L (i + 1) ∨ ∃ s, 1 ≤ s ∧ s ≤ (i + 1) / 2 ∧ h = plV (cl.getD s .non) (cl.getD (i + 1 - s) .non)), ?_, ?_⟩
      · have ed : Int.fdiv ((i + 1 : Nat) : Int) 2 = (((i + 1) / 2 : Nat) : Int) := by
          rw [Int.fdiv_eq_ediv_of_nonneg _ (by omega)]
          rfl
        refine ⟨_, rfl, _, _, rfl, rfl, ⟨by omega, by omega⟩, _, _, rfl, rfl, 1, (((i + 1) / 2 : Nat) : Int) + 1, ?_, by omega, ?_⟩
        · show [V.int 1, V.int (Int.fdiv ((i + 1 : Nat) : Int) 2 + 1)] = _
          rw [ed]
        rw [show ((((i + 1) / 2 : Nat) : Int) + 1 - 1).toNat = (i + 1) / 2 by omega]
        refine for_range (lo := 1) (n := (i + 1) / 2) (fun m σ H' => ∃ h : V, (∃ v5 v6, σ = [some (.ref e), some (.int n), some (.ref S), some (.int (i + 1 : Nat)), some (h), v5, v6]) ∧ H' = H2 ∧ flV h ∧ leV h (L (i + 1)) ∧ (∀ s, 1 ≤ s → s ≤ m → leV h (plV (cl.getD s .non) (cl.getD (i + 1 - s) .non))) ∧ (h = L (i + 1) ∨ ∃ s, 1 ≤ s ∧ s ≤ (i + 1) / 2 ∧ h = plV (cl.getD s .non) (cl.getD (i + 1 - s) .non))) ⟨_, ⟨_, _, rfl⟩, rfl, flL, leV.rfl', fun s h1 h2 => by omega, .inl rfl⟩ ?_ (fun σ H' q => q)
        rintro m σ H3 hm ⟨h, ⟨v5, v6, rfl⟩, rfl, fh, lo, su, iz⟩
        have em : (1 : Int) + (m : Int) = ((m + 1 : Nat) : Int) := by omega
        rw [em]
        have fb : flV (plV (cl.getD (m + 1) .non) (cl.getD (i + 1 - (m + 1)) .non)) := plV_fl (cv.fl _) (cv.fl _)
        refine ⟨fun σ H' => σ = [some (.ref e), some (.int n), some (.ref S), some (.int (i + 1 : Nat)), some (h), some (.int (m + 1 : Nat)), some (plV (cl.getD (m + 1) .non) (cl.getD (i + 1 - (m + 1)) .non))] ∧ H' = H3, ?_, ?_⟩
        · refine ⟨_, rfl, _, rfl, S, _, _, _, rfl, rfl, SqL.of h2, gc (m + 1) (by omega), _, rfl, _, rfl, _, rfl, _, _, rfl, rfl, S, _, _, cl.getD (i + 1 - (m + 1)) .non, rfl, rfl, SqL.of h2, ?_, _, _, rfl, cv.fl _, cv.fl _, rfl, rfl⟩
          show atI cl (((i + 1 : Nat) : Int) - ((m + 1 : Nat) : Int)) = _
          rw [show ((i + 1 : Nat) : Int) - ((m + 1 : Nat) : Int) = ((i + 1 - (m + 1) : Nat) : Int) by omega]
          exact gc _ (by omega)
        rintro σ H3 ⟨rfl, rfl⟩
        generalize hb : plV (cl.getD (m + 1) .non) (cl.getD (i + 1 - (m + 1)) .non) = b at *
        refine ⟨_, rfl, _, rfl, _, _, rfl, fh, fb, _, rfl, ?_⟩
        cases q : leB h b with
        | true =>
          have q := (leB_iff fh fb).mp q
          refine iteF ⟨_, rfl, h, ⟨_, _, rfl⟩, rfl, fh, lo, fun s s1 s2 => ?_, iz⟩
          by_cases c : s = m + 1
          · subst c
            rw [hb]
            exact q
          · exact su s s1 (by omega)
        | false =>
          have q : ¬ leV h b := fun z => by rw [(leB_iff fh fb).mpr z] at q; cases q
          have q2 := leV_total fh fb q
          refine iteT ⟨_, rfl, b, ⟨_, _, rfl⟩, rfl, fb, q2.trans lo, fun s s1 s2 => ?_, .inr ⟨m + 1, by omega, by omega, hb.symm⟩⟩
          by_cases c : s = m + 1
          · subst c
            rw [hb]
            exact leV.rfl'
          · exact q2.trans (su s s1 (by omega))
      rintro σ H2 ⟨h, ⟨v5, v6, rfl⟩, rfl, fh, lo, su, iz⟩
      refine ⟨_, rfl, .inl ⟨rfl, _, SqL.of h2⟩, _, rfl, S, _, _, rfl, rfl, h2, ?_, cl ++ [h], ⟨_, _, _, _, rfl⟩, upd_same, by rw [List.length_append, lc]; rfl, ?_, LM.sPut hS s2⟩
      · rw [lc]
        exact small1001 (by omega)
      · have g1 : ∀ j, j < i + 1 → (cl ++ [h]).getD j .non = cl.getD j .non := fun j hj => by
          rw [List.getD_eq_getElem?_getD, List.getD_eq_getElem?_getD, List.getElem?_append_left (by omega)]
        have g2 : (cl ++ [h]).getD (i + 1) .non = h := by
          rw [List.getD_eq_getElem?_getD, List.getElem?_append_right (by omega), lc, Nat.sub_self]
          rfl
        refine ⟨by rw [g1 0 (by omega)]; exact cv.z, fun t => ?_, fun t t1 t2 => ?_, fun t s s1 s2 t2 => ?_, fun t t1 t2 => ?_⟩
        · rcases Nat.lt_trichotomy t (i + 1) with c | rfl | c
          · rw [g1 t c]
            exact cv.fl t
          · rw [g2]
            exact fh
          · rw [List.getD_eq_getElem?_getD, List.getElem?_eq_none (by rw [List.length_append, lc]; show i + 1 + 1 ≤ t; omega)]
            exact .inl rfl
        · by_cases c : t = i + 1
          · subst c
            rw [g2]
            exact lo
          · rw [g1 t (by omega)]
            exact cv.low t t1 (by omega)
        · by_cases c : t = i + 1
          · subst c
            rw [g2, g1 s (by omega), g1 (i + 1 - s) (by omega)]
            exact su s s1 s2
          · rw [g1 t (by omega), g1 s (by omega), g1 (t - s) (by omega)]
            exact cv.sum t s s1 s2 (by omega)
        · by_cases c : t = i + 1
          · subst c
            rw [g2]
            rcases iz with q | ⟨s, s1, s2, q⟩
            · exact .inl q
            · exact .inr ⟨s, s1, s2, by rw [g1 s (by omega), g1 (i + 1 - s) (by omega)]; exact q⟩
          · rw [g1 t (by omega)]
            rcases cv.is t t1 (by omega) with q | ⟨s, s1, s2, q⟩
            · exact .inl q
            · exact .inr ⟨s, s1, s2, by rw [g1 s (by omega), g1 (t - s) (by omega)]; exact q⟩
    rintro σ H3 ⟨cl, ⟨v3, v4, v5, v6, rfl⟩, h3, lc, cv, s3⟩
    exact ⟨_, rfl, k S cl H3 hS h3 lc cv s3⟩
abbrev nSha : List Str := ["came_here", "promise_here", "found", "t", "some", "s", "item"]
theorem scSha : FnScope nSha ["came_here", "promise_here"] (defScope sSha) := ⟨rfl, rfl, rfl, by decide +kernel, rfl, by decide +kernel, by decide +kernel⟩
def spSha (K : PySem.W.Frag) : Sp := fun vs H Q _ => ∃ (b u : Addr) (cs : List Int) (cl : List V), vs = [.ref b, .ref u] ∧ SqT K H b (cs.map V.int) ∧ H u = some (.lst cl) ∧ cs.length ≤ cl.length ∧ cl.getD 0 .non = .int 0 ∧ (∀ j, flV (cl.getD j .non)) ∧ 1 ≤ cs.length ∧ cs.length ≤ 900 ∧
  ∀ z ms H', H z = none → H' z = some (.tup (ms.map V.int)) → LgL cs (fun j => cl.getD j .non) ms → Same H H' → Q (.ref z) H'
theorem ok_sha {f : Addr} {fd : FuncData} (F : Fun K "_law_shaped" "_law_shaped" sSha f fd) (T : CurG mg) (c_pl2 : Cal P w K mg base CX0 1 "_law_plus" ["one", "other"] (spPl2 K)) :
    FnOk P w K mg base CX0 2 f fd ["came_here", "promise_here"] (spSha K) := by
  refine F.ok scSha (fun vs H Q E h => ?_) (fun cdv A outer s H vs Q E hr h => ?_)
  · obtain ⟨b, u, cs, cl, rfl, _⟩ := h
    rfl
  · obtain ⟨b, u0, cs, cl, rfl, hb, hcl, lcl, z0, fl, c1, c2, k⟩ := h
    refine ⟨_, (C8.pss_cut (ps_set (i := 2) scSha.nd rfl (Or.inl rfl) (pe_lst pa_nil))
 (C8.pss_cut (ps_for PassesOwn.never rfl (pi_range1 rfl T.range (pa_cons (pe_callB call_len_seq (by rfl) T.len PySem.boot_len (pa_cons (pv 0) pa_nil)) pa_nil)) (pg_name (i := 3) scSha.nd rfl (Or.inr rfl)) (C8.pss_cut (ps_setLc (i := 4) (own := [("s", 5)]) (g := (gName 5)) (tt := tYes) rfl scSha.nd rfl rfl (sw_true rfl rfl rfl (by decide +kernel)) (pi_range1 rfl T.range (pa_cons (pe_op op_add (pv 3) pe_int) pa_nil)) (blkOk_by (N := nSha) (sc := defScope sSha) (by decide +kernel)) (fun _ _ _ _ _ => (pg_name (i := 5) scSha.nd rfl (Or.inl rfl))) (fun _ _ _ _ _ => pts_nil) (fun _ _ _ _ _ => (pe_callC c_pl2 (hr.mono (by decide)) rfl pass0 (pa_cons (pe_ix (r := rIxT K) ix_tup (pv 0) (pv 5) (fun _ _ => rfl)) (pa_cons (pe_ix (r := rIxL K) ix_list (pv 1) (pe_op op_sub (pv 3) (pv 5)) (fun _ _ => rfl)) pa_nil)))))
 (pss_one
 (ps_expr (pe_bm PySem.F.plainAttrs_list PySem.F.slot_list_append PySem.F.type_list_append mt_append (pv 2) (pa_cons (pe_callB (cr_min rfl) (by rfl) T.min (by decide +kernel) (pa_cons (pe_lc (own := [("item", 6)]) (g := (gName 6)) rfl scSha.nd (pi_list (pv 4)) (blkOk_by (N := nSha) (sc := defScope sSha) (by decide +kernel)) (fun _ _ _ _ _ => (pg_name (i := 6) scSha.nd rfl (Or.inl rfl))) (fun _ _ _ _ _ => pts_one (pt_cmpR op_notN (pv 6) pe_non (nomark _))) (fun _ _ _ _ _ => (pv 6))) pa_nil)) pa_nil))))))
 (pss_one
 (ps_ret (pe_callTy call_tuple_of (by rfl) T.tuple (by decide +kernel) (pa_cons (pv 2) pa_nil)))))), ?_⟩
    have lcm : (cs.map V.int).length = cs.length := List.length_map ..
    generalize hG : (fun j => cl.getD j .non) = G at *
    have gG : ∀ j, cl.getD j .non = G j := fun j => by rw [← hG]
    have fl' : ∀ j, G j = .non ∨ ∃ k : Int, G j = .int k := fun j => by rw [← gG]; exact fl j
    have z0' : G 0 = .int 0 := by rw [← gG]; exact z0
    have gc : ∀ j, j < cs.length → atI cl (j : Int) = some (G j) := fun j hj => atI_nat (by rw [← gG, List.getD_eq_getElem?_getD, List.getElem?_eq_getElem (by omega)]; rfl)
    refine ⟨fun σ H' => ∃ S, σ = [some (.ref b), some (.ref u0), some (.ref S), none, none, none, none] ∧ H S = none ∧ H' S = some (.lst []) ∧ Same H H', ?_, ?_⟩
    · exact ⟨(by show 0 ≤ sizeLine; decide), fun S hS => ⟨S, rfl, hS, upd_same, same_new hS⟩⟩
    rintro σ H1 ⟨S, rfl, hS, h1, s1⟩
    refine ⟨fun σ H' => ∃ ms : List Int, (∃ v3 v4, σ = [some (.ref b), some (.ref u0), some (.ref S), v3, v4, none, none]) ∧ H' S = some (.lst (ms.map V.int)) ∧ LgL cs G ms ∧ Same H H', ?_, ?_⟩
    · refine ⟨_, rfl, b, _, rfl, .inr (SqT.ext hb s1), (cs.map V.int).length, rfl, by omega, by omega, for_range (lo := 0) (n := (cs.map V.int).length) (fun i σ H' => ∃ ms : List Int, (∃ v3 v4, σ = [some (.ref b), some (.ref u0), some (.ref S), v3, v4, none, none]) ∧ H' S = some (.lst (ms.map V.int)) ∧ ms.length = i ∧ (∀ t m, ms[t]? = some m → Lg cs G t m) ∧ Same H H') ⟨[], ⟨_, _, rfl⟩, h1, rfl, fun t m hm => (by cases hm), s1⟩ ?_ (fun σ H' ⟨ms, e, hh, l, lg, s⟩ => ⟨ms, e, hh, ⟨by rw [l, lcm], lg⟩, s⟩)⟩
      rintro i σ H3 hi ⟨ms, ⟨v3, v4, rfl⟩, h3, lm, lg, s3⟩
      rw [lcm] at hi
      have ei : (0 : Int) + (i : Int) = (i : Int) := by omega
      rw [ei]
      refine ⟨fun σ H' => ∃ u, σ = [some (.ref b), some (.ref u0), some (.ref S), some (.int (i : Nat)), some (.ref u), none, none] ∧ H' u = some (.lst ((List.range (i + 1)).map fun s => plV (.int (cs.getD s 0)) (G (i - s)))) ∧ Same H3 H', ?_, ?_⟩
      · refine ⟨_, rfl, _, _, rfl, rfl, ((i + 1 : Nat) : Int), rfl, by omega, by omega, fun u hu => LM.lcM (walk_range (lo := 0) (n := (((i + 1 : Nat) : Int)).toNat)) (fun s => plV (.int (cs.getD s 0)) (G (i - s))) hu (by omega) (fun _ _ => trivial) ?_ fun H4 h4 s4 => ⟨u, rfl, h4, s4⟩⟩
        rintro j v H4 H5 hj s4 ⟨rfl, rfl⟩ R' N kk
        have hj : j < i + 1 := hj
        have s04 := Same.trans s3 s4
        refine ⟨rfl, _, rfl, _, rfl, b, _, _, .int (cs.getD j 0), rfl, rfl, SqT.ext hb s04, ?_, _, rfl, _, rfl, _, rfl, _, _, rfl, rfl, u0, _, _, G (i - j), rfl, rfl, SqL.of (s04 _ _ hcl), ?_, _, _, rfl, .inr ⟨_, rfl⟩, fl' _, kk _ (Same.refl _)⟩
        · show atI _ ((0 : Int) + (j : Int)) = _
          rw [show (0 : Int) + (j : Int) = (j : Int) by omega]
          exact atI_nat (getD_map (by omega))
        · show atI _ ((i : Int) - ((0 : Int) + (j : Int))) = _
          rw [show (i : Int) - ((0 : Int) + (j : Int)) = ((i - j : Nat) : Int) by omega]
          exact gc _ (by omega)
      rintro σ H4 ⟨u, rfl, h4, s4⟩
      have s04 := Same.trans s3 s4
      refine ⟨_, rfl, .inl ⟨rfl, _, SqL.of (s4 _ _ h3)⟩, _, rfl, u, rfl, ⟨_, SqL.of h4⟩, fun D hD => LM.lcF (walk_list (xs := (List.range (i + 1)).map fun s => plV (.int (cs.getD s 0)) (G (i - s)))) (fun s => !decide (plV (.int (cs.getD s 0)) (G (i - s)) = .non)) (fun s => plV (.int (cs.getD s 0)) (G (i - s))) hD (by rw [List.length_map, List.length_range]; omega) (fun H5 s5 => SqL.of (s5 _ _ h4)) ?_ fun H5 h5 s5 => ?_⟩
      · rintro j y H5 H6 hj s5 ⟨rfl, hy⟩ R' N kk kn
        rw [List.length_map, List.length_range] at hj
        rw [List.getElem?_map, List.getElem?_range hj] at hy
        cases hy
        cases c : (!decide (plV (.int (cs.getD j 0)) (G (i - j)) = .non)) with
        | true => exact ⟨rfl, _, rfl, rfl, true, by rw [c], iteT ⟨_, rfl, kk c _ (Same.refl _)⟩⟩
        | false => exact ⟨rfl, _, rfl, rfl, false, by rw [c], iteF (kn c _ (Same.refl _))⟩
      · rw [List.length_map, List.length_range, ← lgN_ok fl'] at h5
        have s35 := Same.trans s4 s5
        refine ⟨D, _, rfl, SqL.of h5, lgN_pos z0', fun z hz hle => ⟨S, _, _, rfl, rfl, s35 _ _ h3, by rw [List.length_map, lm]; exact small1001 (by omega), ?_⟩⟩
        have lz := lgN_lg fl' hz hle
        refine ⟨ms ++ [z], ⟨_, _, rfl⟩, by rw [List.map_append]; exact upd_same, by rw [List.length_append, lm]; rfl, fun t m hm => ?_, LM.sPut hS (Same.trans s3 s35)⟩
        by_cases c : t < ms.length
        · rw [List.getElem?_append_left c] at hm
          exact lg t m hm
        · rw [List.getElem?_append_right (by omega)] at hm
          have e : t - ms.length = 0 := by
            have := (List.getElem?_eq_some_iff.mp hm).1
            simp only [List.length_cons, List.length_nil] at this
            omega
          rw [e] at hm
          cases hm
          rw [show t = i by omega]
          exact lz
    rintro σ H3 ⟨ms, ⟨v3, v4, rfl⟩, h3, lg, s3⟩
    exact ⟨_, rfl, S, _, rfl, .inl ⟨SqL.of h3, fun y hy => k y ms _ (s3.free hy) upd_same lg (Same.trans s3 (same_new hy))⟩⟩
abbrev nWho : List Str := ["row_here", "sizes_here", "sums_here", "many", "number", "one"]
theorem scWho : FnScope nWho ["row_here", "sizes_here"] (defScope sWho) := ⟨rfl, rfl, rfl, by decide +kernel, rfl, by decide +kernel, by decide +kernel⟩
def spWho (K : PySem.W.Frag) : Sp := fun vs H Q _ => ∃ (a b : Addr) (ns zs : List Int), vs = [.ref a, .ref b] ∧ SqT K H a (ns.map V.int) ∧ H b = some (.lst (zs.map V.int)) ∧ (∀ n ∈ ns, 0 ≤ n) ∧ ns.length ≤ 1001 ∧ zs.length ≤ 400 ∧
  ∀ ws z H', H z = none → H' z = some (.tup (ws.map V.int)) → WhL zs ns ws → Same H H' → Q (.ref z) H'
/-- the ends up to a number -/
def ups (zs : List Int) (n : Int) : List Int := ((List.range (zs.length + 1)).filter fun j => decide (en zs j ≤ n)).map (en zs)
theorem ups_wh {zs : List Int} {n v : Int} (h : v ∈ ups zs n) (hl : ∀ y ∈ ups zs n, y ≤ v) : IsWh zs n v := by
  obtain ⟨j, hj, rfl⟩ := List.mem_map.mp h
  obtain ⟨h1, h2⟩ := List.mem_filter.mp hj
  have h1 := List.mem_range.mp h1
  refine ⟨⟨j, by omega, rfl⟩, of_decide_eq_true h2, fun i hi le => hl _ (List.mem_map.mpr ⟨i, List.mem_filter.mpr ⟨List.mem_range.mpr (by omega), decide_eq_true le⟩, rfl⟩)⟩
noncomputable def whF (zs : List Int) (n : Int) : Int := Classical.epsilon fun v => IsWh zs n v
theorem whF_is {zs : List Int} {n v : Int} (h : IsWh zs n v) : whF zs n = v := (Classical.epsilon_spec (p := fun v => IsWh zs n v) ⟨v, h⟩).uniq h
/-- the greatest of some -/
theorem max_ex : ∀ {l : List Int}, 0 < l.length → ∃ m, m ∈ l ∧ ∀ y ∈ l, y ≤ m
  | [a], _ => ⟨a, List.mem_singleton.mpr rfl, fun y hy => by rw [List.mem_singleton.mp hy]; exact Int.le_refl _⟩
  | a :: b :: r, _ => by
    obtain ⟨m, hm, hl⟩ := max_ex (l := b :: r) (Nat.succ_pos _)
    rcases Int.le_total a m with q | q
    · refine ⟨m, List.mem_cons_of_mem _ hm, fun y hy => ?_⟩
      rcases List.mem_cons.mp hy with rfl | hy
      · exact q
      · exact hl y hy
    · refine ⟨a, List.mem_cons_self .., fun y hy => ?_⟩
      rcases List.mem_cons.mp hy with rfl | hy
      · exact Int.le_refl _
      · exact Int.le_trans (hl y hy) q
theorem wh_ex {zs : List Int} {n : Int} (h : 0 ≤ n) : ∃ v, IsWh zs n v := by
  obtain ⟨m, hm, hl⟩ := max_ex (l := ups zs n) (List.length_pos_of_mem (a := en zs 0) (List.mem_map.mpr ⟨0, List.mem_filter.mpr ⟨List.mem_range.mpr (by omega), decide_eq_true h⟩, rfl⟩))
  exact ⟨m, ups_wh hm hl⟩
theorem whL_of {zs ns : List Int} (h : ∀ n ∈ ns, 0 ≤ n) : WhL zs ns (ns.map (whF zs)) := by
  refine ⟨List.length_map .., fun i n w hn hw => ?_⟩
  rw [List.getElem?_map, hn] at hw
  obtain rfl := Option.some.inj hw
  obtain ⟨v, hv⟩ := wh_ex (zs := zs) (h n (List.mem_of_getElem? hn))
  rw [whF_is hv]
  exact hv
theorem ok_who {f : Addr} {fd : FuncData} (F : Fun K "_law_whole" "_law_whole" sWho f fd) (T : CurG mg) (nmax : mg "max" = none) (nsum : mg "sum" = none) :
    FnOk P w K mg base CX0 1 f fd ["row_here", "sizes_here"] (spWho K) := by
  refine F.ok scWho (fun vs H Q E h => ?_) (fun cdv A outer s H vs Q E hr h => ?_)
  · obtain ⟨a, b, ns, zs, rfl, _⟩ := h
    rfl
  · obtain ⟨a, b, ns, zs, rfl, ha, hb, pos, ln, lz, k⟩ := h
    refine ⟨_, (C8.pss_cut (ps_set (i := 2) scWho.nd rfl (Or.inr rfl) (pe_lc (own := [("many", 3)]) (g := (gName 3)) (tt := tYes) rfl scWho.nd (pi_range1 rfl T.range (pa_cons (pe_op op_add (pe_callB call_len_seq (by rfl) T.len PySem.boot_len (pa_cons (pv 1) pa_nil)) pe_int) pa_nil)) (blkOk_by (N := nWho) (sc := defScope sWho) (by decide +kernel)) (fun _ _ _ _ _ => (pg_name (i := 3) scWho.nd rfl (Or.inl rfl))) (fun _ _ _ _ _ => pts_nil) (fun _ _ _ _ _ => (pe_callB (r := rSum K) (cr_sum rfl) (by rfl) nsum (by decide +kernel) (pa_cons (pe_slice (r := rSlL K) sl_list (pv 1) po_none (po_some (pv 3))) pa_nil)))))
 (pss_one
 (ps_ret (pe_callTy call_tuple_of (by rfl) T.tuple (by decide +kernel) (pa_cons (pe_lc (own := [("number", 4)]) (g := (gName 4)) (tt := tYes) rfl scWho.nd (pi_tup (pv 0)) (blkOk_by (N := nWho) (sc := defScope sWho) (by decide +kernel)) (fun _ _ _ _ _ => (pg_name (i := 4) scWho.nd rfl (Or.inr rfl))) (fun _ _ _ _ _ => pts_nil) (fun _ _ _ _ _ => (pe_callB (r := rMax K) (cr_max rfl) (by rfl) nmax (by decide +kernel) (pa_cons (pe_lc (wi := iList K (tVar 2)) (own := [("one", 5)]) (g := (gName 5)) rfl scWho.nd (pi_list (pv 2)) ⟨rfl, by decide +kernel, fun q hq => (by
            cases List.mem_singleton.mp hq
            rfl), fun y hy e => (by
            simp only [List.mem_cons, List.not_mem_nil, or_false] at hy
            rcases hy with rfl | rfl | rfl <;> first | exact .inl rfl | exact .inr rfl | cases e), fun y hy e => (by
            simp only [List.mem_cons, List.not_mem_nil, or_false] at hy
            rcases hy with rfl | rfl | rfl <;> first | exact .inl (by decide +kernel) | exact .inr (show _ ∉ nWho by decide +kernel) | (rcases e with e | e <;> cases e))⟩ (fun _ _ _ _ _ => (pg_name (i := 5) scWho.nd rfl (Or.inl rfl))) (fun _ _ _ _ _ => pts_one (pt_cmpR op_le (pv 5) (pv 4) (nomark _))) (fun _ _ _ _ _ => (pv 5))) pa_nil)))) pa_nil))))), ?_⟩
    have lzm : (zs.map V.int).length = zs.length := List.length_map ..
    refine ⟨fun σ H' => ∃ S, σ = [some (.ref a), some (.ref b), some (.ref S), none, none, none] ∧ H' S = some (.lst ((List.range (zs.length + 1)).map fun j => V.int (en zs j))) ∧ Same H H', ?_, ?_⟩
    · refine ⟨_, rfl, b, _, rfl, .inl (SqL.of hb), _, _, rfl, rfl, ((zs.length + 1 : Nat) : Int), ?_, by omega, by omega, fun D hD => LM.lcM (walk_range (lo := 0) (n := (((zs.length + 1 : Nat) : Int)).toNat)) (fun j => V.int (en zs j)) hD (by omega) (fun _ _ => trivial) ?_ fun H4 h4 s4 => ⟨D, rfl, h4, s4⟩⟩
      · rw [lzm]
        rfl
      rintro j v H4 H5 hj s4 ⟨rfl, rfl⟩ R' N kk
      have hj : j < zs.length + 1 := hj
      refine ⟨rfl, _, rfl, _, rfl, (0 : Int) + (j : Int), rfl, b, _, rfl, SqL.of (s4 _ _ hb), fun z hz => ?_⟩
      have ej : (0 : Int) + (j : Int) = (j : Int) := by omega
      generalize g5 : upd H5 z _ = H6
      obtain ⟨s5, f5⟩ := alloc g5 hz
      rw [ej, cutR', ← List.map_take] at f5
      exact ⟨z, _, rfl, SqL.of f5, kk _ s5⟩
    rintro σ H1 ⟨S, rfl, h1, s1⟩
    have lS : ((List.range (zs.length + 1)).map fun j => V.int (en zs j)).length = zs.length + 1 := by rw [List.length_map, List.length_range]
    refine ⟨_, rfl, a, rfl, ⟨_, SqT.ext ha s1⟩, fun D hD => LM.lcM (walk_tup (xs := ns.map V.int)) (fun i => V.int (whF zs (ns.getD i 0))) hD (by rw [List.length_map]; omega) (fun H2 s2 => SqT.ext (SqT.ext ha s1) s2) ?_ fun H2 h2 s2 => ?_⟩
    · rintro i v H2 H3 hi s2 ⟨rfl, hx⟩ R' N kk
      rw [List.length_map] at hi
      rw [List.getElem?_map] at hx
      obtain ⟨n, hn, rfl⟩ := Option.map_eq_some_iff.mp hx
      have kk := fun H4 s4 => kk H4 s4
      rw [show ns.getD i 0 = n from getD_of hn] at kk
      have n0 := pos n (List.mem_of_getElem? hn)
      refine ⟨rfl, _, rfl, S, rfl, ⟨_, SqL.of (s2 _ _ h1)⟩, fun D2 hD2 => LM.lcF (walk_list (xs := (List.range (zs.length + 1)).map fun j => V.int (en zs j))) (fun j => decide (en zs j ≤ n)) (fun j => V.int (en zs j)) hD2 (by rw [lS]; omega) (fun H5 s5 => SqL.of (s5 _ _ (s2 _ _ h1))) ?_ fun H5 h5 s5 => ?_⟩
      · rintro j y H5 H6 hj s5 ⟨rfl, hy⟩ R2 N2 k1 k2
        rw [lS] at hj
        rw [List.getElem?_map, List.getElem?_range hj] at hy
        obtain rfl := Option.some.inj hy
        cases c : decide (en zs j ≤ n) with
        | true => exact ⟨rfl, _, rfl, _, rfl, _, _, rfl, rfl, true, congrArg V.bl c, iteT ⟨_, rfl, k1 c _ (Same.refl _)⟩⟩
        | false => exact ⟨rfl, _, rfl, _, rfl, _, _, rfl, rfl, false, congrArg V.bl c, iteF (k2 c _ (Same.refl _))⟩
      · rw [lS] at h5
        have e5 : ((List.range (zs.length + 1)).filter fun j => decide (en zs j ≤ n)).map (fun j => V.int (en zs j)) = (ups zs n).map V.int := by unfold ups; rw [List.map_map]; rfl
        rw [e5] at h5
        refine ⟨D2, _, rfl, SqL.of h5, ?_, fun z hz hle => ?_⟩
        · refine List.length_pos_of_mem (a := en zs 0) (List.mem_map.mpr ⟨0, List.mem_filter.mpr ⟨List.mem_range.mpr (by omega), decide_eq_true n0⟩, rfl⟩)
        · have := kk _ s5
          rw [whF_is (ups_wh hz hle)] at this
          exact this
    · rw [List.length_map] at h2
      have e2 : (List.range ns.length).map (fun i => V.int (whF zs (ns.getD i 0))) = (ns.map (whF zs)).map V.int := by
        rw [map_getD (fun n => V.int (whF zs n)), List.map_map]
        rfl
      rw [e2] at h2
      exact ⟨D, _, rfl, .inl ⟨SqL.of h2, fun y hy => k (ns.map (whF zs)) y _ (s1.free (s2.free hy)) upd_same (whL_of pos) (Same.trans s1 (Same.trans s2 (same_new hy)))⟩⟩
abbrev sVri : Stmt := top 80
abbrev nVri : List Str := ["thing", "row_here"]
theorem scVri : FnScope nVri ["thing", "row_here"] (defScope sVri) := ⟨rfl, rfl, rfl, by decide +kernel, rfl, by decide +kernel, by decide +kernel⟩
def spVri (K : PySem.W.Frag) (C : Addr) : Sp := fun vs H Q _ => ∃ (x a : Addr) (n : Nat) (L : Nat → V), vs = [.ref x, .ref a] ∧ SvC H C x L ∧ H a = some (.lst ((List.range n).map L)) ∧ n ≤ 4000 ∧ (∀ j, j < n → SmallV (L j)) ∧ ∀ H', Same H H' → Q (.bl true) H'
theorem ok_vri {f fI fE C CB CN : Addr} {fd : FuncData} (F : Fun K "_law_values_right" "_law_values_right" sVri f fd) (T : CurG mg) (nrepr : mg "repr" = none) (U : CurT K mg C fI fE)
    (c_vls : Cal P w K mg base (L2.CX P w) 5 "values" ["curve", "beats"] (spValues K C CB CN)) : FnG P w K mg base CX0 6 f fd ["thing", "row_here"] (spVri K C) := by
  refine okG F scVri (fun vs H Q E h => ?_) (fun cdv A outer s H vs Q E hr hgu h => ?_)
  · obtain ⟨x, a, n, L, rfl, _⟩ := h
    rfl
  · obtain ⟨x, a, n, L, rfl, ⟨v, p, g, cx, R, CM, v0, v1⟩, ha, hn, sm, k⟩ := h
    have hu64 := hr.units
    refine ⟨_, (pss_one
 (ps_ret (pe_and (pe_callB call_isi (by rfl) T.isi (by decide +kernel) (pa_cons (pv 0) (pa_cons (pe_glob (v := .ref C) rfl U.mC rfl) pa_nil))) (pe_one (pe_cmpR op_eq (pe_callB (call_repr hgu hu64) (by rfl) nrepr (by decide +kernel) (pa_cons (pe_callC c_vls (hr.mono (by decide)) rfl passF (pa_cons (pv 0) (pa_cons (pe_callB call_len_seq (by rfl) T.len PySem.boot_len (pa_cons (pv 1) pa_nil)) pa_nil))) pa_nil)) (pe_callB (call_repr hgu hu64) (by rfl) nrepr (by decide +kernel) (pa_cons (pv 1) pa_nil)) (nomark _)))))), ?_⟩
    obtain ⟨dx, t, h1, h2⟩ := id cx
    have gd : GoodD (.list (((List.range n).map L).map vD)) := good_list (fun y hy => by
      obtain ⟨j, hj, rfl⟩ := List.mem_map.mp hy
      exact sm j (List.mem_range.mp hj)) (by rw [List.length_map, List.length_range]; omega)
    have fl : FlatR ((List.range n).map L) := flat_range R.flat n
    refine ⟨_, rfl, .ref x, .ref C, .ref C, .ref C, true, rfl, .own C, .base (.ins h1 U.cl U.cc U.cg U.ct U.co), U.kC, true, rfl, iteT ?_⟩
    refine ⟨_, rfl, _, rfl, a, _, rfl, .inl (SqL.of ha), .ref x, .int n, ?_, .inl ⟨x, v, p, n, g, L, rfl, rfl, cx, R, CM, v0, v1, hn, fun z H1 hz hz1 s1 => ?_⟩⟩
    · rw [List.length_map, List.length_range]
      rfl
    refine ⟨z, _, rfl, rdb_dp (.lst (SqL.of hz1) (dpAll_row _ fl)) gd.hd, gd.sh, gd.dp, gd.le, ?_⟩
    refine ⟨_, rfl, a, _, rfl, rdb_dp (.lst (SqL.of (s1 _ _ ha)) (dpAll_row _ fl)) gd.hd, gd.sh, gd.dp, gd.le, rfl, ?_⟩
    rw [decide_eq_true rfl]
    exact k H1 s1
end
end WW
end

section
set_option Elab.async false
set_option linter.all false
set_option maxRecDepth 100000
set_option maxHeartbeats 8000000
namespace WW
open PySem L2 WO WG RZ WQ WT WC
abbrev sFrm : Stmt := top 83
abbrev sIsf : Stmt := top 84
abbrev sFn2 : Stmt := top 73
abbrev sPar : Stmt := top 85
abbrev sMor : Stmt := top 86
def ones (m : Nat) : List Int := List.replicate m 1
theorem lowForm {f : Nat → Int} {b p t n : Nat} {g R : Int} (hp : 0 < p) (QP : MF.QP f p g b) (ht : 0 < t) (htp : t ≤ p) (hA : MF.A f b p t) (hmin : ∀ u, 0 < u → u < t → ¬ MF.A f b p u) (hR : R = f (b + t) - f b)
    {c : Nat} (hn : b + p = n) (tc : t ≤ c) (cn : c ≤ n) (hP : ∀ j, c - t ≤ j → j < n - t → f (j + t) = f j + R) (hlow : c = t ∨ f (c - 1) ≠ f (c - 1 - t) + R) : MF.IsForm f t R (c - t) := by
  have ds := hA.dp ht htp QP.dp
  have q := ds.qp
  rw [← hR] at q
  refine ⟨ht, fun j hj => ?_, MF.least_of hp QP.dp ht htp hmin, ?_⟩
  · by_cases l : j < n - t
    · exact hP j hj l
    · exact q j (by omega)
  · rcases hlow with h | h
    · exact .inl (by omega)
    · by_cases e : c = t
      · exact .inl (by omega)
      · refine .inr ?_
        have e1 : c - t - 1 + t = c - 1 := by omega
        have e2 : c - t - 1 = c - 1 - t := by omega
        rw [e1, e2]
        exact h
/-- right at one period's beats: right from there on -/
theorem step_all {f : Nat → Int} {b p t : Nat} {g m : Int} (p0 : 0 < p) (Q : MF.QP f p g b) (h : ∀ k, k < p → f (b + k + t) = f (b + k) + m) : MF.QP f t m b := fun j hj => by
  obtain ⟨kk, i, e, hi⟩ := MF.dec_add p0 hj
  have m1 := Q.mul (j := b + i) (by omega) kk
  have m2 := Q.mul (j := b + i + t) (by omega) kk
  have := h i hi
  rw [e, show b + i + kk * p + t = b + i + t + kk * p by omega, m1, m2, this]
  omega
section
variable {P : Program} {w : World} {K : PySem.W.Frag} {mg : Str → Option Value} {base : Heap}
abbrev nFrm : List Str := ["sketch", "row_here", "size", "step_here", "first", "fits", "k"]
theorem scFrm : FnScope nFrm ["sketch"] (defScope sFrm) := ⟨rfl, rfl, rfl, by decide +kernel, rfl, by decide +kernel, by decide +kernel⟩
def spFrm (K : PySem.W.Frag) : Sp := fun vs H Q _ => ∃ (e a : Addr) (xs : List V) (p : Nat) (g : Int), vs = [.ref e] ∧ H e = some (.dK (skKvs a p g)) ∧ H a = some (.lst xs) ∧ FormIn xs p g ∧ 0 < p ∧ p ≤ 1000 ∧ 0 < xs.length ∧ xs.length ≤ 5000 ∧ (0 ≤ g ∧ g ≤ 1000000000) ∧
  ∀ (vals : List V) (q r : Int) (t T : Addr) (H' : Hp), FormV xs p g vals q r → H' t = some (.tup vals) → H' T = some (.tup [.ref t, .int q, .int r]) → Same H H' → Q (.ref T) H'
theorem ok_frmL {f : Addr} {fd : FuncData} (F : Fun K "_law_form" "_law_form" sFrm f fd) (T : CurG mg) (c_at : Cal P w K mg base CX0 1 "_law_at" ["sketch", "beat"] (spAt K)) : FnOk P w K mg base CX0 2 f fd ["sketch"] (spFrm K) := by
  refine F.ok scFrm (fun vs H Q E h => ?_) (fun cdv A outer s H vs Q E hr h => ?_)
  · obtain ⟨e, a, xs, p, g, rfl, _⟩ := h
    rfl
  · obtain ⟨e, a, xs, p, g, rfl, he, ha, fi, p0, p1, n0, n1, ⟨g0, g1⟩, k⟩ := h
    have hu := hu_of hr
    have hu64 := hr.units
    refine ⟨_, (C8.pss_cut (ps_asg (pe_tup (pa_cons (pe_callTy call_list_of (by rfl) T.list (by decide +kernel) (pa_cons (pe_dget hu (pv 0) pe_str (fun _ _ => rfl)) pa_nil)) (pa_cons pe_int (pa_cons pe_int pa_nil)))) (pg_tup rfl (pgs_cons (pg_name (i := 1) scFrm.nd rfl (Or.inr rfl)) (pgs_cons (pg_name (i := 2) scFrm.nd rfl (Or.inr rfl)) (pgs_cons (pg_name (i := 3) scFrm.nd rfl (Or.inr rfl)) pgs_nil)))))
 (C8.pss_cut (ps_if (pt_cmpR op_isN (pe_ix ix_list (pv 1) (pe_un un_neg pe_int) (fun _ _ => rfl)) pe_non (nomark _)) (pss_one
 (ps_ret (pe_tup (pa_cons (pe_callTy call_tuple_of (by rfl) T.tuple (by decide +kernel) (pa_cons (pe_slice sl_list (pv 1) po_none (po_some (pe_op op_add (pe_bm PySem.F.plainAttrs_list PySem.F.slot_list_index PySem.F.type_list_index mt_index (pv 1) (pa_cons pe_non pa_nil)) pe_int))) pa_nil)) (pa_cons pe_int (pa_cons pe_int pa_nil)))))) pss_nil)
 (C8.pss_cut (ps_par (i := 4) (j := 5) (by rfl) scFrm.nd rfl rfl (by decide) rfl rfl (pa_cons (pe_op op_sub (pe_callB call_len_seq (by rfl) T.len PySem.boot_len (pa_cons (pv 1) pa_nil)) (pe_dget hu (pv 0) pe_str (fun _ _ => rfl))) (pa_cons pe_bl pa_nil)) (by rfl))
 (C8.pss_cut (ps_while PassesOwn.never (pt_not (pt_val (pv 5))) (C8.pss_cut (ps_set (i := 2) scFrm.nd rfl (Or.inr rfl) (pe_op op_add (pv 2) pe_int))
 (C8.pss_cut (ps_set (i := 3) scFrm.nd rfl (Or.inr rfl) (pe_op op_fdivN (pe_op op_mul (pe_dget hu (pv 0) pe_str (fun _ _ => rfl)) (pv 2)) (pe_dget hu (pv 0) pe_str (fun _ _ => rfl))))
 (pss_one
 (ps_if (PW.pt (pw_and (pt_cmpR op_eq (pe_op op_modN (pe_callTy call_int1 (by rfl) T.int (by decide +kernel) (pa_cons (pe_dget hu (pv 0) pe_str (fun _ _ => rfl)) pa_nil)) (pv 2)) pe_int (nomark _)) (pw_and1 (pt_cmpR op_eq (pe_op op_mul (pv 3) (pe_dget hu (pv 0) pe_str (fun _ _ => rfl))) (pe_op op_mul (pe_dget hu (pv 0) pe_str (fun _ _ => rfl)) (pv 2)) (nomark _))))) (pss_one
 (ps_set (i := 5) scFrm.nd rfl (Or.inl rfl) (pe_cmpR (op_eqD hu64) (pe_lc (own := [("k", 6)]) (g := (gName 6)) rfl scFrm.nd (pi_range2 (by rfl) T.range (pa_cons (pv 4) (pa_cons (pe_callB call_len_seq (by rfl) T.len PySem.boot_len (pa_cons (pv 1) pa_nil)) pa_nil))) (blkOk_by (N := nFrm) (sc := defScope sFrm) (by decide +kernel)) (fun _ _ _ _ _ => (pg_name (i := 6) scFrm.nd rfl (Or.inl rfl))) (fun _ _ _ _ _ => pts_one (pt_cmpR op_ne (pe_callC c_at (hr.mono (by decide)) rfl pass0 (pa_cons (pv 0) (pa_cons (pe_op op_add (pv 6) (pv 2)) pa_nil))) (pe_op op_add (pe_ix (r := rIxL K) ix_list (pv 1) (pv 6) (fun _ _ => rfl)) (pv 3)) (nomark _))) (fun _ _ _ _ _ => pe_int)) (pe_lst pa_nil) (nomark _)))) pss_nil)))))
 (C8.pss_cut (ps_while PassesOwn.never (PW.pt (pw_and (pt_cmpR op_gt (pe_callB call_len_seq (by rfl) T.len PySem.boot_len (pa_cons (pv 1) pa_nil)) (pv 2) (nomark _)) (pw_and1 (pt_cmpR op_eq (pe_ix ix_list (pv 1) (pe_un un_neg pe_int) (fun _ _ => rfl)) (pe_op op_add (pe_ix ix_list (pv 1) (pe_op op_sub (pe_un un_neg pe_int) (pv 2)) (fun _ _ => rfl)) (pv 3)) (nomark _))))) (pss_one
 (ps_expr (pe_bm0 PySem.F.plainAttrs_list PySem.F.slot_list_pop PySem.F.type_list_pop mt_pop (pv 1)))))
 (pss_one
 (ps_ret (pe_tup (pa_cons (pe_callTy call_tuple_of (by rfl) T.tuple (by decide +kernel) (pa_cons (pv 1) pa_nil)) (pa_cons (pv 2) (pa_cons (pv 3) pa_nil))))))))))), ?_⟩
    refine ⟨fun σ H' => ∃ z, σ = [some (.ref e), some (.ref z), some (.int (0 : Nat)), some (.int 0), none, none, none] ∧ H z = none ∧ H' z = some (.lst xs) ∧ Same H H', ?_, ?_⟩
    · refine ⟨_, rfl, e, _, rfl, sk_start he, a, _, rfl, .inl (SqL.of ha), fun z hz => ?_⟩
      generalize g1 : upd H z _ = H1
      obtain ⟨s1, f1⟩ := alloc g1 hz
      refine ⟨(by show 3 ≤ sizeLine; decide), fun t ht => ?_⟩
      exact ⟨t, [_, _, _], rfl, SqT.of upd_same, rfl, _, _, rfl, _, _, rfl, _, _, rfl, rfl, z, rfl, hz, same_new ht _ _ f1, Same.trans s1 (same_new ht)⟩
    rintro σ H1 ⟨z, rfl, hz, h1, s1⟩
    cases fi with
    | mkN s k' p g n4 =>
      have lx : (s.map V.int ++ List.replicate (k' + 1) V.non).length = s.length + (k' + 1) := by rw [List.length_append, List.length_map, List.length_replicate]
      have fl : (s.map V.int ++ List.replicate (k' + 1) V.non).all flatV = true := by
        rw [List.all_eq_true]
        intro x hx
        rcases List.mem_append.mp hx with hx | hx
        · obtain ⟨z, _, rfl⟩ := List.mem_map.mp hx
          rfl
        · rw [(List.mem_replicate.mp hx).2]
          rfl
      have tk : (s.map V.int ++ List.replicate (k' + 1) V.non).take (s.length + 1) = s.map V.int ++ [.non] := by
        rw [List.take_append, List.length_map, show s.length + 1 - s.length = 1 by omega, List.take_of_length_le (by rw [List.length_map]; omega)]
        rfl
      refine ⟨fun _ _ => False, ?_, fun _ _ z => z.elim⟩
      refine ⟨_, rfl, 1, rfl, z, _, _, .non, rfl, rfl, SqL.of h1, last_get (nones_get _ (by rw [lx]; omega) (by rw [lx]; omega)), rfl, true, rfl, iteT ?_⟩
      refine ⟨_, rfl, _, rfl, .inl ⟨rfl, _, SqL.of h1⟩, z, _, .non, s.length, .non, rfl, rfl, SqL.of h1, rfl, fl, nones_get _ (Nat.le_refl _) (by omega), rfl, fun m z' hm hz => ?_, _, _, rfl, rfl, ((s.length + 1 : Nat) : Int), rfl, z, _, rfl, SqL.of h1, fun t ht => ?_⟩
      · obtain ⟨z, hz2⟩ := ints_get (s := s) (r := List.replicate (k' + 1) V.non) m hm
        rw [hz2] at hz
        cases hz
        rfl
      rw [cutR (by rw [lx]; omega), tk]
      generalize g3 : upd H1 t _ = H3
      obtain ⟨s3, f3⟩ := alloc g3 ht
      refine ⟨t, _, rfl, .inl ⟨SqL.of f3, fun l hl => ?_⟩⟩
      generalize g4 : upd H3 l _ = H4
      obtain ⟨s4, f4⟩ := alloc g4 hl
      refine ⟨(by show 3 ≤ sizeLine; decide), fun T hT => ?_⟩
      generalize g5 : upd H4 T _ = H5
      obtain ⟨s5, f5⟩ := alloc g5 hT
      exact k _ _ _ l T H5 (FormV.mkN s k' p g) (s5 _ _ f4) f5 (Same.trans s1 (Same.trans s3 (Same.trans s4 s5)))
    | mkI s p g _ pn n4 _ _ =>
      have ls : (s.map V.int).length = s.length := List.length_map ..
      have QP := MF.at_qp (s := s) (g := g) p0 pn
      have gm : ∀ j, j < s.length → (s.map V.int)[j]? = some (.int (MF.at_ s p g j)) := fun j h => get_map h
      have RF : RowF (s.map V.int) p g (fun j => .int (MF.at_ s p g j)) := .mkI s p g p0 pn (by omega)
      have fin : ∀ (q : Nat) (r : Int) (b : Nat), MF.IsForm (MF.at_ s p g) q r b → b + q ≤ s.length → FormV (s.map V.int) p g ((List.range (b + q)).map fun j => V.int (MF.at_ s p g j)) q r := fun q r b h l => FormV.mkI s p g q r b p0 pn h l
      have es : s.map V.int = (List.range s.length).map fun j => V.int (MF.at_ s p g j) := by
        have := RF.take (n := s.length)
        rw [ls, Nat.min_self, List.take_of_length_le (by rw [ls]; exact Nat.le_refl _)] at this
        exact this
      have hb0 : s.length - p + p = s.length := by omega
      rw [ls] at n0 n1
      generalize hf : MF.at_ s p g = f at *
      generalize hb : s.length - p = b0 at *
      refine ⟨fun σ H' => σ = [some (.ref e), some (.ref z), some (.int (0 : Nat)), some (.int 0), none, none, none] ∧ H' = H1, ?_, ?_⟩
      · exact ⟨_, rfl, 1, rfl, z, _, _, .int (f (s.length - 1)), rfl, rfl, SqL.of h1, last_get (by rw [ls]; exact gm _ (by omega)), rfl, false, rfl, iteF ⟨rfl, rfl⟩⟩
      rintro σ H1 ⟨rfl, rfl⟩
      refine ⟨fun σ H' => σ = [some (.ref e), some (.ref z), some (.int (0 : Nat)), some (.int 0), some (.int (b0 : Nat)), some (.bl false), none] ∧ H' = H1, ?_, ?_⟩
      · refine ⟨_, rfl, z, _, rfl, .inl (SqL.of h1), _, rfl, e, _, rfl, sk_period (s1 _ _ he), _, _, rfl, rfl, .int (b0 : Nat), .bl false, ?_, rfl, rfl⟩
        rw [ls]
        show [V.int ((s.length : Int) - (p : Int)), V.bl false] = _
        rw [show (s.length : Int) - (p : Int) = (b0 : Int) by omega]
      rintro σ H1 ⟨rfl, rfl⟩
      refine ⟨fun σ H' => ∃ t : Nat, σ = [some (.ref e), some (.ref z), some (.int (t : Nat)), some (.int (f (b0 + t) - f b0)), some (.int (b0 : Nat)), some (.bl true), none] ∧ Same H1 H' ∧ 0 < t ∧ t ≤ p ∧ MF.A f b0 p t ∧ ∀ u, 0 < u → u < t → ¬ MF.A f b0 p u, ?_, ?_⟩
      · refine while_by (fun σ H' => ∃ (t : Nat) (m : Int) (b : Bool), σ = [some (.ref e), some (.ref z), some (.int (t : Nat)), some (.int m), some (.int (b0 : Nat)), some (.bl b), none] ∧ Same H1 H' ∧ t ≤ p ∧ (b = true → 0 < t ∧ MF.A f b0 p t ∧ m = f (b0 + t) - f b0 ∧ ∀ u, 0 < u → u < t → ¬ MF.A f b0 p u) ∧ (b = false → ∀ u, 0 < u → u ≤ t → ¬ MF.A f b0 p u))
          (fun σ _ => match σ with
            | [_, _, some (.int t), _, _, some (.bl b), _] => if b then 0 else 1 + (p - t.toNat)
            | _ => 0) ⟨0, 0, false, rfl, Same.refl _, Nat.zero_le _, fun z => (by cases z), fun _ u h1 h2 => by omega⟩ ?_ ?_
        · rintro σ H2 ⟨t, m, b, rfl, s2, tp, ht, hfa⟩
          cases b with
          | true =>
            obtain ⟨t0, hA, rfl, hmin⟩ := ht rfl
            exact ⟨_, rfl, true, rfl, iteF ⟨t, rfl, s2, t0, tp, hA, hmin⟩⟩
          | false =>
            have no := hfa rfl
            have tlt : t < p := Nat.lt_of_not_le fun z => no p p0 z MF.A.self
            refine ⟨_, rfl, false, rfl, iteT ?_⟩
            have he2 := s2 _ _ (s1 _ _ he)
            have h2 := s2 _ _ h1
            refine ⟨fun σ H' => σ = [some (.ref e), some (.ref z), some (.int (t + 1 : Nat)), some (.int m), some (.int (b0 : Nat)), some (.bl false), none] ∧ H' = H2, ⟨_, rfl, _, _, rfl, rfl, rfl, rfl⟩, ?_⟩
            rintro σ H2 ⟨rfl, rfl⟩
            obtain ⟨M, hM⟩ : ∃ M, M = Int.fdiv (g * ((t + 1 : Nat) : Int)) (p : Int) := ⟨_, rfl⟩
            refine ⟨fun σ H' => σ = [some (.ref e), some (.ref z), some (.int (t + 1 : Nat)), some (.int M), some (.int (b0 : Nat)), some (.bl false), none] ∧ H' = H2, ?_, ?_⟩
            · refine ⟨_, rfl, e, _, rfl, sk_growth he2, _, rfl, _, _, rfl, rfl, .inl ⟨by omega, by omega⟩, _, rfl, e, _, rfl, sk_period he2, _, _, rfl, rfl, ⟨by omega, by omega⟩, ?_⟩
              rw [hM]
              exact ⟨rfl, rfl⟩
            rintro σ H2 ⟨rfl, rfl⟩
            have t10 : 0 < t + 1 := Nat.succ_pos t
            have MR : MF.A f b0 p (t + 1) → M = f (b0 + (t + 1)) - f b0 ∧ M * (p : Int) = g * ((t + 1 : Nat) : Int) := fun hA => by
              have r := MF.rise_of t10 tlt QP hA.1 (hA.dp t10 tlt QP.dp)
              have e1 : M = f (b0 + (t + 1)) - f b0 := by rw [hM, r, Int.mul_fdiv_cancel _ (by omega)]
              exact ⟨e1, by rw [e1]; exact r.symm⟩
            have nxt : ¬ MF.A f b0 p (t + 1) → ∀ u, 0 < u → u ≤ t + 1 → ¬ MF.A f b0 p u := fun nA u h1 h2 => by
              by_cases e : u = t + 1
              · rw [e]; exact nA
              · exact no u h1 (by omega)
            have lessF : 1 + (p - ((t + 1 : Nat) : Int).toNat) < 1 + (p - ((t : Nat) : Int).toNat) := by omega
            by_cases hd : p % (t + 1) = 0
            · have em : V.int (Int.fmod (p : Int) ((t + 1 : Nat) : Int)) = V.int 0 := by rw [fmod_nat p (t + 1) t10, hd]; rfl
              refine ⟨_, rfl, e, _, rfl, sk_period he2, .inl ⟨_, rfl, _, rfl, _, _, rfl, rfl, by omega, rfl, true, bT em, iteT ?_⟩⟩
              refine ⟨_, rfl, _, rfl, e, _, rfl, sk_period he2, _, _, rfl, rfl, .inr ⟨by omega, by omega⟩, _, rfl, e, _, rfl, sk_growth he2, _, rfl, _, _, rfl, rfl, .inl ⟨by omega, by omega⟩, rfl, ?_⟩
              by_cases hM2 : M * (p : Int) = g * ((t + 1 : Nat) : Int)
              · refine ⟨true, bT (congrArg V.int hM2), iteT ?_⟩
                have eb : ∀ j : Nat, (b0 : Int) + (j : Int) = ((b0 + j : Nat) : Int) := fun j => by omega
                refine ⟨_, rfl, _, rfl, z, _, rfl, .inl (SqL.of h2), b0, s.length, ?_, ⟨by omega, by omega, by omega, by omega⟩, fun D hD => ?_⟩
                · rw [ls]
                rw [show ((s.length : Int) - (b0 : Int)).toNat = p by omega]
                refine LM.lcF (walk_range (lo := b0) (n := p)) (fun j => !decide (f (b0 + j + (t + 1)) = f (b0 + j) + M)) (fun _ => V.int 1) hD (by omega) (fun _ _ => trivial) ?_ fun H3 h3 s3 => ?_
                · rintro j v H3 H4 hj s3 ⟨rfl, rfl⟩ R' N k1 k2
                  have he4 := s3 _ _ he2
                  have ha4 := s3 _ _ (s2 _ _ (s1 _ _ ha))
                  have ec : (!decide (V.int (f (b0 + j + (t + 1))) = V.int (f (b0 + j) + M))) = !decide (f (b0 + j + (t + 1)) = f (b0 + j) + M) := by
                    congr 1
                    exact decide_eq_decide.mpr ⟨fun z => V.int.inj z, fun z => congrArg V.int z⟩
                  have g1 : atI (s.map V.int) ((b0 : Int) + (j : Int)) = some (.int (f (b0 + j))) := by
                    rw [eb]
                    exact atI_nat (gm _ (by omega))
                  refine ⟨rfl, _, rfl, _, rfl, _, rfl, _, _, rfl, rfl, e, a, _, p, b0 + j + (t + 1), g, _, ?_, he4, ha4, RF, by omega, _, rfl, _, rfl, z, _, _, _, rfl, rfl, SqL.of (s3 _ _ h2), g1, _, rfl, _, _, rfl, rfl, rfl, ?_⟩
                  · show [V.ref e, V.int ((b0 : Int) + (j : Int) + ((t + 1 : Nat) : Int))] = _
                    rw [eb, ← Int.natCast_add]
                  · cases c : (!decide (f (b0 + j + (t + 1)) = f (b0 + j) + M)) with
                    | true => exact ⟨true, by show V.bl (!decide (V.int (f (b0 + j + (t + 1))) = V.int (f (b0 + j) + M))) = _; rw [ec, c], iteT (k1 c _ (Same.refl _))⟩
                    | false => exact ⟨false, by show V.bl (!decide (V.int (f (b0 + j + (t + 1))) = V.int (f (b0 + j) + M))) = _; rw [ec, c], iteF (k2 c _ (Same.refl _))⟩
                · refine ⟨(by show 0 ≤ sizeLine; decide), fun p9 hp9 => ?_⟩
                  generalize g4 : upd H3 p9 _ = H4
                  obtain ⟨s4, f4⟩ := alloc g4 hp9
                  have fl1 : FlatR (((List.range p).filter fun j => !decide (f (b0 + j + (t + 1)) = f (b0 + j) + M)).map fun _ => V.int 1) := fun v hv => by
                    obtain ⟨_, _, rfl⟩ := List.mem_map.mp hv
                    exact .inr ⟨1, rfl⟩
                  have nf : FlatR [] := fun v hv => by cases hv
                  have s04 := Same.trans s2 (Same.trans s3 s4)
                  refine ⟨rowD _, rowD [], .lst (SqL.of (s4 _ _ h3)) (dpAll_row _ fl1), .lst (SqL.of f4) .nil, shaped_row _, shaped_row _, ?_⟩
                  rw [eqv_row fl1 nf]
                  by_cases hl : ((List.range p).filter fun j => !decide (f (b0 + j + (t + 1)) = f (b0 + j) + M)).map (fun _ => V.int 1) = []
                  · rw [decide_eq_true hl]
                    have all : ∀ j, j < p → f (b0 + j + (t + 1)) = f (b0 + j) + M := fun j hj => by
                      have := List.filter_eq_nil_iff.mp (List.map_eq_nil_iff.mp hl) j (List.mem_range.mpr hj)
                      simpa using this
                    have q := step_all p0 QP all
                    have hA := MF.A.of_dp hd q.dp
                    refine ⟨⟨t + 1, M, true, rfl, s04, tlt, fun _ => ⟨t10, hA, (MR hA).1, fun u h1 h2 => no u h1 (by omega)⟩, fun z => by cases z⟩, ?_⟩
                    show 0 < 1 + (p - ((t : Nat) : Int).toNat)
                    omega
                  · rw [decide_eq_false hl]
                    refine ⟨⟨t + 1, M, false, rfl, s04, tlt, fun z => (by cases z), fun _ => nxt fun hA => hl ?_⟩, lessF⟩
                    have q := (hA.dp t10 tlt QP.dp).qp
                    rw [← (MR hA).1] at q
                    rw [List.map_eq_nil_iff, List.filter_eq_nil_iff]
                    intro j hj
                    rw [q (b0 + j) (by omega), decide_eq_true rfl]
                    exact Bool.false_ne_true
              · refine ⟨false, bF (fun z => hM2 (V.int.inj z)), iteF ⟨⟨t + 1, M, false, rfl, s2, tlt, fun z => (by cases z), fun _ => nxt fun hA => hM2 (MR hA).2⟩, lessF⟩⟩
            · have em : V.int (Int.fmod (p : Int) ((t + 1 : Nat) : Int)) ≠ V.int 0 := by
                rw [fmod_nat p (t + 1) t10]
                intro z
                have := V.int.inj z
                omega
              refine ⟨_, rfl, e, _, rfl, sk_period he2, .inl ⟨_, rfl, _, rfl, _, _, rfl, rfl, by omega, rfl, false, bF em, iteF (iteF ⟨⟨t + 1, M, false, rfl, s2, tlt, fun z => (by cases z), fun _ => nxt fun hA => hd hA.1⟩, lessF⟩)⟩⟩
        · intro σ H Q Q' m h
          obtain ⟨v1, f1, b, eb, hQ⟩ := h
          exact ⟨v1, f1, b, eb, m _ _ hQ⟩
      rintro σ H2 ⟨t, rfl, s2, t0, tp, hA, hmin⟩
      generalize hR : f (b0 + t) - f b0 = R at *
      have h2 := s2 _ _ h1
      have sA := Same.trans s1 s2
      have QR : MF.QP f t R b0 := by rw [← hR]; exact (hA.dp t0 tp QP.dp).qp
      refine ⟨fun σ H' => ∃ c : Nat, σ = [some (.ref e), some (.ref z), some (.int (t : Nat)), some (.int R), some (.int (b0 : Nat)), some (.bl true), none] ∧ H' z = some (.lst ((List.range c).map fun j => V.int (f j))) ∧ Same H H' ∧ t ≤ c ∧ c ≤ s.length ∧ MF.IsForm f t R (c - t), ?_, ?_⟩
      · have lr : ∀ c : Nat, ((List.range c).map fun j => V.int (f j)).length = c := fun c => by rw [List.length_map, List.length_range]
        have gr : ∀ c j : Nat, j < c → ((List.range c).map fun j => V.int (f j))[j]? = some (.int (f j)) := fun c j hj => by
          rw [List.getElem?_map, List.getElem?_range hj]
          rfl
        refine while_by (fun σ H' => ∃ c : Nat, σ = [some (.ref e), some (.ref z), some (.int (t : Nat)), some (.int R), some (.int (b0 : Nat)), some (.bl true), none] ∧ H' z = some (.lst ((List.range c).map fun j => V.int (f j))) ∧ Same H H' ∧ t ≤ c ∧ c ≤ s.length ∧ ∀ j, c - t ≤ j → j < s.length - t → f (j + t) = f j + R)
          (fun _ H' => match H' z with
            | some (.lst xs) => xs.length
            | _ => 0) ⟨s.length, rfl, by rw [← es]; exact h2, sA, by omega, Nat.le_refl _, fun j h1 h2 => by omega⟩ ?_ ?_
        · rintro σ H3 ⟨c, rfl, h3, s3, tc, cn, hP⟩
          have lowF := fun hl => lowForm p0 QP t0 tp hA hmin hR.symm hb0 tc cn hP hl
          refine ⟨_, rfl, z, _, rfl, .inl (SqL.of h3), _, rfl, _, _, rfl, rfl, ?_⟩
          rw [lr]
          by_cases c1 : t < c
          · have i1 : atI ((List.range c).map fun j => V.int (f j)) (-1) = some (.int (f (c - 1))) := last_get (by rw [lr]; exact gr c _ (by omega))
            have i2 : atI ((List.range c).map fun j => V.int (f j)) (-1 - (t : Int)) = some (.int (f (c - 1 - t))) := by
              have e : ixN c (-1 - (t : Int)) = some (c - 1 - t) := by
                unfold ixN
                rw [if_neg (by omega), if_pos (by omega)]
                congr 1
                omega
              unfold atI
              rw [lr, e]
              exact gr c _ (by omega)
            refine ⟨true, bT (by omega), iteT ⟨_, rfl, 1, rfl, z, _, _, _, rfl, rfl, SqL.of h3, i1, _, rfl, 1, rfl, _, rfl, _, _, rfl, rfl, z, _, _, _, rfl, rfl, SqL.of h3, i2, _, rfl, _, _, rfl, rfl, rfl, ?_⟩⟩
            by_cases c2 : f (c - 1) = f (c - 1 - t) + R
            · refine ⟨true, bT (congrArg V.int c2), iteT ⟨_, rfl, .inl ⟨rfl, _, SqL.of h3⟩, z, _, .int (f (c - 1)), rfl, rfl, h3, ?_, ⟨c - 1, rfl, ?_, LM.sPut hz s3, by omega, by omega, fun j h1 h2 => ?_⟩, ?_⟩⟩
              · rw [lr]
                exact gr c _ (by omega)
              · rw [upd_same, List.dropLast_eq_take, lr, ← List.map_take, List.take_range, Nat.min_eq_left (by omega)]
              · by_cases e : j = c - 1 - t
                · rw [e, show c - 1 - t + t = c - 1 by omega]
                  exact c2
                · exact hP j (by omega) h2
              · rw [upd_same, h3]
                show (List.dropLast _).length < List.length _
                rw [List.length_dropLast, lr]
                omega
            · exact ⟨false, bF (fun z => c2 (V.int.inj z)), iteF ⟨c, rfl, h3, s3, tc, cn, lowF (.inr c2)⟩⟩
          · exact ⟨false, bF (by omega), iteF (iteF ⟨c, rfl, h3, s3, tc, cn, lowF (.inl (by omega))⟩)⟩
        · intro σ H Q Q' m h
          obtain ⟨v1, f1, z1, xs1, e1, q1, v2, f2, i1, j1, e2, e3, b, eb, hQ⟩ := h
          refine ⟨v1, f1, z1, xs1, e1, q1, v2, f2, i1, j1, e2, e3, b, eb, ?_⟩
          cases b with
          | false => exact m _ _ hQ
          | true =>
            obtain ⟨v3, f3, i3, e4, z2, xs2, i4, v4, e5, e6, q2, e7, v5, f4, i5, e8, v6, f5, i6, j6, e9, e10, z3, xs3, i7, v7, e11, e12, q3, e13, v8, f6, i8, j8, e14, e15, e16, b2, eb2, hQ⟩ := hQ
            exact ⟨v3, f3, i3, e4, z2, xs2, i4, v4, e5, e6, q2, e7, v5, f4, i5, e8, v6, f5, i6, j6, e9, e10, z3, xs3, i7, v7, e11, e12, q3, e13, v8, f6, i8, j8, e14, e15, e16, b2, eb2, m _ _ hQ⟩
      rintro σ H3 ⟨c, rfl, h3, s3, tc, cn, IF⟩
      refine ⟨_, rfl, z, _, rfl, .inl ⟨SqL.of h3, fun l hl => ?_⟩⟩
      generalize g4 : upd H3 l _ = H4
      obtain ⟨s4, f4⟩ := alloc g4 hl
      refine ⟨_, rfl, _, rfl, (by show 3 ≤ sizeLine; decide), fun T hT => ?_⟩
      generalize g5 : upd H4 T _ = H5
      obtain ⟨s5, f5⟩ := alloc g5 hT
      have fv := fin t R (c - t) IF (by omega)
      rw [show c - t + t = c by omega] at fv
      exact k _ _ _ l T H5 fv (s5 _ _ f4) f5 (Same.trans s3 (Same.trans s4 s5))
end
end WW
end

section
set_option Elab.async false
set_option linter.all false
set_option maxRecDepth 100000
set_option maxHeartbeats 8000000
namespace WW
open PySem L2 WO WG RZ WQ WT WC
/-! ### rows from nothing on -/
theorem sg_int {f : Nat → Int} : SG (fun j => .int (f j)) = fun j => .int (if j = 0 then 0 else f j) := by
  funext j
  unfold SG
  split <;> rfl
theorem sg_non {s : List Int} : SG (FN s) = FN (0 :: s.drop 1) := by
  funext j
  unfold SG
  cases j with
  | zero =>
    rw [if_pos rfl, fn_low (by show 0 < _ + 1; omega)]
    rfl
  | succ j =>
    rw [if_neg (Nat.succ_ne_zero j)]
    by_cases c : j + 1 < s.length
    · rw [fn_low c, fn_low (by rw [List.length_cons, List.length_drop]; omega), List.getD_cons_succ, List.getD_eq_getElem?_getD, List.getD_eq_getElem?_getD, List.getElem?_drop, show 1 + j = j + 1 by omega]
    · rw [fn_high (s := s) (by omega), fn_high (by rw [List.length_cons, List.length_drop]; omega)]
theorem RowF.cases' {xs : List V} {p : Nat} {g : Int} {F : Nat → V} (R : RowF xs p g F) : (∃ (f : Nat → Int) (n : Nat), F = (fun j => .int (f j)) ∧ xs = (List.range n).map (fun j => V.int (f j)) ∧ 0 < p ∧ p ≤ n ∧ p ≤ 1000000 ∧ MF.QP f p g (n - p)) ∨ ∃ (s : List Int) (k : Nat), F = FN s ∧ xs = s.map V.int ++ List.replicate (k + 1) .non := by
  have tk := R.take (n := xs.length)
  rw [Nat.min_self, List.take_of_length_le (Nat.le_refl _)] at tk
  cases R with
  | mkI s p g p0 pn pb =>
    refine .inl ⟨MF.at_ s p g, s.length, rfl, ?_, p0, pn, pb, MF.at_qp p0 pn⟩
    rw [List.length_map] at tk
    exact tk
  | mkN s k p g => exact .inr ⟨s, k, rfl, rfl⟩
theorem row_nought {xs : List V} {p n : Nat} {g : Int} {F : Nat → V} (R : RowF xs p g F) (p0 : 0 < p) (h1 : xs.length ≤ n) (h2 : p + 1 ≤ n) : RowF ((List.range n).map (SG F)) p g (SG F) := by
  rcases R.cases' with ⟨f, m, rfl, rfl, _, pm, pb, Q⟩ | ⟨s, k, rfl, rfl⟩
  · rw [List.length_map, List.length_range] at h1
    rw [sg_int]
    refine row_int p0 (by omega) pb fun j hj => ?_
    rw [if_neg (by omega), if_neg (by omega)]
    exact Q j (by omega)
  · rw [List.length_append, List.length_map, List.length_replicate] at h1
    rw [sg_non]
    refine row_non ?_
    rw [List.length_cons, List.length_drop]
    omega
section
variable {P : Program} {w : World} {K : PySem.W.Frag} {mg : Str → Option Value} {base : Heap}
abbrev nFn2 : List Str := ["sketch", "size", "start_here", "beat"]
theorem scFn2 : FnScope nFn2 ["sketch"] (defScope sFn2) := ⟨rfl, rfl, rfl, by decide +kernel, rfl, by decide +kernel, by decide +kernel⟩
def spFn2 (K : PySem.W.Frag) : Sp := fun vs H Q _ => ∃ (e a : Addr) (xs : List V) (p : Nat) (g : Int) (F : Nat → V), vs = [.ref e] ∧ H e = some (.dK (skKvs a p g)) ∧ H a = some (.lst xs) ∧ RowF xs p g F ∧ 0 < p ∧ p ≤ 60 ∧ xs.length ≤ 200 ∧
  ∀ e' a' H', H e' = none → H a' = none → H' e' = some (.dK (skKvs a' p g)) → H' a' = some (.lst ((List.range (max xs.length (p + 1))).map (SG F))) → Same H H' → Q (.ref e') H'
theorem ok_fn2 {f : Addr} {fd : FuncData} (F : Fun K "_law_from_nought" "_law_from_nought" sFn2 f fd) (T : CurG mg) (nmax : mg "max" = none) (c_at : Cal P w K mg base CX0 1 "_law_at" ["sketch", "beat"] (spAt K)) : FnOk P w K mg base CX0 2 f fd ["sketch"] (spFn2 K) := by
  refine F.ok scFn2 (fun vs H Q E h => ?_) (fun cdv A outer s H vs Q E hr h => ?_)
  · obtain ⟨e, a, xs, p, g, F, rfl, _⟩ := h
    rfl
  · obtain ⟨e, a, xs, p, g, F, rfl, he, ha, R, p0, p1, lx, k⟩ := h
    have hu := hu_of hr
    refine ⟨_, (C8.pss_cut (ps_set (i := 1) scFn2.nd rfl (Or.inl rfl) (pe_callB (call_max2 rfl) (by rfl) nmax (by decide +kernel) (pa_cons (pe_callB call_len_seq (by rfl) T.len PySem.boot_len (pa_cons (pe_dget hu (pv 0) pe_str (fun _ _ => rfl)) pa_nil)) (pa_cons (pe_op op_add (pe_dget hu (pv 0) pe_str (fun _ _ => rfl)) pe_int) pa_nil))))
 (C8.pss_cut (ps_set (i := 2) scFn2.nd rfl (Or.inl rfl) (pe_op op_cat (pe_lst (pa_cons pe_int pa_nil)) (pe_lc (own := [("beat", 3)]) (g := (gName 3)) (tt := tYes) rfl scFn2.nd (pi_range2 (by rfl) T.range (pa_cons pe_int (pa_cons (pv 1) pa_nil))) (blkOk_by (N := nFn2) (sc := defScope sFn2) (by decide +kernel)) (fun _ _ _ _ _ => (pg_name (i := 3) scFn2.nd rfl (Or.inl rfl))) (fun _ _ _ _ _ => pts_nil) (fun _ _ _ _ _ => (pe_callC c_at (hr.mono (by decide)) rfl pass0 (pa_cons (pv 0) (pa_cons (pv 3) pa_nil)))))))
 (pss_one
 (ps_ret (pe_disp (pps_cons pe_str (pv 2) (pps_cons pe_str (pe_dget hu (pv 0) pe_str (fun _ _ => rfl)) (pps_cons pe_str (pe_dget hu (pv 0) pe_str (fun _ _ => rfl)) pps_nil))) (by rfl) (by rfl) (fun z => by cases z) (by decide)))))), ?_⟩
    obtain ⟨n, en⟩ : ∃ n, n = max xs.length (p + 1) := ⟨_, rfl⟩
    rw [← en] at k
    refine ⟨fun σ H' => σ = [some (.ref e), some (.int (n : Nat)), none, none] ∧ H = H', ?_, ?_⟩
    · refine ⟨_, rfl, e, _, rfl, sk_start he, a, _, rfl, .inl (SqL.of ha), _, rfl, e, _, rfl, sk_period he, _, _, rfl, rfl, _, _, rfl, ?_, rfl⟩
      refine setI (n := 1) ?_
      split <;> omega
    rintro σ _ ⟨rfl, rfl⟩
    refine ⟨fun σ H' => ∃ o, σ = [some (.ref e), some (.int (n : Nat)), some (.ref o), none] ∧ H o = none ∧ H' o = some (.lst ((List.range n).map (SG F))) ∧ Same H H', ?_, ?_⟩
    · refine ⟨(by show 1 ≤ sizeLine; decide), fun u hu' => ?_⟩
      generalize g1 : upd H u _ = H1
      obtain ⟨s1, f1⟩ := alloc g1 hu'
      have he1 := s1 _ _ he
      have ha1 := s1 _ _ ha
      refine ⟨_, rfl, 1, _, rfl, by omega, ?_⟩
      rw [show ((n : Int) - 1).toNat = n - 1 by omega]
      refine fun D hD => LM.lcM (walk_range (lo := 1) (n := n - 1)) (fun j => SG F (j + 1)) hD (by omega) (fun _ _ => trivial) ?_ fun H2 h2 s2 => ?_
      · rintro j v H2 H3 hj s2 ⟨rfl, rfl⟩ R' N kk
        refine ⟨rfl, _, rfl, _, rfl, e, a, _, p, j + 1, g, _, ?_, s2 _ _ he1, s2 _ _ ha1, R, by omega, ?_⟩
        · show [V.ref e, V.int (1 + (j : Int))] = _
          rw [show (1 : Int) + (j : Int) = ((j + 1 : Nat) : Int) by omega]
        · have := kk _ (Same.refl _)
          unfold SG at this
          rw [if_neg (show ¬ (j + 1 = 0) by omega)] at this
          exact this
      · refine ⟨u, D, _, _, rfl, rfl, s2 _ _ f1, h2, ?_, fun o ho => ⟨o, rfl, s1.free (s2.free ho), ?_, Same.trans s1 (Same.trans s2 (same_new ho))⟩⟩
        · rw [List.length_map, List.length_range]
          show 1 + _ ≤ sizeLine
          exact line_of (by omega)
        · have ee : [V.int 0] ++ (List.range (n - 1)).map (fun j => SG F (j + 1)) = (List.range n).map (SG F) := by
            obtain ⟨m, rfl⟩ : ∃ m, n = m + 1 := ⟨n - 1, by omega⟩
            rw [List.range_succ_eq_map, List.map_cons, List.map_map]
            rfl
          rw [ee]
          exact upd_same
    rintro σ H1 ⟨o, rfl, ho, h1, s1⟩
    have he1 := s1 _ _ he
    refine fun e' he' => ?_
    have he1' : ∀ o, upd H1 e' o e = some (.dK (skKvs a p g)) := fun o => by rw [upd_ne (ne_of_none he1 he')]; exact he1
    refine ⟨_, rfl, _, rfl, e, _, rfl, sk_period (he1' _), _, rfl, e, _, rfl, sk_growth (he1' _), upd_same, skKvs o p g, rfl, (by show 3 ≤ 15; decide), ?_⟩
    exact k e' o _ (s1.free he') ho upd_same (by rw [upd_ne (ne_of_none h1 he'), upd_ne (ne_of_none h1 he')]; exact h1) (fun b u hb => by rw [upd_ne (ne_of_none (s1 _ _ hb) he'), upd_ne (ne_of_none (s1 _ _ hb) he')]; exact s1 _ _ hb)
theorem scIsf : FnScope ["thing", "sketch"] ["thing", "sketch"] (defScope sIsf) := ⟨rfl, rfl, rfl, by decide +kernel, rfl, by decide +kernel, by decide +kernel⟩
def spIsf (K : PySem.W.Frag) (C : Addr) : Sp := fun vs H Q _ => ∃ (x e a : Addr) (xs : List V) (p : Nat) (g : Int) (L : Nat → V), vs = [.ref x, .ref e] ∧ IsCur H C x L ∧ H e = some (.dK (skKvs a p g)) ∧ H a = some (.lst xs) ∧ FormIn xs p g ∧ RowF xs p g L ∧ 0 < p ∧ p ≤ 1000 ∧ 0 < xs.length ∧ xs.length ≤ 5000 ∧ (0 ≤ g ∧ g ≤ 1000000000) ∧
  (∀ j, j < xs.length → SmallV (L j)) ∧ ∀ H', Same H H' → Q (.bl true) H'
theorem ok_isf {f fI fE C : Addr} {fd : FuncData} (F : Fun K "_law_is_form" "_law_is_form" sIsf f fd) (T : CurG mg) (nrepr : mg "repr" = none) (U : CurT K mg C fI fE)
    (c_lfo : Cal P w K mg base CX0 2 "_law_form" ["sketch"] (spFrm K)) : FnG P w K mg base CX0 3 f fd ["thing", "sketch"] (spIsf K C) := by
  refine okG F scIsf (fun vs H Q E h => ?_) (fun cdv A outer s H vs Q E hr hgu h => ?_)
  · obtain ⟨x, e, a, xs, p, g, L, rfl, _⟩ := h
    rfl
  · obtain ⟨x, e, a, xs, p, g, L, rfl, ⟨v, q, r, cu, fg⟩, he, ha, fi, R, p0, p1, n0, n1, gg, sm, k⟩ := h
    have hu64 := hr.units
    obtain ⟨dx, t, h1, h2⟩ := id cu
    refine ⟨_, (pss_one
 (ps_ret (pe_and (pe_callB call_isi (by rfl) T.isi (by decide +kernel) (pa_cons (pv 0) (pa_cons (pe_glob (v := .ref C) rfl U.mC rfl) pa_nil))) (pe_one (pe_cmpR op_eq (pe_callB (call_repr hgu hu64) (by rfl) nrepr (by decide +kernel) (pa_cons (pe_tup (pa_cons (pe_fld (pv 0) rfl) (pa_cons (pe_fld (pv 0) rfl) (pa_cons (pe_fld (pv 0) rfl) pa_nil)))) pa_nil)) (pe_callB (call_repr hgu hu64) (by rfl) nrepr (by decide +kernel) (pa_cons (pe_callC c_lfo (hr.mono (by decide)) rfl pass0 (pa_cons (pv 1) pa_nil)) pa_nil)) (nomark _)))))), ?_⟩
    refine ⟨_, rfl, .ref x, .ref C, .ref C, .ref C, true, rfl, .own C, .base (.ins h1 U.cl U.cc U.cg U.ct U.co), U.kC, true, rfl, iteT ?_⟩
    refine ⟨_, rfl, x, C, dx, _, .ref t, rfl, h1, U.cl, U.nS, rfl, _, rfl, x, C, dx, _, .int q, rfl, h1, U.cl, U.nP, rfl, _, rfl, x, C, dx, _, .int r, rfl, h1, U.cl, U.nG, rfl, (by show 3 ≤ sizeLine; decide), fun T2 hT2 => ?_⟩
    generalize g2 : upd H T2 _ = H2
    obtain ⟨s2, f2⟩ := alloc g2 hT2
    have GC : ∀ (vals : List V) (q' r' : Int), FormV xs p g vals q' r' → vals = v ∧ q' = q ∧ r' = r ∧ GoodC vals q' r' := fun vals q' r' fv => by
      have gc := good_form fi R fv sm
      obtain ⟨qn, rfl, fg'⟩ := form_g fv R
      obtain ⟨rfl, rfl, rfl⟩ := fg'.uniq fg
      exact ⟨rfl, rfl, rfl, gc⟩
    obtain ⟨vals0, q0, r0, fv0⟩ := form_ex fi
    obtain ⟨e1, e2, e3, gc⟩ := GC _ _ _ fv0
    subst e1 e2 e3
    refine ⟨T2, curD vals0 q r0, rfl, rdb_dp (dp_cur f2 (s2 _ _ h2) fg.flat) gc.hd, gc.sh, gc.dp, gc.le, ?_⟩
    refine ⟨_, rfl, e, a, xs, p, g, rfl, s2 _ _ he, s2 _ _ ha, fi, p0, p1, n0, n1, gg, fun vals q' r' t' T' H3 fv ht hT s3 => ?_⟩
    obtain ⟨rfl, rfl, rfl, _⟩ := GC _ _ _ fv
    refine ⟨T', curD vals q r', rfl, rdb_dp (dp_cur hT ht fg.flat) gc.hd, gc.sh, gc.dp, gc.le, rfl, ?_⟩
    have e : decide (V.str (PyData.shown (curD vals q r')) = V.str (PyData.shown (curD vals q r'))) = true := decide_eq_true rfl
    show Q (.bl (decide (V.str (PyData.shown (curD vals q r')) = V.str (PyData.shown (curD vals q r'))))) H3
    rw [e]
    exact k H3 (Same.trans s2 s3)
/-- less a number, from nothing on -/
theorem les_sg {m : Int} {L : Nat → V} (m0 : 0 ≤ m) (j : Nat) : lesP (m + 1) L j = match SG L j with
    | .int i => .int (max 0 (i - m))
    | _ => .non := by
  unfold lesP SG
  cases j with
  | zero =>
    rw [if_pos rfl, if_pos rfl]
    show V.int 0 = V.int (max 0 (0 - m))
    congr 1
    omega
  | succ j =>
    rw [if_neg (Nat.succ_ne_zero j), if_neg (Nat.succ_ne_zero j)]
    generalize L (j + 1) = y
    cases y with
    | int i =>
      show V.int (max 0 (i - (m + 1) + 1)) = V.int (max 0 (i - m))
      congr 1
      omega
    | _ => rfl
structure ParOk (xs : List V) (p : Nat) (g : Int) (W : Nat → V) (sz : Nat) : Prop where
  row : RowF ((List.range sz).map W) p g W
  fi : FormIn ((List.range sz).map W) p g
  z0 : 0 < sz
  z1 : sz ≤ 1000
abbrev nPar : List Str := ["sketch", "less_here", "some", "first", "size", "found", "beat"]
theorem scPar : FnScope nPar ["sketch", "less_here"] (defScope sPar) := ⟨rfl, rfl, rfl, by decide +kernel, rfl, by decide +kernel, by decide +kernel⟩
def spPar (K : PySem.W.Frag) : Sp := fun vs H Q _ => ∃ (e a : Addr) (xs : List V) (p m : Nat) (g : Int) (L : Nat → V), vs = [.ref e, .int m] ∧ H e = some (.dK (skKvs a p g)) ∧ H a = some (.lst xs) ∧ RowF xs p g L ∧ UpV L ∧ SkZ xs g ∧ 0 < p ∧ p ≤ 60 ∧ 0 < xs.length ∧ xs.length ≤ 200 ∧ 0 ≤ g ∧ g ≤ 1000000000 ∧ max xs.length (p + 1) + p * m ≤ 900 ∧
  ∀ e' a' xs' H', H' e' = some (.dK (skKvs a' p g)) → H' a' = some (.lst xs') → RowF xs' p g (lesP ((m : Int) + 1) L) → FormIn xs' p g → 0 < xs'.length → xs'.length ≤ 1000 → Same H H' → Q (.ref e') H'
theorem ok_par {f : Addr} {fd : FuncData} (F : Fun K "_law_parcelled" "_law_parcelled" sPar f fd) (T : CurG mg) (nmax : mg "max" = none) (c_at : Cal P w K mg base CX0 1 "_law_at" ["sketch", "beat"] (spAt K)) (c_fn2 : Cal P w K mg base CX0 2 "_law_from_nought" ["sketch"] (spFn2 K)) : FnOk P w K mg base CX0 3 f fd ["sketch", "less_here"] (spPar K) := by
  refine F.ok scPar (fun vs H Q E h => ?_) (fun cdv A outer s H vs Q E hr h => ?_)
  · obtain ⟨e, a, xs, p, m, g, L, rfl, _⟩ := h
    rfl
  · obtain ⟨e, a, xs, p, m, g, L, rfl, he, ha, R, up, Z, p0, p1, x0, lx, g0, g1, bd, k⟩ := h
    have hu := hu_of hr
    refine ⟨_, (C8.pss_cut (ps_set (i := 2) scPar.nd rfl (Or.inr rfl) (pe_callC c_fn2 (hr.mono (by decide)) rfl pass0 (pa_cons (pv 0) pa_nil)))
 (C8.pss_cut (ps_set (i := 3) scPar.nd rfl (Or.inl rfl) (pe_callB call_len_seq (by rfl) T.len PySem.boot_len (pa_cons (pe_dget hu (pv 2) pe_str (fun _ _ => rfl)) pa_nil)))
 (C8.pss_cut (ps_while PassesOwn.never (PW.pt (pw_and (pt_cmpR op_gt (pe_dget hu (pv 2) pe_str (fun _ _ => rfl)) pe_int (nomark _)) (pw_and1 (pt_cmpR op_lt (pe_callC c_at (hr.mono (by decide)) rfl pass0 (pa_cons (pv 2) (pa_cons (pv 3) pa_nil))) (pv 1) (nomark _))))) (pss_one
 (ps_set (i := 3) scPar.nd rfl (Or.inl rfl) (pe_op op_add (pv 3) pe_int))))
 (C8.pss_cut (ps_set (i := 4) scPar.nd rfl (Or.inl rfl) (pe_ifExp (pt_cmpR op_notN (pe_ix ix_list (pe_dget hu (pv 2) pe_str (fun _ _ => rfl)) (pe_un un_neg pe_int) (fun _ _ => rfl)) pe_non (nomark _)) (pe_op op_add (pv 3) (pe_dget hu (pv 2) pe_str (fun _ _ => rfl))) (pv 3)))
 (C8.pss_cut (ps_setLc (i := 5) (own := [("beat", 6)]) (g := (gName 6)) (tt := tYes) rfl scPar.nd rfl rfl (sw_true rfl rfl rfl (by decide +kernel)) (pi_range1 rfl T.range (pa_cons (pv 4) pa_nil)) (blkOk_by (N := nPar) (sc := defScope sPar) (by decide +kernel)) (fun _ _ _ _ _ => (pg_name (i := 6) scPar.nd rfl (Or.inl rfl))) (fun _ _ _ _ _ => pts_nil) (fun _ _ _ _ _ => (pe_ifExp (pt_cmpR op_isN (pe_callC c_at (hr.mono (by decide)) rfl pass0 (pa_cons (pv 2) (pa_cons (pv 6) pa_nil))) pe_non (nomark _)) pe_non (pe_callB (call_max2 rfl) (by rfl) nmax (by decide +kernel) (pa_cons pe_int (pa_cons (pe_op op_sub (pe_callC c_at (hr.mono (by decide)) rfl pass0 (pa_cons (pv 2) (pa_cons (pv 6) pa_nil))) (pv 1)) pa_nil))))))
 (pss_one
 (ps_ret (pe_disp (pps_cons pe_str (pv 5) (pps_cons pe_str (pe_dget hu (pv 2) pe_str (fun _ _ => rfl)) (pps_cons pe_str (pe_dget hu (pv 2) pe_str (fun _ _ => rfl)) pps_nil))) (by rfl) (by rfl) (fun z => by cases z) (by decide))))))))), ?_⟩
    obtain ⟨n, en⟩ : ∃ n, n = max xs.length (p + 1) := ⟨_, rfl⟩
    have R1 : RowF ((List.range n).map (SG L)) p g (SG L) := row_nought R p0 (by omega) (by omega)
    have ln : ((List.range n).map (SG L)).length = n := by rw [List.length_map, List.length_range]
    refine ⟨fun σ H' => ∃ e1 a1, σ = [some (.ref e), some (.int (m : Nat)), some (.ref e1), none, none, none, none] ∧ H' e1 = some (.dK (skKvs a1 p g)) ∧ H' a1 = some (.lst ((List.range n).map (SG L))) ∧ Same H H', ?_, ?_⟩
    · exact ⟨_, rfl, e, a, xs, p, g, L, rfl, he, ha, R, p0, p1, lx, fun e1 a1 H1 _ _ h1 h2 s1 => ⟨e1, a1, rfl, h1, by rw [en]; exact h2, s1⟩⟩
    rintro σ H1 ⟨e1, a1, rfl, he1, ha1, s1⟩
    rw [← en] at bd
    have n2 : p + 1 ≤ n := by omega
    have n3 : xs.length ≤ n := by omega
    clear en
    refine ⟨fun σ H' => σ = [some (.ref e), some (.int (m : Nat)), some (.ref e1), some (.int (n : Nat)), none, none, none] ∧ H' = H1, ?_, ?_⟩
    · refine ⟨_, rfl, e1, _, rfl, sk_start he1, a1, _, rfl, .inl (SqL.of ha1), ?_, rfl⟩
      rw [ln]
      rfl
    rintro σ H1 ⟨rfl, rfl⟩
    refine ⟨fun σ H' => ∃ c : Nat, σ = [some (.ref e), some (.int (m : Nat)), some (.ref e1), some (.int (c : Nat)), none, none, none] ∧ H' = H1 ∧ ((∃ i, SG L (n - 1) = .int i) ∧ ParOk xs p g (lesP ((m : Int) + 1) L) (c + p) ∨ SG L (n - 1) = .non ∧ ParOk xs p g (lesP ((m : Int) + 1) L) c), ?_, ?_⟩
    · rcases R.cases' with ⟨f, q, rfl, rfl, _, pq, pb, Qf⟩ | ⟨s, q, rfl, rfl⟩
      · -- numbers
        rw [List.length_map, List.length_range] at x0 lx n3
        rw [sg_int] at R1 ha1
        rw [sg_int]
        generalize hf' : (fun j : Nat => if j = 0 then (0 : Int) else f j) = f' at *
        have ef : ∀ j, (if j = 0 then (0 : Int) else f j) = f' j := fun j => by rw [← hf']
        have R1 : RowF ((List.range n).map fun j => V.int (f' j)) p g (fun j => .int (f' j)) := by rw [← hf']; exact R1
        have ha1 : H1 a1 = some (.lst ((List.range n).map fun j => V.int (f' j))) := by rw [← hf']; exact ha1
        have up' : ∀ i j, i ≤ j → f' i ≤ f' j := fun i j l => by
          rw [← ef, ← ef]
          split
          · split
            · exact Int.le_refl _
            · obtain ⟨k', e', h0, h1⟩ := up j j (f j) (Nat.le_refl _) rfl
              omega
          · rw [if_neg (by omega)]
            obtain ⟨k', e', h0, h1⟩ := up i j (f j) l rfl
            cases e'
            exact h1
        have f00 : f' 0 = 0 := by rw [← ef]; rfl
        have pos : ∀ j, 0 ≤ f' j := fun j => by rw [← f00]; exact up' 0 j (Nat.zero_le _)
        have Q' : MF.QP f' p g (n - p) := fun j hj => by
          rw [← ef, ← ef, if_neg (by omega), if_neg (by omega)]
          exact Qf j (by omega)
        have eW : lesP ((m : Int) + 1) (fun j => V.int (f j)) = fun j => .int (max 0 (f' j - (m : Int))) := by
          funext j
          rw [les_sg (by omega), sg_int]
          show V.int (max 0 ((if j = 0 then (0 : Int) else f j) - (m : Int))) = _
          rw [ef]
        have fin : ∀ c, n ≤ c → c ≤ n + p * m → (g = 0 ∨ ∀ j, c ≤ j → (m : Int) ≤ f' j) → ParOk ((List.range q).map fun j => V.int (f j)) p g (lesP ((m : Int) + 1) fun j => V.int (f j)) (c + p) := fun c nc cn hc => by
          have QW : MF.QP (fun j => max 0 (f' j - (m : Int))) p g (c + p - p) := fun j hj => by
            have q := Q' j (by omega)
            show max 0 (f' (j + p) - (m : Int)) = max 0 (f' j - (m : Int)) + g
            rw [q]
            rcases hc with rfl | hc
            · omega
            · have := hc j (by omega)
              omega
          rw [eW]
          exact ⟨row_int p0 (by omega) (by omega) QW, in_int p0 (by omega) (by omega) g0 (by omega), by omega, by omega⟩
        have far : 0 < g → ∀ c, n + p * m ≤ c → (m : Int) ≤ f' c := fun gp c hc => by
          obtain ⟨kk, i, e, hi⟩ := MF.dec_add p0 (show n - p ≤ c by omega)
          have mm := Q'.mul (j := n - p + i) (by omega) kk
          rw [← e] at mm
          have := pos (n - p + i)
          have hk : m < kk + 1 := by
            refine Nat.lt_of_mul_lt_mul_right (a := p) ?_
            rw [Nat.succ_mul, Nat.mul_comm m p]
            omega
          have : (kk : Int) * 1 ≤ (kk : Int) * g := Int.mul_le_mul_of_nonneg_left (by omega) (by omega)
          omega
        refine while_by (fun σ H' => ∃ c : Nat, σ = [some (.ref e), some (.int (m : Nat)), some (.ref e1), some (.int (c : Nat)), none, none, none] ∧ H' = H1 ∧ n ≤ c ∧ c ≤ n + p * m)
          (fun σ _ => match σ with
            | [_, _, _, some (.int c), _, _, _] => n + p * m - c.toNat
            | _ => 0) ⟨n, rfl, rfl, Nat.le_refl _, Nat.le_add_right _ _⟩ ?_ ?_
        · rintro σ H' ⟨c, rfl, rfl, nc, cn⟩
          refine ⟨_, rfl, e1, _, rfl, sk_growth he1, _, _, rfl, rfl, ?_⟩
          by_cases gp : g > 0
          · refine ⟨true, bT gp, iteT ⟨_, rfl, _, rfl, e1, a1, _, p, c, g, _, rfl, he1, ha1, R1, by omega, _, rfl, _, _, rfl, rfl, ?_⟩⟩
            by_cases c2 : f' c < (m : Int)
            · have lt : c < n + p * m := Nat.lt_of_not_le fun z => by have := far gp c z; omega
              refine ⟨true, bT c2, iteT ⟨_, rfl, _, _, rfl, rfl, ⟨c + 1, rfl, rfl, by omega, by omega⟩, ?_⟩⟩
              show n + p * m - ((c : Int) + 1).toNat < n + p * m - (c : Int).toNat
              omega
            · exact ⟨false, bF c2, iteF ⟨c, rfl, rfl,   .inl ⟨⟨_, rfl⟩, fin c nc cn (.inr fun j hj => Int.le_trans (Int.not_lt.mp c2) (up' c j hj))⟩⟩⟩
          · exact ⟨false, bF gp, iteF (iteF ⟨c, rfl, rfl,   .inl ⟨⟨_, rfl⟩, fin c nc cn (.inl (by omega))⟩⟩)⟩
        · intro σ H Q Q' mo h
          obtain ⟨v1, f1, z1, k1, e2, e3, i2, j2, e4, e5, b, eb, h⟩ := h
          refine ⟨v1, f1, z1, k1, e2, e3, i2, j2, e4, e5, b, eb, ?_⟩
          cases b with
          | false => exact mo _ _ h
          | true =>
            obtain ⟨v3, f3, v4, f4, w1, w2, w3, w4, w5, w6, w7, w8, w9, w10, w11, w12, v5, f5, i6, j6, e9, e10, b2, eb2, hQ⟩ := h
            exact ⟨v3, f3, v4, f4, w1, w2, w3, w4, w5, w6, w7, w8, w9, w10, w11, w12, v5, f5, i6, j6, e9, e10, b2, eb2, mo _ _ hQ⟩
      · -- without end
        have lxs : (s.map V.int ++ List.replicate (q + 1) V.non).length = s.length + (q + 1) := by rw [List.length_append, List.length_map, List.length_replicate]
        have gz : g = 0 := Z (nones_get _ (by rw [lxs]; omega) (by rw [lxs]; omega))
        have lt : (0 :: (s.drop 1).map fun i => max 0 (i - ((m : Int) + 1) + 1)).length < n := by
          rw [List.length_cons, List.length_map, List.length_drop]
          omega
        have okW : ParOk (s.map V.int ++ List.replicate (q + 1) V.non) p g (lesP ((m : Int) + 1) (FN s)) n := by
          rw [← lesP_non]
          exact ⟨row_non lt, in_non lt (by omega), by omega, by omega⟩
        have last : SG (FN s) (n - 1) = .non := by
          unfold SG
          rw [if_neg (by omega), fn_high (by omega)]
        refine while_by (fun σ H' => σ = [some (.ref e), some (.int (m : Nat)), some (.ref e1), some (.int (n : Nat)), none, none, none] ∧ H' = H1) (fun _ _ => 0) ⟨rfl, rfl⟩ ?_ ?_
        · rintro σ H' ⟨rfl, rfl⟩
          refine ⟨_, rfl, e1, _, rfl, sk_growth he1, _, _, rfl, rfl, false, bF (by omega), iteF (iteF ⟨n, rfl, rfl, .inr ⟨last, okW⟩⟩)⟩
        · intro σ H Q Q' mo h
          obtain ⟨v1, f1, z1, k1, e2, e3, i2, j2, e4, e5, b, eb, h⟩ := h
          refine ⟨v1, f1, z1, k1, e2, e3, i2, j2, e4, e5, b, eb, ?_⟩
          cases b with
          | false => exact mo _ _ h
          | true =>
            obtain ⟨v3, f3, v4, f4, w1, w2, w3, w4, w5, w6, w7, w8, w9, w10, w11, w12, v5, f5, i6, j6, e9, e10, b2, eb2, hQ⟩ := h
            exact ⟨v3, f3, v4, f4, w1, w2, w3, w4, w5, w6, w7, w8, w9, w10, w11, w12, v5, f5, i6, j6, e9, e10, b2, eb2, mo _ _ hQ⟩
    rintro σ H1 ⟨c, rfl, rfl, ok⟩
    have hl : ((List.range n).map (SG L))[n - 1]? = some (SG L (n - 1)) := by
      rw [List.getElem?_map, List.getElem?_range (by omega)]
      rfl
    refine ⟨fun σ H' => ∃ sz : Nat, σ = [some (.ref e), some (.int (m : Nat)), some (.ref e1), some (.int (c : Nat)), some (.int (sz : Nat)), none, none] ∧ H' = H1 ∧ ParOk xs p g (lesP ((m : Int) + 1) L) sz, ?_, ?_⟩
    · rcases ok with ⟨⟨i, ei⟩, ok⟩ | ⟨ei, ok⟩
      · exact ⟨_, rfl, e1, _, rfl, sk_start he1, 1, rfl, a1, _, _, _, rfl, rfl, SqL.of ha1, last_get (by rw [ln, hl, ei]), rfl, true, rfl, iteT ⟨_, rfl, _, rfl, e1, _, rfl, sk_period he1, _, _, rfl, rfl, c + p, rfl, rfl, ok⟩⟩
      · exact ⟨_, rfl, e1, _, rfl, sk_start he1, 1, rfl, a1, _, _, _, rfl, rfl, SqL.of ha1, last_get (by rw [ln, hl, ei]), rfl, false, rfl, iteF ⟨_, rfl, c, rfl, rfl, ok⟩⟩
    rintro σ H1 ⟨sz, rfl, rfl, ok⟩
    have z0 := ok.z0
    have z1 := ok.z1
    refine ⟨fun σ H' => ∃ u, σ = [some (.ref e), some (.int (m : Nat)), some (.ref e1), some (.int (c : Nat)), some (.int (sz : Nat)), some (.ref u), none] ∧ H' u = some (.lst ((List.range sz).map (lesP ((m : Int) + 1) L))) ∧ Same H1 H', ?_, ?_⟩
    · refine ⟨_, rfl, sz, rfl, by omega, by omega, fun u hu' => LM.lcM (walk_range (lo := 0) (n := sz)) (lesP ((m : Int) + 1) L) hu' (by omega) (fun _ _ => trivial) ?_ fun H4 h4 s4 => ⟨u, rfl, h4, s4⟩⟩
      rintro j v H4 H5 hj s4 ⟨rfl, rfl⟩ R' N kk
      have ej : (0 : Int) + (j : Int) = (j : Int) := by omega
      have kk := kk _ (Same.refl _)
      rw [les_sg (by omega)] at kk
      refine ⟨rfl, _, rfl, _, rfl, e1, a1, _, p, j, g, _, ?_, s4 _ _ he1, s4 _ _ ha1, R1, by omega, ?_⟩
      · show [V.ref e1, V.int ((0 : Int) + (j : Int))] = _
        rw [ej]
      rcases R1.flat j with z | ⟨i, z⟩
      · rw [z] at kk ⊢
        exact ⟨rfl, true, rfl, iteT kk⟩
      · rw [z] at kk ⊢
        refine ⟨rfl, false, rfl, iteF ⟨_, rfl, _, rfl, e1, a1, _, p, j, g, _, ?_, s4 _ _ he1, s4 _ _ ha1, R1, by omega, ?_⟩⟩
        · show [V.ref e1, V.int ((0 : Int) + (j : Int))] = _
          rw [ej]
        rw [z]
        refine ⟨_, rfl, _, _, rfl, rfl, _, _, rfl, ?_⟩
        have kk : R' (V.int (max 0 (i - (m : Int)))) H5 := kk
        rw [show max 0 (i - (m : Int)) = (if i - (m : Int) > 0 then i - (m : Int) else 0) by split <;> omega] at kk
        exact kk
    rintro σ H2 ⟨u, rfl, hu2, s2⟩
    have he2 := s2 _ _ he1
    refine fun e' he' => ?_
    have he2' : ∀ o, upd H2 e' o e1 = some (.dK (skKvs a1 p g)) := fun o => by rw [upd_ne (ne_of_none he2 he')]; exact he2
    refine ⟨_, rfl, _, rfl, e1, _, rfl, sk_period (he2' _), _, rfl, e1, _, rfl, sk_growth (he2' _), upd_same, skKvs u p g, rfl, (by show 3 ≤ 15; decide), ?_⟩
    have lz : ((List.range sz).map (lesP ((m : Int) + 1) L)).length = sz := by rw [List.length_map, List.length_range]
    exact k e' u _ _ upd_same (by rw [upd_ne (ne_of_none hu2 he'), upd_ne (ne_of_none hu2 he')]; exact hu2) ok.row ok.fi (by rw [lz]; exact z0) (by rw [lz]; exact z1)
      (Same.trans s1 (Same.trans s2 fun b o hb => by rw [upd_ne (ne_of_none hb he'), upd_ne (ne_of_none hb he')]; exact hb))
theorem morP_non {m : Int} {s : List Int} : morP m (FN s) = FN (0 :: (s.drop 1).map fun i => i + m - 1) := by
  funext j
  unfold morP
  cases j with
  | zero =>
    rw [if_pos rfl, fn_low (by show 0 < _ + 1; omega)]
    rfl
  | succ j =>
    rw [if_neg (Nat.succ_ne_zero j)]
    by_cases c : j + 1 < s.length
    · rw [fn_low c, fn_low (by rw [List.length_cons, List.length_map, List.length_drop]; omega), List.getD_cons_succ, List.getD_eq_getElem?_getD, List.getD_eq_getElem?_getD, List.getElem?_map, List.getElem?_drop, show 1 + j = j + 1 by omega, List.getElem?_eq_getElem c]
      rfl
    · rw [fn_high (s := s) (by omega), fn_high (by rw [List.length_cons, List.length_map, List.length_drop]; omega)]
theorem row_more {xs : List V} {p n : Nat} {m g : Int} {F : Nat → V} (R : RowF xs p g F) (p0 : 0 < p) (h1 : xs.length ≤ n) (h2 : p + 1 ≤ n) (h3 : n ≤ 1000) (g0 : 0 ≤ g) (g1 : g ≤ 1000000000) : RowF ((List.range n).map (morP m F)) p g (morP m F) ∧ FormIn ((List.range n).map (morP m F)) p g := by
  rcases R.cases' with ⟨f, q, rfl, rfl, _, pm, pb, Q⟩ | ⟨s, k, rfl, rfl⟩
  · rw [List.length_map, List.length_range] at h1
    have e : morP m (fun j => .int (f j)) = fun j => .int (if j = 0 then 0 else f j + m - 1) := by
      funext j
      unfold morP
      split <;> rfl
    rw [e]
    refine ⟨row_int p0 (by omega) pb fun j hj => ?_, in_int p0 (by omega) (by omega) g0 (by omega)⟩
    rw [if_neg (by omega), if_neg (by omega)]
    have := Q j (by omega)
    omega
  · rw [List.length_append, List.length_map, List.length_replicate] at h1
    rw [morP_non]
    have l : (0 :: (s.drop 1).map fun i => i + m - 1).length < n := by
      rw [List.length_cons, List.length_map, List.length_drop]
      omega
    exact ⟨row_non l, in_non l (by omega)⟩
abbrev nMor : List Str := ["sketch", "more_here", "some", "found", "item"]
theorem scMor : FnScope nMor ["sketch", "more_here"] (defScope sMor) := ⟨rfl, rfl, rfl, by decide +kernel, rfl, by decide +kernel, by decide +kernel⟩
def spMor (K : PySem.W.Frag) : Sp := fun vs H Q _ => ∃ (e a : Addr) (xs : List V) (p : Nat) (m g : Int) (L : Nat → V), vs = [.ref e, .int m] ∧ H e = some (.dK (skKvs a p g)) ∧ H a = some (.lst xs) ∧ RowF xs p g L ∧ 0 < p ∧ p ≤ 60 ∧ xs.length ≤ 200 ∧ 0 ≤ g ∧ g ≤ 1000000000 ∧
  ∀ e' a' xs' H', H' e' = some (.dK (skKvs a' p g)) → H' a' = some (.lst xs') → RowF xs' p g (morP (m + 1) L) → FormIn xs' p g → 0 < xs'.length → xs'.length ≤ 1000 → Same H H' → Q (.ref e') H'
theorem ok_mor {f : Addr} {fd : FuncData} (F : Fun K "_law_more_at_once" "_law_more_at_once" sMor f fd) (T : CurG mg) (c_pl2 : Cal P w K mg base CX0 1 "_law_plus" ["one", "other"] (spPl2 K)) (c_fn2 : Cal P w K mg base CX0 2 "_law_from_nought" ["sketch"] (spFn2 K)) : FnOk P w K mg base CX0 3 f fd ["sketch", "more_here"] (spMor K) := by
  refine F.ok scMor (fun vs H Q E h => ?_) (fun cdv A outer s H vs Q E hr h => ?_)
  · obtain ⟨e, a, xs, p, m, g, L, rfl, _⟩ := h
    rfl
  · obtain ⟨e, a, xs, p, m, g, L, rfl, he, ha, R, p0, p1, lx, g0, g1, k⟩ := h
    have hu := hu_of hr
    refine ⟨_, (C8.pss_cut (ps_set (i := 2) scMor.nd rfl (Or.inl rfl) (pe_callC c_fn2 (hr.mono (by decide)) rfl pass0 (pa_cons (pv 0) pa_nil)))
 (C8.pss_cut (ps_set (i := 3) scMor.nd rfl (Or.inl rfl) (pe_op op_cat (pe_lst (pa_cons pe_int pa_nil)) (pe_lc (own := [("item", 4)]) (g := (gName 4)) (tt := tYes) rfl scMor.nd (pi_list (pe_slice sl_list (pe_dget hu (pv 2) pe_str (fun _ _ => rfl)) (po_some pe_int) po_none)) (blkOk_by (N := nMor) (sc := defScope sMor) (by decide +kernel)) (fun _ _ _ _ _ => (pg_name (i := 4) scMor.nd rfl (Or.inl rfl))) (fun _ _ _ _ _ => pts_nil) (fun _ _ _ _ _ => (pe_callC c_pl2 (hr.mono (by decide)) rfl pass0 (pa_cons (pv 4) (pa_cons (pv 1) pa_nil)))))))
 (pss_one
 (ps_ret (pe_disp (pps_cons pe_str (pv 3) (pps_cons pe_str (pe_dget hu (pv 2) pe_str (fun _ _ => rfl)) (pps_cons pe_str (pe_dget hu (pv 2) pe_str (fun _ _ => rfl)) pps_nil))) (by rfl) (by rfl) (fun z => by cases z) (by decide)))))), ?_⟩
    obtain ⟨n, en⟩ : ∃ n, n = max xs.length (p + 1) := ⟨_, rfl⟩
    have R1 : RowF ((List.range n).map (SG L)) p g (SG L) := row_nought R p0 (by omega) (by omega)
    obtain ⟨RM, IM⟩ := row_more (m := m + 1) R p0 (show xs.length ≤ n by omega) (by omega) (by omega) g0 g1
    have ln : ((List.range n).map (SG L)).length = n := by rw [List.length_map, List.length_range]
    refine ⟨fun σ H' => ∃ e1 a1, σ = [some (.ref e), some (.int m), some (.ref e1), none, none] ∧ H' e1 = some (.dK (skKvs a1 p g)) ∧ H' a1 = some (.lst ((List.range n).map (SG L))) ∧ Same H H', ?_, ?_⟩
    · exact ⟨_, rfl, e, a, xs, p, g, L, rfl, he, ha, R, p0, p1, lx, fun e1 a1 H1 _ _ h1 h2 s1 => ⟨e1, a1, rfl, h1, by rw [en]; exact h2, s1⟩⟩
    rintro σ H1 ⟨e1, a1, rfl, he1, ha1, s1⟩
    refine ⟨fun σ H' => ∃ u, σ = [some (.ref e), some (.int m), some (.ref e1), some (.ref u), none] ∧ H' u = some (.lst ((List.range n).map (morP (m + 1) L))) ∧ Same H1 H', ?_, ?_⟩
    · refine ⟨(by show 1 ≤ sizeLine; decide), fun u hu' => ?_⟩
      generalize g2 : upd H1 u _ = H2
      obtain ⟨s2, f2⟩ := alloc g2 hu'
      refine ⟨_, rfl, e1, _, rfl, sk_start (s2 _ _ he1), 1, rfl, a1, _, rfl, SqL.of (s2 _ _ ha1), fun z hz => ?_⟩
      generalize g3 : upd H2 z _ = H3
      obtain ⟨s3, f3⟩ := alloc g3 hz
      rw [cut1 (by rw [ln]; omega)] at f3
      have ed : ((List.range n).map (SG L)).drop 1 = (List.range (n - 1)).map fun j => L (j + 1) := by
        obtain ⟨q, rfl⟩ : ∃ q, n = q + 1 := ⟨n - 1, by omega⟩
        rw [List.range_succ_eq_map, List.map_cons, List.drop_one, List.tail_cons, List.map_map]
        rfl
      rw [ed] at f3
      have lr : ((List.range (n - 1)).map fun j => L (j + 1)).length = n - 1 := by rw [List.length_map, List.length_range]
      refine ⟨z, rfl, ⟨_, SqL.of f3⟩, fun D hD => LM.lcM (walk_list (xs := (List.range (n - 1)).map fun j => L (j + 1))) (fun j => morP (m + 1) L (j + 1)) hD (by rw [lr]; omega) (fun H4 s4 => SqL.of (s4 _ _ f3)) ?_ fun H4 h4 s4 => ?_⟩
      · rintro j x H4 H5 hj s4 ⟨rfl, hx⟩ R' N kk
        rw [lr] at hj
        rw [List.getElem?_map, List.getElem?_range hj] at hx
        have hx : L (j + 1) = x := Option.some.inj hx
        have kk := kk _ (Same.refl _)
        have ex : morP (m + 1) L (j + 1) = plV x (.int m) := by
          unfold morP
          rw [if_neg (by omega), hx]
          have fl := R.flat (j + 1)
          rw [hx] at fl
          rcases fl with rfl | ⟨i, rfl⟩
          · rfl
          · show V.int (i + (m + 1) - 1) = V.int (i + m)
            congr 1
            omega
        rw [ex] at kk
        exact ⟨rfl, _, rfl, _, rfl, x, .int m, rfl, by rw [← hx]; exact R.flat _, .inr ⟨_, rfl⟩, kk⟩
      · rw [lr] at h4
        refine ⟨u, D, _, _, rfl, rfl, s4 _ _ (s3 _ _ f2), h4, ?_, fun o ho => ⟨o, rfl, ?_, Same.trans s2 (Same.trans s3 (Same.trans s4 (same_new ho)))⟩⟩
        · rw [List.length_map, List.length_range]
          show 1 + _ ≤ sizeLine
          exact line_of (by omega)
        · have ee : [V.int 0] ++ (List.range (n - 1)).map (fun j => morP (m + 1) L (j + 1)) = (List.range n).map (morP (m + 1) L) := by
            obtain ⟨q, rfl⟩ : ∃ q, n = q + 1 := ⟨n - 1, by omega⟩
            rw [List.range_succ_eq_map, List.map_cons, List.map_map]
            rfl
          rw [ee]
          exact upd_same
    rintro σ H2 ⟨u, rfl, hu2, s2⟩
    have he2 := s2 _ _ he1
    refine fun e' he' => ?_
    have he2' : ∀ o, upd H2 e' o e1 = some (.dK (skKvs a1 p g)) := fun o => by rw [upd_ne (ne_of_none he2 he')]; exact he2
    refine ⟨_, rfl, _, rfl, e1, _, rfl, sk_period (he2' _), _, rfl, e1, _, rfl, sk_growth (he2' _), upd_same, skKvs u p g, rfl, (by show 3 ≤ 15; decide), ?_⟩
    have lz : ((List.range n).map (morP (m + 1) L)).length = n := by rw [List.length_map, List.length_range]
    exact k e' u _ _ upd_same (by rw [upd_ne (ne_of_none hu2 he'), upd_ne (ne_of_none hu2 he')]; exact hu2) RM IM (by rw [lz]; omega) (by rw [lz]; omega)
      (Same.trans s1 (Same.trans s2 fun b o hb => by rw [upd_ne (ne_of_none hb he'), upd_ne (ne_of_none hb he')]; exact hb))
end
end WW
end

section
set_option Elab.async false
set_option linter.all false
set_option maxRecDepth 100000
set_option maxHeartbeats 16000000
namespace WW
open PySem L2 WO WG RZ WQ WT WL WV WC
open LamX (ExtN Tabs TabS TabB lamS_by)
abbrev sLim : Stmt := top 87
abbrev nLim : List Str := ["draw", "pace", "beats_here", "less_here", "told", "caught", "due", "beat"]
theorem scLim : FnScope nLim ["draw"] (defScope sLim) := ⟨rfl, rfl, rfl, by decide +kernel, rfl, by decide +kernel, by decide +kernel⟩
abbrev lamQ2 : Str := "_law_limit_right.<locals>.<lambda>"
/-- so much at each beat -/
theorem at_line {g : Int} (j : Nat) : MF.at_ [0] 1 g j = (j : Int) * g := by
  cases j with
  | zero =>
    rw [MF.at_low (by decide)]
    show (0 : Int) = ((0 : Nat) : Int) * g
    omega
  | succ j =>
    unfold MF.at_
    rw [if_neg (by show ¬ j + 1 < 1; omega)]
    have e : (j + 1 - [(0 : Int)].length) / 1 = j := by
      rw [Nat.div_one]
      rfl
    rw [e, Nat.mul_one, Nat.sub_self]
    show (0 : Int) + ((j + 1 : Nat) : Int) * g = _
    omega
theorem make_line {g : Int} (g0 : 0 ≤ g) (g1 : g ≤ 1000000000) : MakeOk [V.int 0] 1 g where
  st := ⟨by decide, by decide, fun i x h => by
      match i, h with
      | 0, h => cases h; exact .inr ⟨0, rfl, by decide, by decide⟩, fun i x y h h2 => by
      match i, h, h2 with
      | 0, _, h2 => cases h2⟩
  fo := .mkI [0] 1 g (by decide) (by decide) (by decide) g0 (by omega)
  p1 := by decide
  p2 := by decide
  p3 := by decide
  g0 := g0
  g1 := g1
  fa := ⟨.int 0, .int 0, rfl, rfl, .inl ⟨0, 0, rfl, rfl, by omega⟩⟩
/-- late by some beats -/
def limF (pc ls : Nat) (j : Nat) : Int := max 0 ((pc : Int) * (j : Int) - (ls : Int))
theorem lim_les {pc ls : Nat} : lesP ((ls : Int) + 1) (fun j => .int (MF.at_ [0] 1 (pc : Int) j)) = fun j => .int (limF pc ls j) := by
  funext j
  rw [les_sg (by omega)]
  cases j with
  | zero =>
    show V.int (max 0 (0 - (ls : Int))) = V.int (max 0 ((pc : Int) * ((0 : Nat) : Int) - (ls : Int)))
    congr 1
  | succ j =>
    unfold SG
    rw [if_neg (Nat.succ_ne_zero j)]
    show V.int (max 0 (MF.at_ [0] 1 (pc : Int) (j + 1) - (ls : Int))) = V.int (max 0 ((pc : Int) * ((j + 1 : Nat) : Int) - (ls : Int)))
    rw [at_line, Int.mul_comm]
theorem lim_form {pc B q : Nat} (q0 : q < pc) (B0 : 1 ≤ B) : FormG (fun j => V.int (limF pc ((B - 1) * pc + 1 + q) j)) ((List.range (B + 1)).map fun j => V.int (limF pc ((B - 1) * pc + 1 + q) j)) 1 (pc : Int) := by
  have eB : ((B - 1 : Nat) * pc : Nat) + pc = B * pc := by
    rw [← Nat.succ_mul]
    congr 1
    omega
  have at_ : ∀ k : Nat, limF pc ((B - 1) * pc + 1 + q) (B + k) = (pc : Int) * (k : Int) + (pc : Int) - 1 - (q : Int) := fun k => by
    unfold limF
    have e1 : (pc : Int) * ((B + k : Nat) : Int) = ((B * pc : Nat) : Int) + (pc : Int) * (k : Int) := by
      rw [Int.natCast_add, Int.mul_add, Int.natCast_mul, Int.mul_comm (pc : Int) (B : Int)]
    have : 0 ≤ (pc : Int) * (k : Int) := Int.mul_nonneg (by omega) (by omega)
    rw [e1]
    omega
  have low : limF pc ((B - 1) * pc + 1 + q) (B - 1) = 0 := by
    unfold limF
    have e1 : (pc : Int) * ((B - 1 : Nat) : Int) = (((B - 1) * pc : Nat) : Int) := by
      rw [Int.natCast_mul, Int.mul_comm]
    rw [e1]
    omega
  refine .mkI _ 1 _ B ⟨by decide, fun j hj => ?_, fun q' h _ => h, .inr ?_⟩
  · obtain ⟨k, rfl⟩ : ∃ k, j = B + k := ⟨j - B, by omega⟩
    rw [show B + k + 1 = B + (k + 1) by omega, at_, at_, Int.natCast_add, Int.mul_add]
    omega
  · have a0 := at_ 0
    rw [show B - 1 + 1 = B + 0 by omega, a0, low]
    omega
section
variable {P : Program} {w : World} {K : PySem.W.Frag} {mg : Str → Option Value} {base : Heap}
def spLim (K : PySem.W.Frag) (tb2 : Addr) : Sp := fun vs H Q _ => ∃ d l c : Addr, vs = [.ref d] ∧ DT [(tb2, lamQ2)] H d l c ∧ ∀ H', Q (.bl true) H'
theorem ok_lim {f fC ct tb2 W C CB CN CT fI fE : Addr} {fd dC dI : FuncData} (F : Fun K "_law_limit_right" "_law_limit_right" sLim f fd) (hcode : fd.code = .ref ct) (TB : TabB base mg ct tb2) (T : CurG mg) (nmax : mg "max" = none) (nrepr : mg "repr" = none) (U : CurT K mg C fI fE)
    (GI : FnOk P w K mg base (L2.CX P w) 4 fI dI ["self", "start", "period", "growth"] (spInit K C CB)) (bI : Binds K dI ["self", "start", "period", "growth"] [])
    (EM : ErrGf K W CT "most") (mW : mg "WaitError" = some (.ref W)) (mCT : mg "TooMany" = some (.ref CT))
    (c_tak : Cal P w K mg base CX0 2 "_law_take" ["draw", "amount"] (spTake K)) (c_psv : Cal P w K mg base (L2.CX P w) 8 "parcel_service" ["service", "most"] (spPsv K C CB CN CT))
    (FC : Fun K "_law_caught" "_law_caught" sCaught fC dC) (bC : Binds K dC ["work"] []) (mC : mg "_law_caught" = some (.ref fC)) :
    FnG P w K mg base CX0 11 f fd ["draw"] (spLim K tb2) := by
  obtain ⟨ocC, odC, kVC, docC, pmC, anC, cdvC, ctC, oslC, rfl, lkC, hcdC⟩ := FC.ex
  have kC := FC.kp
  refine okC F hcode scLim (fun vs H Q E h => ?_) (fun A outer s H vs Q E hr hgu h => ?_)
  · obtain ⟨d, l, c, rfl, _⟩ := h
    rfl
  · obtain ⟨d, l, c, rfl, D, k⟩ := h
    have hu := hu_of hr
    have hu64 := hr.units
    refine ⟨_, (C8.pss_cut (ps_asg (pe_tup (pa_cons (pe_op op_add pe_int (pe_callC c_tak (hr.mono (by decide)) rfl pass0 (pa_cons (pv 0) (pa_cons pe_int pa_nil)))) (pa_cons (pe_op op_add pe_int (pe_callC c_tak (hr.mono (by decide)) rfl pass0 (pa_cons (pv 0) (pa_cons pe_int pa_nil)))) pa_nil))) (pg_tup rfl (pgs_cons (pg_name (i := 1) scLim.nd rfl (Or.inr rfl)) (pgs_cons (pg_name (i := 2) scLim.nd rfl (Or.inl rfl)) pgs_nil))))
 (C8.pss_cut (ps_set (i := 3) scLim.nd rfl (Or.inr rfl) (pe_op op_add (pe_op op_add (pe_op op_mul (pe_op op_sub (pv 2) pe_int) (pv 1)) pe_int) (pe_callC c_tak (hr.mono (by decide)) rfl pass0 (pa_cons (pv 0) (pa_cons (pv 1) pa_nil)))))
 (C8.pss_cut (ps_set (i := 4) scLim.nd rfl (Or.inr rfl) (pe_lst pa_nil))
 (C8.pss_cut (ps_set (i := 5) scLim.nd rfl (Or.inl rfl) (LamX.pe_lamcall (T := [(tb2, lamQ2)]) (TT := TTc K W) (Ng := nCaught) (k := 8) (by rfl) mC kC lkC hcdC bC scCaught rfl (Or.inl rfl)
                (caught_gives rfl mW rfl rfl rfl) TB rfl (List.mem_singleton.mpr rfl) (fun p hp _ => by cases List.mem_singleton.mp hp; rfl) hr (lamS_by (sc := defScope sLim) (by decide +kernel)) (by rfl) (fun _ _ _ _ _ => by rfl)
                (fun A outer s H E f c' hr' => (show PE _ _ (tBM K "list" rAppend (tVar 4) _) from (pe_bm PySem.F.plainAttrs_list PySem.F.slot_list_append PySem.F.type_list_append mt_append (pv 4) (pa_cons (pe_callC c_psv (hr'.mono (by decide)) rfl (passX (takes_of rfl rfl rfl rfl) fun _ _ _ _ h => h) (pa_cons (pe_make U.mkC GI (hr'.mono (by decide)) rfl U.mC bI .nil (passX (takes_of rfl rfl rfl rfl) fun _ _ _ _ h => h) (pa_cons (pe_lst (pa_cons pe_int pa_nil)) (pa_cons pe_int (pa_cons (pv 1) pa_nil)))) (pa_cons (pe_op op_add (pv 3) pe_int) pa_nil))) pa_nil))))))
 (C8.pss_cut (ps_if (pt_cmpR op_gt (pv 2) pe_int (nomark _)) (pss_one
 (ps_ret (pe_and (pe_callB (r := rIsA K) call_isA (by rfl) T.isi (by decide +kernel) (pa_cons (pv 5) (pa_cons (pe_glob (v := .ref CT) rfl mCT rfl) pa_nil))) (pe_one (pe_cmpR op_eq (pe_ctF (pv 5)) pe_int (nomark _)))))) pss_nil)
 (C8.pss_cut (ps_set (i := 6) scLim.nd rfl (Or.inl rfl) (pe_callTy call_tuple_of (by rfl) T.tuple (by decide +kernel) (pa_cons (pe_lc (own := [("beat", 7)]) (g := (gName 7)) (tt := tYes) rfl scLim.nd (pi_range1 rfl T.range (pa_cons (pe_op op_add (pv 2) pe_int) pa_nil)) (blkOk_by (N := nLim) (sc := defScope sLim) (by decide +kernel)) (fun _ _ _ _ _ => (pg_name (i := 7) scLim.nd rfl (Or.inl rfl))) (fun _ _ _ _ _ => pts_nil) (fun _ _ _ _ _ => (pe_callB (call_max2 rfl) (by rfl) nmax (by decide +kernel) (pa_cons pe_int (pa_cons (pe_op op_sub (pe_op op_mul (pv 1) (pv 7)) (pv 3)) pa_nil))))) pa_nil)))
 (pss_one
 (ps_ret (pe_and (pe_cmpR op_isN (pv 5) pe_non (nomark _)) (pe_one (pe_cmpR op_eq (pe_callB (call_repr hgu hu64) (by rfl) nrepr (by decide +kernel) (pa_cons (pe_tup (pa_cons (pe_fld (pe_ix ix_list (pv 4) pe_int (fun _ _ => rfl)) rfl) (pa_cons (pe_fld (pe_ix ix_list (pv 4) pe_int (fun _ _ => rfl)) rfl) (pa_cons (pe_fld (pe_ix ix_list (pv 4) pe_int (fun _ _ => rfl)) rfl) pa_nil)))) pa_nil)) (pe_callB (call_repr hgu hu64) (by rfl) nrepr (by decide +kernel) (pa_cons (pe_tup (pa_cons (pv 6) (pa_cons pe_int (pa_cons (pv 1) pa_nil)))) pa_nil)) (nomark _)))))))))))), ?_⟩
    refine ⟨fun σ H' => ∃ pc B : Nat, σ = [some (.ref d), some (.int (pc : Nat)), some (.int (B : Nat)), none, none, none, none, none] ∧ 1 ≤ pc ∧ pc ≤ 240 ∧ 3997 ≤ B ∧ B ≤ 4002 ∧ DT [(tb2, lamQ2)] H' d l c, ?_, ?_⟩
    · refine ⟨_, rfl, d, l, c, 240, rfl, D.D, by decide, by decide, fun r H1 r0 r1 D1 k1 => ⟨_, _, rfl, rfl, _, rfl, d, l, c, 6, rfl, D1, by decide, by decide, fun r2 H2 r20 r21 D2 k2 => ⟨_, _, rfl, rfl, (by show 2 ≤ sizeLine; decide), fun u hu => ⟨u, [_, _], rfl, SqT.of upd_same, rfl, _, _, rfl, _, _, rfl, rfl, (1 + r).toNat, (3997 + r2).toNat, ?_, by omega, by omega, by omega, by omega, ((D.keep D1 k1).keep D2 k2).same (same_new hu)⟩⟩⟩⟩
      rw [show (((1 + r).toNat : Nat) : Int) = 1 + r by omega, show (((3997 + r2).toNat : Nat) : Int) = 3997 + r2 by omega]
      rfl
    clear D
    rintro σ H1 ⟨pc, B, rfl, pc0, pc1, B0, B1, D⟩
    refine ⟨fun σ H' => ∃ q : Nat, σ = [some (.ref d), some (.int (pc : Nat)), some (.int (B : Nat)), some (.int ((B - 1) * pc + 1 + q : Nat)), none, none, none, none] ∧ q < pc ∧ DT [(tb2, lamQ2)] H' d l c, ?_, ?_⟩
    · refine ⟨_, rfl, _, _, rfl, rfl, _, rfl, _, _, rfl, rfl, .inl ⟨by omega, by omega⟩, _, _, rfl, rfl, _, rfl, _, rfl, d, l, c, _, rfl, D.D, by omega, by omega, fun r H2 r0 r1 D2 k2 => ⟨_, _, rfl, rfl, r.toNat, ?_, by omega, D.keep D2 k2⟩⟩
      have e : (((B - 1) * pc + 1 + r.toNat : Nat) : Int) = ((B : Int) - 1) * (pc : Int) + 1 + r := by
        rw [Int.natCast_add, Int.natCast_add, Int.natCast_mul, show ((B - 1 : Nat) : Int) = (B : Int) - 1 by omega]
        omega
      rw [e]
      rfl
    clear D
    rintro σ H2 ⟨q, rfl, q0, D⟩
    obtain ⟨ls, els⟩ : ∃ ls, ls = (B - 1) * pc + 1 + q := ⟨_, rfl⟩
    rw [← els]
    have lsB : ls ≤ 999990 := by
      have : (B - 1) * pc ≤ 4001 * 240 := Nat.mul_le_mul (by omega) pc1
      omega
    have fg : FormG (fun j => V.int (limF pc ls j)) ((List.range (B + 1)).map fun j => V.int (limF pc ls j)) 1 (pc : Int) := by
      rw [els]
      exact lim_form q0 (by omega)
    refine ⟨fun σ H' => ∃ u, σ = [some (.ref d), some (.int (pc : Nat)), some (.int (B : Nat)), some (.int (ls : Nat)), some (.ref u), none, none, none] ∧ H' u = some (.lst []) ∧ DT [(tb2, lamQ2)] H' d l c, ?_, ?_⟩
    · exact ⟨(by show 0 ≤ sizeLine; decide), fun u hu => ⟨u, rfl, upd_same, D.same (same_new hu)⟩⟩
    clear D
    rintro σ H3 ⟨u, rfl, h3, D⟩
    refine ⟨fun σ H' => ∃ z, σ = [some (.ref d), some (.int (pc : Nat)), some (.int (B : Nat)), some (.int (ls : Nat)), some (.ref u), some (z), none, none] ∧ ((3999 < B ∧ ∃ ad, z = .ref ad ∧ ErrC H' ad CT (some ("most", .int 4000))) ∨ (B ≤ 3999 ∧ z = .non ∧ ∃ y, H' u = some (.lst [.ref y]) ∧ CurveAt H' C y ((List.range (B + 1)).map fun j => V.int (limF pc ls j)) ((1 : Nat) : Int) (pc : Int))), ?_, ?_⟩
    · refine ⟨D.T, fun H8 x8 T8 => ?_⟩
      have h8 : H8 u = some (.lst []) := x8 _ _ h3 (fun _ z => by cases z)
      refine ⟨_, rfl, .inl ⟨rfl, _, SqL.of h8⟩, (by show 1 ≤ sizeLine; decide), fun a0 ha0 => ?_⟩
      generalize g9 : upd H8 a0 _ = H9
      obtain ⟨s9, f9⟩ := alloc g9 ha0
      refine ⟨_, rfl, fun x dx hx hdx ne => ?_⟩
      generalize g10 : upd H9 dx _ = H10
      obtain ⟨s10, f10⟩ := alloc g10 hdx
      have hx10 : H10 x = none := by rw [← g10, upd_ne (Ne.symm ne)]; exact hx
      generalize g11 : upd H10 x _ = H11
      obtain ⟨s11, f11⟩ := alloc g11 hx10
      have M := make_line (g := (pc : Int)) (by omega) (by omega)
      refine ⟨x, dx, _, _, _, rfl, f11, .inl ⟨a0, [.int 0], 1, (pc : Int), rfl, rfl, rfl, .inl (SqL.of (s11 _ _ (s10 _ _ f9))), M, fun vals q' r' H12 fv cu kp => ⟨rfl, ?_⟩⟩⟩
      have sx : Same H9 H12 := fun b o e => kp b o (s11 _ _ (s10 _ _ e)) (ne_of_none e hx)
      obtain ⟨qn, rfl, CM⟩ := calm_of M fv
      obtain ⟨qn', eqn, fL⟩ := form_g fv (.mkI [0] 1 (pc : Int) (by decide) (by decide) (by decide))
      obtain rfl : qn = qn' := Int.ofNat.inj eqn
      have lv := formV_len fv
      have s12 := Same.trans s9 sx
      have kc : KcP H12 C x (fun j => .int (MF.at_ [0] 1 (pc : Int) j)) qn := ⟨vals, r', cu, fL, CM, by have : vals.length ≤ 1 := lv; omega⟩
      refine ⟨_, rfl, _, _, rfl, rfl, .ref x, .int ((ls : Int) + 1), rfl, .inr ⟨x, _, qn, rfl, kc, .inr ⟨(ls : Int) + 1, rfl, by omega, by omega, fun v q2 r2 y H' fg2 l4 hy cy s' => ?_, fun fa d' H' rd => ?_⟩⟩⟩
      · rw [lim_les] at fg2
        obtain ⟨rfl, rfl, rfl⟩ := fg2.uniq fg
        have hu' : H' u = some (.lst []) := s' _ _ (s12 _ _ h8)
        have BB : B ≤ 3999 := by
          rw [List.length_map, List.length_range] at l4
          omega
        refine ⟨u, _, _, rfl, rfl, hu', (by show 0 < sizeLine; decide), _, rfl, _, rfl, .inr ⟨BB, rfl, y, upd_same, ?_⟩⟩
        obtain ⟨dy, ty, y1, y2⟩ := cy
        refine ⟨dy, ty, ?_, ?_⟩
        · rw [upd_ne (ne_of y1 hu' (by intro z; cases z))]
          exact y1
        · rw [upd_ne (ne_of y2 hu' (by intro z; cases z))]
          exact y2
      · rw [lim_les] at fa
        have big := fa _ _ _ fg
        rw [List.length_map, List.length_range] at big
        refine ⟨EM.ex, fun ad hd => ⟨_, rfl, .inl ⟨by omega, ad, rfl, ?_⟩⟩⟩
        have sb := same_new (o := Caught (.ref CT) (some d') ad) hd
        exact .with_ upd_same (sb _ _ rd.2.1)
    rintro σ H4 ⟨z, rfl, hz⟩
    refine ⟨fun σ H' => σ = [some (.ref d), some (.int (pc : Nat)), some (.int (B : Nat)), some (.int (ls : Nat)), some (.ref u), some (.non), none, none] ∧ H' = H4 ∧ B ≤ 3999 ∧ ∃ y, H' u = some (.lst [.ref y]) ∧ CurveAt H' C y ((List.range (B + 1)).map fun j => V.int (limF pc ls j)) ((1 : Nat) : Int) (pc : Int), ?_, ?_⟩
    · refine ⟨_, rfl, _, _, rfl, rfl, ?_⟩
      rcases hz with ⟨hB, ad, rfl, er⟩ | ⟨hB, rfl, y⟩
      · refine ⟨true, bT (by omega), iteT ⟨_, rfl, .inl ⟨ad, CT, _, .ref CT, .ref CT, true, rfl, er, .own _, EM.ask, EM.one, true, rfl, iteT ⟨_, rfl, ad, CT, .int 4000, rfl, er, EM.ask, EM.hd, EM.hf, rfl, k _⟩⟩⟩⟩
      · exact ⟨false, bF (by omega), iteF ⟨rfl, rfl, hB, y⟩⟩
    rintro σ H5 ⟨rfl, rfl, hB, y, hy, cy⟩
    refine ⟨fun σ H' => ∃ t, σ = [some (.ref d), some (.int (pc : Nat)), some (.int (B : Nat)), some (.int (ls : Nat)), some (.ref u), some (.non), some (.ref t), none] ∧ H' t = some (.tup ((List.range (B + 1)).map fun j => V.int (limF pc ls j))) ∧ Same H5 H', ?_, ?_⟩
    · refine ⟨_, rfl, _, _, rfl, rfl, ((B + 1 : Nat) : Int), rfl, by omega, by omega, fun D' hD => LM.lcM (walk_range (lo := 0) (n := (((B + 1 : Nat) : Int)).toNat)) (fun j => V.int (limF pc ls j)) hD (by omega) (fun _ _ => trivial) ?_ fun H6 h6 s6 => ⟨D', _, rfl, .inl ⟨SqL.of h6, fun t ht => ⟨t, rfl, upd_same, Same.trans s6 (same_new ht)⟩⟩⟩⟩
      rintro j v H6 H7 hj s6 ⟨rfl, rfl⟩ R' N kk
      have ej : (0 : Int) + (j : Int) = (j : Int) := by omega
      refine ⟨rfl, _, rfl, _, rfl, _, _, rfl, rfl, .inl ⟨by omega, by omega⟩, _, rfl, _, _, rfl, rfl, _, _, rfl, ?_⟩
      have kk := kk _ (Same.refl _)
      unfold limF at kk
      rw [ej]
      rw [show max 0 ((pc : Int) * (j : Int) - (ls : Int)) = (if (pc : Int) * (j : Int) - (ls : Int) > 0 then (pc : Int) * (j : Int) - (ls : Int) else 0) by split <;> omega] at kk
      exact kk
    rintro σ H6 ⟨t, rfl, ht, s6⟩
    have hu6 := s6 _ _ hy
    obtain ⟨dy, ty, y1, y2⟩ := cy.same s6
    have gi : atI [V.ref y] 0 = some (.ref y) := rfl
    have sm : ∀ x ∈ (List.range (B + 1)).map (fun j => V.int (limF pc ls j)), SmallV x := fun x hx => by
      obtain ⟨j, hj, rfl⟩ := List.mem_map.mp hx
      have hj := List.mem_range.mp hj
      refine .inr ⟨_, rfl, ?_⟩
      unfold limF
      have m1 : (pc : Int) * (j : Int) ≤ 240 * 4001 := Int.mul_le_mul (by omega) (by omega) (by omega) (by decide)
      show (max 0 ((pc : Int) * (j : Int) - (ls : Int))).natAbs < 2 ^ 64
      omega
    have gc : GoodC ((List.range (B + 1)).map fun j => V.int (limF pc ls j)) ((1 : Nat) : Int) (pc : Int) := good_of sm (by rw [List.length_map, List.length_range]; omega) (by show ((1 : Nat) : Int).natAbs < 2 ^ 64; decide) (by show ((pc : Nat) : Int).natAbs < 2 ^ 64; omega)
    refine ⟨_, rfl, rfl, true, rfl, iteT ?_⟩
    refine ⟨_, rfl, u, _, _, _, rfl, rfl, SqL.of hu6, gi, y, C, dy, _, .ref ty, rfl, y1, U.cl, U.nS, rfl, _, rfl, u, _, _, _, rfl, rfl, SqL.of hu6, gi, y, C, dy, _, .int ((1 : Nat) : Int), rfl, y1, U.cl, U.nP, rfl, _, rfl, u, _, _, _, rfl, rfl, SqL.of hu6, gi, y, C, dy, _, .int (pc : Nat), rfl, y1, U.cl, U.nG, rfl, (by show 3 ≤ sizeLine; decide), fun T2 hT2 => ?_⟩
    generalize g7 : upd H6 T2 _ = H7
    obtain ⟨s7, f7⟩ := alloc g7 hT2
    refine ⟨T2, _, rfl, rdb_dp (dp_cur f7 (s7 _ _ y2) fg.flat) gc.hd, gc.sh, gc.dp, gc.le, ?_⟩
    refine ⟨_, rfl, _, rfl, (by show 3 ≤ sizeLine; decide), fun T3 hT3 => ?_⟩
    generalize g8 : upd H7 T3 _ = H8
    obtain ⟨s8, f8⟩ := alloc g8 hT3
    refine ⟨T3, _, rfl, rdb_dp (dp_cur f8 (s8 _ _ (s7 _ _ ht)) fg.flat) gc.hd, gc.sh, gc.dp, gc.le, rfl, ?_⟩
    have fin : ∀ b : Bool, b = true → Q (.bl b) H8 := fun b hb => by
      rw [hb]
      exact k _
    exact fin _ (decide_eq_true rfl)
end
end WW
end

section
set_option Elab.async false
set_option linter.all false
set_option maxRecDepth 100000
set_option maxHeartbeats 4000000
namespace WW
open PySem L2 WO WG RZ WQ WT WC
theorem lcDrawA {J : It} {n : Nat} {G : Hp → Prop} {Y : Nat → Hp → V → Hp → Prop} (w : Walk J n G Y) {g : TG} {tt : TT} {te : TE} {vs : List Nat} {σ : L2.St} {H1 : Hp} {D d l c : Addr} {A B : Int} {Qd : Hp → Prop} (hD : H1 D = none) (D1 : DrawAt H1 d l c) (hn : n ≤ 1000) (hG : ∀ H, KeepD H1 H d l → G H)
    (hs : ∀ i x H H', i < n → DrawAt H d l c → KeepD H1 H d l → Y i H x H' → ∀ (R : V → Hp → Prop) (N : Hp → Prop), (∀ z H4, A ≤ z → z ≤ B → DrawAt H4 d l c → KeepD H H4 d l → R (.int z) H4) → g x (wipe σ vs) H' fun σ2 H2 => wipe σ2 vs = wipe σ vs ∧ tt σ2 H2 fun b H3 => if b = true then te σ2 H3 R else N H3)
    (hd : ∀ (ns : List Int) H, ns.length = n → (∀ z ∈ ns, A ≤ z ∧ z ≤ B) → H D = some (.lst (ns.map V.int)) → DrawAt H d l c → KeepD H1 H d l → Qd H) :
    ∃ W : Nat → Nat → Hp → Prop, (∃ m, W 0 m (upd H1 D (.lst []))) ∧ ∀ i m H, W i m H →
      (J.stop i H ∧ Qd H) ∨ (J.go i H ∧ ∃ Nx : Hp → Prop, (∀ H', Nx H' → ∃ m', m' < m ∧ W (i + 1) m' H') ∧ ∀ x H', J.yld i H x H' → g x (wipe σ vs) H' fun σ2 H2 => wipe σ2 vs = wipe σ vs ∧ tt σ2 H2 fun b H3 =>
        if b = true then te σ2 H3 fun y H4 => ∃ acc, H4 D = some (.lst acc) ∧ acc.length < sizeLine ∧ Nx (upd H4 D (.lst (acc ++ [y]))) else Nx H3) := by
  have Dd := D1.nd hD
  have Dl := D1.nl hD
  refine lc_it w (fun i H => ∃ ns : List Int, ns.length = i ∧ (∀ z ∈ ns, A ≤ z ∧ z ≤ B) ∧ H D = some (.lst (ns.map V.int)) ∧ DrawAt H d l c ∧ KeepD H1 H d l) ⟨[], rfl, fun z hz => absurd hz List.not_mem_nil, upd_same, D1.same (same_new hD), Same.keepD d l (same_new hD)⟩ (fun i H _ ⟨_, _, _, _, _, k⟩ => hG H k) (fun i x H H' hi ⟨ns, ln, hb, hh, D2, k2⟩ y => ?_) (fun H ⟨ns, ln, hb, hh, D2, k2⟩ => hd ns H ln hb hh D2 k2)
  refine hs i x H H' hi D2 k2 y _ _ fun z H4 z0 z1 D4 k4 => ⟨_, k4 _ _ hh Dd Dl, ?_, ns ++ [z], ?_, fun y hy => ?_, ?_, D4.put Dd Dl (D1.nc hD), (k2.trans k4).trans' hD⟩
  · rw [List.length_map, ln]
    exact small1000 (by omega)
  · rw [List.length_append, ln]
    rfl
  · rcases List.mem_append.mp hy with hy | hy
    · exact hb y hy
    · cases List.mem_singleton.mp hy
      exact ⟨z0, z1⟩
  · rw [List.map_append]
    exact upd_same
abbrev sGa2 : Stmt := top 79
section
variable {P : Program} {w : World} {K : PySem.W.Frag} {mg : Str → Option Value} {base : Heap}
abbrev nGa2 : List Str := ["draw", "came_here", "least_here", "found", "way", "t", "low"]
theorem scGa2 : FnScope nGa2 ["draw", "came_here", "least_here"] (defScope sGa2) := ⟨rfl, rfl, rfl, by decide +kernel, rfl, by decide +kernel, by decide +kernel⟩
def spGa2 (K : PySem.W.Frag) : Sp := fun vs H Q _ => ∃ (d l c a b : Addr) (cs ls : List Int), vs = [.ref d, .ref a, .ref b] ∧ DrawAt H d l c ∧ SqT K H a (cs.map V.int) ∧ SqT K H b (ls.map V.int) ∧ ls.length = cs.length ∧ cs.length ≤ 900 ∧ Asc0 cs ∧ Within cs 10000 ∧
  (∀ (i : Nat) (c m : Int), cs[i]? = some c → ls[i]? = some m → m ≤ c) ∧
  ∀ z gs H', H z = none → H' z = some (.tup (gs.map V.int)) → RunPair cs gs → (∀ (i : Nat) (g m : Int), gs[i]? = some g → ls[i]? = some m → m ≤ g) → DrawAt H' d l c → KeepD H H' d l → Q (.ref z) H'
theorem ok_ga2 {f : Addr} {fd : FuncData} (F : Fun K "_law_gone_above" "_law_gone_above" sGa2 f fd) (T : CurG mg) (nmax : mg "max" = none) (c_tak : Cal P w K mg base CX0 2 "_law_take" ["draw", "amount"] (spTake K)) (c_pic : Cal P w K mg base CX0 3 "_law_pick" ["draw", "some"] (spPick K)) :
    FnOk P w K mg base CX0 4 f fd ["draw", "came_here", "least_here"] (spGa2 K) := by
  refine F.ok scGa2 (fun vs H Q E h => ?_) (fun cdv A outer s H vs Q E hr h => ?_)
  · obtain ⟨d, l, c, a, b, cs, ls, rfl, _⟩ := h
    rfl
  · obtain ⟨d, l, c, a, b, cs, ls, rfl, D, ha, hb, ll, lc, ac, wc, le, k⟩ := h
    refine ⟨_, (C8.pss_cut (ps_par (i := 3) (j := 4) (by rfl) scGa2.nd rfl rfl (by decide) rfl rfl (pa_cons (pe_lst (pa_cons pe_int pa_nil)) (pa_cons (pe_callC c_tak (hr.mono (by decide)) rfl pass0 (pa_cons (pv 0) (pa_cons pe_int pa_nil))) pa_nil)) (by rfl))
 (C8.pss_cut (ps_for PassesOwn.never rfl (pi_range2 (by rfl) T.range (pa_cons pe_int (pa_cons (pe_callB call_len_seq (by rfl) T.len PySem.boot_len (pa_cons (pv 1) pa_nil)) pa_nil))) (pg_name (i := 5) scGa2.nd rfl (Or.inl rfl)) (C8.pss_cut (ps_set (i := 6) scGa2.nd rfl (Or.inl rfl) (pe_callB (call_max2 rfl) (by rfl) nmax (by decide +kernel) (pa_cons (pe_ix ix_list (pv 3) (pe_un un_neg pe_int) (fun _ _ => rfl)) (pa_cons (pe_ix ix_tup (pv 2) (pv 5) (fun _ _ => rfl)) pa_nil))))
 (pss_one
 (ps_expr (pe_bm PySem.F.plainAttrs_list PySem.F.slot_list_append PySem.F.type_list_append mt_append (pv 3) (pa_cons (pe_ifExp (pt_cmpR op_eq (pv 4) pe_int (nomark _)) (pv 6) (pe_ifExp (pt_cmpR op_eq (pv 4) pe_int (nomark _)) (pe_op op_add (pv 6) (pe_callC c_tak (hr.mono (by decide)) rfl pass0 (pa_cons (pv 0) (pa_cons (pe_op op_add (pe_op op_sub (pe_ix ix_tup (pv 1) (pv 5) (fun _ _ => rfl)) (pv 6)) pe_int) pa_nil)))) (pe_callC c_pic (hr.mono (by decide)) rfl pass0 (pa_cons (pv 0) (pa_cons (pe_lst (pa_cons (pv 6) (pa_cons (pv 6) (pa_cons (pe_ix ix_tup (pv 1) (pv 5) (fun _ _ => rfl)) pa_nil)))) pa_nil))))) pa_nil))))))
 (pss_one
 (ps_ret (pe_callTy call_tuple_of (by rfl) T.tuple (by decide +kernel) (pa_cons (pv 3) pa_nil)))))), ?_⟩
    have lcm : (cs.map V.int).length = cs.length := List.length_map ..
    have n1 := ac.one
    obtain ⟨acs, a0, apos⟩ := ac.asc
    refine ⟨fun σ H' => ∃ S, ∃ r : Int, σ = [some (.ref d), some (.ref a), some (.ref b), some (.ref S), some (.int r), none, none] ∧ H S = none ∧ H' S = some (.lst [.int 0]) ∧ DrawAt H' d l c ∧ KeepD H H' d l, ?_, ?_⟩
    · refine ⟨(by show 1 ≤ sizeLine; decide), fun S hS => ?_⟩
      generalize g1 : upd H S _ = H1
      obtain ⟨s1, f1⟩ := alloc g1 hS
      exact ⟨_, rfl, d, l, c, 3, rfl, D.same s1, by decide, by decide, fun r H2 r0 r1 D2 k2 => ⟨_, _, rfl, S, r, rfl, hS, lst_keep f1 (D.same s1) (D.nl hS) k2, D2, (Same.keepD d l s1).trans k2⟩⟩
    rintro σ H1 ⟨S, r, rfl, hS, h1, D1, k1⟩
    have had := D.nd hS
    have hal := D.nl hS
    refine ⟨fun σ H' => ∃ gs : List Int, (∃ v5 v6, σ = [some (.ref d), some (.ref a), some (.ref b), some (.ref S), some (.int r), v5, v6]) ∧ H' S = some (.lst (gs.map V.int)) ∧ RunPair cs gs ∧ (∀ (i : Nat) (g m : Int), gs[i]? = some g → ls[i]? = some m → m ≤ g) ∧ DrawAt H' d l c ∧ KeepD H H' d l, ?_, ?_⟩
    · refine ⟨_, rfl, a, _, rfl, .inr (sqT_keep ha D k1), 1, _, rfl, by rw [lcm]; omega, ?_⟩
      rw [lcm, show ((cs.length : Int) - 1).toNat = cs.length - 1 by omega]
      refine for_range (lo := 1) (n := cs.length - 1) (fun i σ H' => ∃ gs : List Int, (∃ v5 v6, σ = [some (.ref d), some (.ref a), some (.ref b), some (.ref S), some (.int r), v5, v6]) ∧ H' S = some (.lst (gs.map V.int)) ∧ gs.length = i + 1 ∧ Asc gs ∧ gs[0]? = some 0 ∧ Within gs 10000 ∧ (∀ (i : Nat) (c g : Int), cs[i]? = some c → gs[i]? = some g → g ≤ c) ∧ (∀ (i : Nat) (g m : Int), gs[i]? = some g → ls[i]? = some m → m ≤ g) ∧ DrawAt H' d l c ∧ KeepD H H' d l) ⟨[0], ⟨_, _, rfl⟩, h1, rfl, fun i x y hx hy => (by cases hy), rfl, fun i x hx => ?_, fun i c g hc hg => ?_, fun i g m hg hm => ?_, D1, k1⟩ ?_ (fun σ H' ⟨gs, e, hh, l1, as, z0, wi, le', lw', D', k'⟩ => ⟨gs, e, hh, ⟨ac, asc0_of as z0, by omega, le'⟩, lw', D', k'⟩)
      · match i, hx with
        | 0, hx =>
          cases hx
          exact ⟨Int.le_refl _, by decide⟩
      · match i, hc, hg with
        | 0, hc, hg =>
          cases hg
          exact apos 0 c hc
      · match i, hg, hm with
        | 0, hg, hm =>
          cases hg
          exact le 0 0 m a0 hm
      rintro i σ H3 hi ⟨gs, ⟨v5, v6, rfl⟩, h3, lg, as, z0, wi, le', lw', D3, k3⟩
      have ei : (1 : Int) + (i : Int) = ((i + 1 : Nat) : Int) := by omega
      rw [ei]
      obtain ⟨y, hy, hy2⟩ := lastInt (s := gs) (by omega)
      rw [lg] at hy
      have ci : cs[i]? = some (cs.getD i 0) := by rw [List.getD_eq_getElem?_getD, List.getElem?_eq_getElem (show i < cs.length by omega)]; rfl
      have ci1 : cs[i + 1]? = some (cs.getD (i + 1) 0) := by rw [List.getD_eq_getElem?_getD, List.getElem?_eq_getElem (show i + 1 < cs.length by omega)]; rfl
      have li1 : ls[i + 1]? = some (ls.getD (i + 1) 0) := by rw [List.getD_eq_getElem?_getD, List.getElem?_eq_getElem (show i + 1 < ls.length by omega)]; rfl
      have yc : y ≤ cs.getD (i + 1) 0 := Int.le_trans (le' i _ y ci (by rw [show i + 1 - 1 = i by omega] at hy; exact hy)) (acs i _ _ ci ci1)
      have mc : ls.getD (i + 1) 0 ≤ cs.getD (i + 1) 0 := le _ _ _ ci1 li1
      have wy := wi _ _ hy
      have wc1 := wc _ _ ci1
      generalize hc : cs.getD (i + 1) 0 = cc at *
      have ha3 := sqT_keep ha D k3
      have hb3 := sqT_keep hb D k3
      refine ⟨fun σ H' => ∃ lo : Int, σ = [some (.ref d), some (.ref a), some (.ref b), some (.ref S), some (.int r), some (.int ((i + 1 : Nat) : Int)), some (.int lo)] ∧ y ≤ lo ∧ lo ≤ cc ∧ ls.getD (i + 1) 0 ≤ lo ∧ H3 = H', ?_, ?_⟩
      · refine ⟨_, rfl, 1, rfl, S, _, _, _, rfl, rfl, SqL.of h3, hy2, _, rfl, _, rfl, b, _, _, _, rfl, rfl, hb3, atI_nat (getD_map (show i + 1 < ls.length by omega)), _, _, rfl, _, rfl, ?_, ?_, ?_, rfl⟩
        · split <;> omega
        · split <;> omega
        · split <;> omega
      rintro σ _ ⟨lo, rfl, lo0, lo1, lo2, rfl⟩
      have ga : atI (cs.map V.int) ((i + 1 : Nat) : Int) = some (.int cc) := by
        rw [← hc]
        exact atI_nat (getD_map (show i + 1 < cs.length by omega))
      have fin : ∀ (v : Int) (H' : Hp), y ≤ v → v ≤ cc → ls.getD (i + 1) 0 ≤ v → H' S = some (.lst (gs.map V.int)) → DrawAt H' d l c → KeepD H H' d l → ∃ gs' : List Int, (∃ v5 v6, ([some (.ref d), some (.ref a), some (.ref b), some (.ref S), some (.int r), some (.int ((i + 1 : Nat) : Int)), some (.int lo)] : L2.St) = [some (.ref d), some (.ref a), some (.ref b), some (.ref S), some (.int r), v5, v6]) ∧ upd H' S (.lst (gs.map V.int ++ [.int v])) S = some (.lst (gs'.map V.int)) ∧ gs'.length = i + 1 + 1 ∧ Asc gs' ∧ gs'[0]? = some 0 ∧ Within gs' 10000 ∧ (∀ (i : Nat) (c g : Int), cs[i]? = some c → gs'[i]? = some g → g ≤ c) ∧ (∀ (i : Nat) (g m : Int), gs'[i]? = some g → ls[i]? = some m → m ≤ g) ∧ DrawAt (upd H' S (.lst (gs.map V.int ++ [.int v]))) d l c ∧ KeepD H (upd H' S (.lst (gs.map V.int ++ [.int v]))) d l := fun v H' v0 v1 v2 hh D' k' => by
        refine ⟨gs ++ [v], ⟨_, _, rfl⟩, by rw [List.map_append]; exact upd_same, by rw [List.length_append, lg]; rfl, asc_snoc as (by rw [lg]; exact hy) v0, by rw [List.getElem?_append_left (by omega)]; exact z0, within_snoc wi (by omega) (by omega) (by omega), fun j c' g' hc' hg' => ?_, fun j g' m' hg' hm' => ?_, D'.put had hal (D.nc hS), k'.trans' hS⟩
        rotate_left
        · by_cases cj : j < gs.length
          · rw [List.getElem?_append_left cj] at hg'
            exact lw' j g' m' hg' hm'
          · have hl := (List.getElem?_eq_some_iff.mp hg').1
            rw [List.length_append] at hl
            have hl : j < gs.length + 1 := hl
            have ej : j = i + 1 := by omega
            rw [List.getElem?_append_right (by omega), show j - gs.length = 0 by omega] at hg'
            cases hg'
            rw [ej, li1] at hm'
            cases hm'
            exact v2
        by_cases cj : j < gs.length
        · rw [List.getElem?_append_left cj] at hg'
          exact le' j c' g' hc' hg'
        · have hl := (List.getElem?_eq_some_iff.mp hg').1
          rw [List.length_append] at hl
          have hl : j < gs.length + 1 := hl
          have ej : j = i + 1 := by omega
          rw [List.getElem?_append_right (by omega), show j - gs.length = 0 by omega] at hg'
          cases hg'
          rw [ej, ci1] at hc'
          cases hc'
          exact v1
      have len : (gs.map V.int).length < sizeLine := by rw [List.length_map]; exact small1001 (by omega)
      refine ⟨_, rfl, .inl ⟨rfl, _, SqL.of h3⟩, _, rfl, rfl, _, rfl, ite2 (fun _ => ?_) (fun _ => ?_)⟩
      · exact ⟨_, rfl, S, _, _, rfl, rfl, h3, len, fin lo _ lo0 lo1 lo2 h3 D3 k3⟩
      refine ⟨_, rfl, rfl, _, rfl, ite2 (fun _ => ?_) (fun _ => ?_)⟩
      · refine ⟨_, rfl, _, rfl, _, rfl, _, rfl, a, _, _, _, rfl, rfl, ha3, ga, _, rfl, _, _, rfl, rfl, _, _, rfl, rfl, d, l, c, _, rfl, D3, by omega, by omega, fun r2 H4 r20 r21 D4 k4 => ⟨_, _, rfl, rfl, S, _, _, rfl, rfl, lst_keep h3 D3 hal k4, len, fin _ _ (by omega) (by omega) (by omega) (lst_keep h3 D3 hal k4) D4 (k3.trans k4)⟩⟩
      · refine ⟨_, rfl, _, rfl, _, rfl, _, rfl, _, rfl, a, _, _, _, rfl, rfl, ha3, ga, (by show 3 ≤ sizeLine; decide), fun p hp => ?_⟩
        generalize g4 : upd H3 p _ = H4
        obtain ⟨s4, f4⟩ := alloc g4 hp
        refine ⟨d, l, c, p, _, rfl, D3.same s4, f4, D3.nl hp, (by show 0 < 3; decide), (by show 3 ≤ 2 ^ 100; decide), fun j x H5 hx D5 k5 => ?_⟩
        obtain ⟨v, rfl, v0, v1, v2⟩ : ∃ v : Int, x = .int v ∧ y ≤ v ∧ v ≤ cc ∧ ls.getD (i + 1) 0 ≤ v := by
          have hm := List.mem_of_getElem? hx
          simp only [List.mem_cons, List.not_mem_nil, or_false] at hm
          rcases hm with rfl | rfl | rfl
          · exact ⟨lo, rfl, lo0, lo1, lo2⟩
          · exact ⟨lo, rfl, lo0, lo1, lo2⟩
          · exact ⟨cc, rfl, yc, Int.le_refl _, mc⟩
        have kk : KeepD H3 H5 d l := (Same.keepD d l s4).trans k5
        exact ⟨S, _, _, rfl, rfl, lst_keep h3 D3 hal kk, len, fin _ _ v0 v1 v2 (lst_keep h3 D3 hal kk) D5 (k3.trans kk)⟩
    rintro σ H3 ⟨gs, ⟨v5, v6, rfl⟩, h3, rp, lw, D3, k3⟩
    exact ⟨_, rfl, S, _, rfl, .inl ⟨SqL.of h3, fun y hy => k y gs _ (D.keepF k3 D3 hy) upd_same rp lw (D3.same (same_new hy)) (k3.trans (Same.keepD d l (same_new hy)))⟩⟩
end
end WW
end

section
set_option Elab.async false
set_option linter.all false
set_option maxRecDepth 100000
set_option maxHeartbeats 4000000
namespace WW
open PySem L2 WO WG RZ WQ WT WC
abbrev sWaits : Stmt := top 52
/-! ### waits -/
def hit (cs gs : List Int) (t d : Nat) : Bool := decide (cs.getD t 0 ≤ gs.getD (t + d) 0)
def waitV (cs gs : List Int) (t : Nat) : V := match (List.range (gs.length - t)).find? (hit cs gs t) with
  | some d => .int d
  | none => .non
def waits (cs gs : List Int) : List V := (List.range cs.length).map (waitV cs gs)
theorem waits_get {cs gs : List Int} {i : Nat} (h : i < cs.length) : (waits cs gs)[i]? = some (waitV cs gs i) := by
  unfold waits
  rw [List.getElem?_map, List.getElem?_range h]
  rfl
/-- no letter that came ahead of i has left ahead of e -/
def Lo (cs gs : List Int) (i e : Nat) : Prop := ∀ j, i ≤ j → j < e → gs.getD j 0 < cs.getD i 0
theorem waitV_at {cs gs : List Int} {i e : Nat} (h : Lo cs gs i e) (ie : i ≤ e) (he : e < gs.length) (hh : cs.getD i 0 ≤ gs.getD e 0) : waitV cs gs i = .int ((e : Int) - (i : Int)) := by
  have f : (List.range (gs.length - i)).find? (hit cs gs i) = some (e - i) := by
    rw [List.find?_range_eq_some]
    refine ⟨?_, List.mem_range.mpr (by omega), fun j hj => ?_⟩
    · unfold hit
      rw [show i + (e - i) = e by omega]
      exact decide_eq_true hh
    · unfold hit
      have := h (i + j) (by omega) (by omega)
      rw [decide_eq_false (by omega)]
      rfl
  unfold waitV
  rw [f]
  show V.int ((e - i : Nat) : Int) = _
  congr 1
  omega
theorem waitV_no {cs gs : List Int} {i : Nat} (h : Lo cs gs i gs.length) : waitV cs gs i = .non := by
  have f : (List.range (gs.length - i)).find? (hit cs gs i) = none := by
    rw [List.find?_eq_none]
    intro j hj
    have hj := List.mem_range.mp hj
    have := h (i + j) (by omega) (by omega)
    intro q
    have q' : cs.getD i 0 ≤ gs.getD (i + j) 0 := of_decide_eq_true q
    omega
  unfold waitV
  rw [f]
theorem pair_mono {cs gs : List Int} (p : RunPair cs gs) {i : Nat} (h : i + 1 < cs.length) : cs.getD i 0 ≤ cs.getD (i + 1) 0 := by
  obtain ⟨⟨r, e, pw⟩, _⟩ := p
  rw [List.getD_eq_getElem?_getD, List.getD_eq_getElem?_getD, List.getElem?_eq_getElem (show i < cs.length by omega), List.getElem?_eq_getElem h]
  exact List.pairwise_iff_getElem.mp pw i (i + 1) (by omega) h (by omega)
theorem ixW {K : PySem.W.Frag} {H : Hp} {a : Addr} {xs : List V} {i : Int} {v : V} {Q : VK} (h : SeqA K H a xs) (e : atI xs i = some v) (k : Q v H) : rIx K (.ref a) (.int i) H Q := by
  rcases h with h | h
  · exact .inl ⟨a, xs, i, v, rfl, rfl, h, e, k⟩
  · exact .inr (.inl ⟨a, xs, i, v, rfl, rfl, h, e, k⟩)
section
variable {P : Program} {w : World} {K : PySem.W.Frag} {mg : Str → Option Value} {base : Heap}
def spWaits (K : PySem.W.Frag) (CR : Addr) : Sp := fun vs H Q E => ∃ (x : V) (o : Two), vs = [x] ∧ ThIn K H x o ∧
  (∀ cs gs : List Int, o = some (some (cs.map V.int), some (gs.map V.int)) → RunPair cs gs → ∀ p H', H p = none → Same H H' → H' p = some (.lst (waits cs gs)) → Q (.ref p) H') ∧ (¬ RunOk o → ∀ H', Same H H' → E (.ref CR) none H')
abbrev nWaits : List Str := ["run", "came", "gone", "told", "end", "beat", "letters"]
theorem scWaits : FnScope nWaits ["run"] (defScope sWaits) := ⟨rfl, rfl, rfl, by decide +kernel, rfl, by decide +kernel, by decide +kernel⟩
theorem ok_waits {f fR CR : Addr} {fd dR : FuncData} (F : Fun K "run_waits" "run_waits" sWaits f fd) (T : CurG mg) (nmax : mg "max" = none) (nenum : mg "enumerate" = none)
    (GR : FnOk P w K mg base (L2.CX P w) 4 fR dR ["thing"] (spNeedRun K CR)) (kR : PySem.W.keepIn K (.ref fR) = true) (bR : Binds K dR ["thing"] []) (mR : mg "need_run" = some (.ref fR)) :
    FnOk P w K mg base (L2.CX P w) 5 f fd ["run"] (spWaits K CR) := by
  refine F.okX scWaits (fun vs H Q E h => ?_) (fun cdv A outer s H vs Q E hr h => ?_)
  · obtain ⟨x, o, rfl, _⟩ := h
    rfl
  · obtain ⟨x, o, rfl, h, k1, k2⟩ := h
    refine ⟨_, pss_cons (ps_expr (pe_call GR hr rfl mR kR bR .nil (passX (E := E) (takes_of rfl rfl rfl rfl) (fun _ _ _ _ h => h)) (pa_cons (pv 0) pa_nil)))
      (pss_cons (ps_asg (pv 0) (pg_tup rfl (pgs_cons (pg_name (i := 1) scWaits.nd rfl (.inl rfl)) (pgs_cons (pg_name (i := 2) scWaits.nd rfl (.inl rfl)) pgs_nil))))
      (pss_cons (ps_set (i := 3) scWaits.nd rfl (Or.inl rfl) (pe_lst pa_nil))
      (pss_cons (ps_set (i := 4) scWaits.nd rfl (Or.inl rfl) pe_int)
      (pss_cons (ps_for (passes_of rfl) rfl (WQ.pi_enumS (by rfl) nenum (pa_cons (pv 1) pa_nil)) (pg_tup rfl (pgs_cons (pg_name (i := 5) scWaits.nd rfl (Or.inl rfl)) (pgs_cons (pg_name (i := 6) scWaits.nd rfl (Or.inl rfl)) pgs_nil)))
        (pss_cons (ps_set (i := 4) scWaits.nd rfl (Or.inl rfl) (pe_callB (call_max2 rfl) (by rfl) nmax (by decide +kernel) (pa_cons (pv 4) (pa_cons (pv 5) pa_nil))))
        (C8.pss_cut (ps_while (passes_of rfl) (PW.pt (pw_and (pt_cmpR op_lt (pv 4) (pe_callB call_len_seq (by rfl) T.len PySem.boot_len (pa_cons (pv 2) pa_nil)) (nomark _)) (pw_and1 (pt_cmpR op_lt (pe_ix ix_seq (pv 2) (pv 4) (fun _ _ => rfl)) (pv 6) (nomark _)))))
          (pss_one (ps_aug (i := 4) scWaits.nd rfl (Or.inl rfl) pe_int ip_add)))
        (pss_one (ps_expr (pe_bm PySem.F.plainAttrs_list PySem.F.slot_list_append PySem.F.type_list_append mt_append (pv 3) (pa_cons
          (pe_ifExp (pt_cmpR op_lt (pv 4) (pe_callB call_len_seq (by rfl) T.len PySem.boot_len (pa_cons (pv 2) pa_nil)) (nomark _)) (pe_op op_sub (pv 4) (pv 5)) pe_non) pa_nil)))))))
      (pss_one (ps_ret (pv 3))))))), ?_⟩
    refine ⟨_, rfl, x, o, rfl, h, fun ro H1 s1 => ?_, k2⟩
    obtain ⟨cs, gs, rfl, rp⟩ := ro
    cases h with
    | @two a y z o1 o2 h h1 h2 hp =>
      obtain ⟨c, g, rfl, rfl, sp⟩ := hp _ _ rfl rfl
      obtain ⟨_, _, _, lc⟩ := h1.len
      rw [List.length_map] at lc
      have sp1 := sp.same s1
      have ln := rp.2.2.1
      refine ⟨_, rfl, a, [_, _], rfl, seqT s1 h, rfl, _, _, rfl, _, _, rfl, rfl, ?_⟩
      refine ⟨(by decide), fun l hl => ?_⟩
      generalize g2 : upd H1 l _ = H2
      obtain ⟨s2, f2⟩ := alloc g2 hl
      refine ⟨_, rfl, c, _, rfl, sp1.l.same s2, fun J G wk st => for_it wk (fun i σ H3 => ∃ (e : Nat) (v5 v6 : Option V), σ = [some (.ref a), some (.ref c), some (.ref g), some (.ref l), some (.int e), v5, v6] ∧ e ≤ gs.length ∧ Lo cs gs i e ∧ H3 l = some (.lst ((waits cs gs).take i)) ∧ Same H1 H3) ?_ ?_ ?_ ?_⟩
      · exact ⟨0, _, _, rfl, Nat.zero_le _, fun j _ h => absurd h (Nat.not_lt_zero _), f2, s2⟩
      · rintro i σ H3 hi ⟨e, v5, v6, rfl, _, _, _, s3⟩
        refine st _ (KeepS.past g2 s3 (fun z => ?_) (fun z => by cases z) (fun _ _ z => by cases z))
        obtain ⟨⟨r, e, _⟩, _⟩ := rp
        rw [e] at z
        cases z
      · rintro i v σ H3 H4 hi ⟨e, v5, v6, rfl, el, lo, hl3, s3⟩ ⟨t, x, y, rfl, ht, rfl, hx, hy⟩
        dsimp only at hx hy
        cases hx
        rw [List.length_map] at hi
        have hc : cs[i]? = some (cs.getD i 0) := by
          rw [List.getD_eq_getElem?_getD, List.getElem?_eq_getElem hi]
          rfl
        rw [List.getElem?_map, hc] at hy
        cases hy
        generalize g4 : upd H3 t _ = H4
        obtain ⟨s4, f4⟩ := alloc g4 ht
        have hl4 := s4 _ _ hl3
        have sB := Same.trans s3 s4
        have spB := sp1.same sB
        refine ⟨t, [_, _], rfl, SqT.of f4, rfl, _, _, rfl, _, _, rfl, rfl, ?_⟩
        refine ⟨_, rfl, _, rfl, _, _, rfl, ?_⟩
        refine ⟨fun σ' H' => ∃ e' : Nat, σ' = [some (.ref a), some (.ref c), some (.ref g), some (.ref l), some (.int e'), some (.int (i : Nat)), some (.int (cs.getD i 0))] ∧ i ≤ e' ∧ e' ≤ gs.length ∧ Lo cs gs i e' ∧ (e' < gs.length → cs.getD i 0 ≤ gs.getD e' 0) ∧ H' = H4, ?_, ?_⟩
        · refine while_by (fun σ' H' => ∃ e' : Nat, σ' = [some (.ref a), some (.ref c), some (.ref g), some (.ref l), some (.int e'), some (.int (i : Nat)), some (.int (cs.getD i 0))] ∧ i ≤ e' ∧ e' ≤ gs.length ∧ Lo cs gs i e' ∧ H' = H4)
            (fun σ' _ => match σ' with
              | [_, _, _, _, some (.int e'), _, _] => gs.length - e'.toNat
              | _ => 0) ⟨max e i, ?_, Nat.le_max_right _ _, by omega, fun j h1 h2 => lo j h1 (by omega), rfl⟩ ?_ ?_
          · show [_, _, _, _, some (V.int (if ((i : Nat) : Int) > (e : Int) then ((i : Nat) : Int) else (e : Int))), _, _] = _
            rw [show (if ((i : Nat) : Int) > (e : Int) then ((i : Nat) : Int) else (e : Int)) = ((max e i : Nat) : Int) by split <;> omega]
          · rintro σ' H' ⟨e', rfl, ie, ee, lo', rfl⟩
            refine ⟨_, rfl, _, rfl, g, _, rfl, spB.r, _, _, rfl, rfl, _, rfl, ?_⟩
            by_cases c1 : e' < gs.length
            · rw [decide_eq_true (show (e' : Int) < (((gs.map V.int).length : Nat) : Int) by rw [List.length_map]; omega)]
              have hg : gs[e']? = some (gs.getD e' 0) := by
                rw [List.getD_eq_getElem?_getD, List.getElem?_eq_getElem c1]
                rfl
              have ea : atI (gs.map V.int) (e' : Int) = some (.int (gs.getD e' 0)) := atI_nat (by rw [List.getElem?_map, hg]; rfl)
              refine iteT ⟨_, rfl, _, rfl, ixW spB.r ea ⟨_, rfl, _, _, rfl, rfl, _, rfl, ?_⟩⟩
              by_cases c2 : gs.getD e' 0 < cs.getD i 0
              · rw [decide_eq_true c2]
                refine iteT ⟨_, rfl, _, _, rfl, rfl, ⟨e' + 1, ?_, by omega, by omega, fun j h1 h2 => ?_, rfl⟩, ?_⟩
                · show [_, _, _, _, some (V.int ((e' : Int) + 1)), _, _] = _
                  rw [show ((e' : Int) + 1) = ((e' + 1 : Nat) : Int) by omega]
                · by_cases ej : j = e'
                  · rw [ej]
                    exact c2
                  · exact lo' j h1 (by omega)
                · show gs.length - ((e' : Int) + 1).toNat < gs.length - ((e' : Int)).toNat
                  omega
              · rw [decide_eq_false c2]
                exact iteF ⟨e', rfl, ie, ee, lo', fun _ => by omega, rfl⟩
            · rw [decide_eq_false (show ¬ (e' : Int) < (((gs.map V.int).length : Nat) : Int) by rw [List.length_map]; omega)]
              exact iteF (iteF ⟨e', rfl, ie, ee, lo', fun q => absurd q c1, rfl⟩)
          · intro σ' H' Q1 Q2 m h
            obtain ⟨v1, e1, v2, e2, p, ys, e3, hs, i1, j1, e4, e5, b, e6, h⟩ := h
            refine ⟨v1, e1, v2, e2, p, ys, e3, hs, i1, j1, e4, e5, b, e6, ?_⟩
            cases b with
            | false => exact m _ _ h
            | true =>
              obtain ⟨v3, e7, v4, e8, hix⟩ := h
              refine ⟨v3, e7, v4, e8, ?_⟩
              rcases hix with ⟨p, xs, ii, v, a1, a2, a3, a4, v5, a5, i2, j2, a6, a7, b2, a8, q⟩ | ⟨p, xs, ii, v, a1, a2, a3, a4, v5, a5, i2, j2, a6, a7, b2, a8, q⟩ | ⟨p, xs, ii, a1, a2, a3, a4, v5, a9, i2, j2, a6, a7, b2, a8, q⟩
              · exact .inl ⟨p, xs, ii, v, a1, a2, a3, a4, v5, a5, i2, j2, a6, a7, b2, a8, m _ _ q⟩
              · exact .inr (.inl ⟨p, xs, ii, v, a1, a2, a3, a4, v5, a5, i2, j2, a6, a7, b2, a8, m _ _ q⟩)
              · exact .inr (.inr ⟨p, xs, ii, a1, a2, a3, a4, v5, a9, i2, j2, a6, a7, b2, a8, m _ _ q⟩)
        · rintro σ' H' ⟨e', rfl, ie, ee, lo', hh, rfl⟩
          have lo2 : Lo cs gs (i + 1) e' := fun j h1 h2 => by
            have q := lo' j (by omega) h2
            have m := pair_mono rp (i := i) (by omega)
            omega
          have fin : ∀ x : V, x = waitV cs gs i → ∃ (e : Nat) (v5 v6 : Option V), [some (V.ref a), some (.ref c), some (.ref g), some (.ref l), some (.int e'), some (.int (i : Nat)), some (.int (cs.getD i 0))] = [some (.ref a), some (.ref c), some (.ref g), some (.ref l), some (.int e), v5, v6] ∧ e ≤ gs.length ∧ Lo cs gs (i + 1) e ∧
              upd H' l (.lst ((waits cs gs).take i ++ [x])) l = some (.lst ((waits cs gs).take (i + 1))) ∧ Same H1 (upd H' l (.lst ((waits cs gs).take i ++ [x]))) := fun x ex => by
            refine ⟨e', _, _, rfl, ee, lo2, ?_, fun b o z => by rw [upd_ne (ne_of_none z hl)]; exact sB _ _ z⟩
            rw [upd_same, take_snocW (waits_get hi), ex]
          have lz : ((waits cs gs).take i).length < sizeLine := by
            rw [List.length_take]
            exact small1001 (by omega)
          refine ⟨_, rfl, .inl ⟨rfl, _, SqL.of hl4⟩, _, rfl, _, rfl, g, _, rfl, spB.r, _, _, rfl, rfl, _, rfl, ?_⟩
          by_cases c1 : e' < gs.length
          · rw [decide_eq_true (show (e' : Int) < (((gs.map V.int).length : Nat) : Int) by rw [List.length_map]; omega)]
            exact iteT ⟨_, rfl, _, rfl, _, _, rfl, rfl, l, _, _, rfl, rfl, hl4, lz, fin _ (waitV_at lo' ie c1 (hh c1)).symm⟩
          · rw [decide_eq_false (show ¬ (e' : Int) < (((gs.map V.int).length : Nat) : Int) by rw [List.length_map]; omega)]
            have en : e' = gs.length := by omega
            rw [en] at lo'
            exact iteF ⟨l, _, _, rfl, rfl, hl4, lz, fin _ (waitV_no lo').symm⟩
      · rintro σ H3 ⟨e, v5, v6, rfl, _, _, hl3, s3⟩
        rw [List.length_map] at hl3
        have lw : (waits cs gs).length = cs.length := by unfold waits; rw [List.length_map, List.length_range]
        rw [← lw, List.take_length] at hl3
        exact ⟨_, rfl, k1 cs gs rfl rp l H3 (s1.free hl) (Same.trans s1 s3) hl3⟩
end
end WW
end

section
set_option Elab.async false
set_option linter.all false
set_option maxRecDepth 100000
set_option maxHeartbeats 4000000
namespace WW
open PySem L2 WO WG RZ WQ WT WC
/-! ### whole parcels of runs -/
def UpTo (zs : List Int) (m : Int) : Prop := ∀ z ∈ zs, z ≤ m
theorem wh_low {zs : List Int} {m x w : Int} (p : PosL zs) (hm : UpTo zs m) (m1 : 1 ≤ m) (h : IsWh zs x w) (hx : x ≤ en zs zs.length) : x - m + 1 ≤ w := by
  obtain ⟨⟨k, hk, rfl⟩, le, mx⟩ := h
  by_cases c : k = zs.length
  · rw [c]
    omega
  · have hl : k < zs.length := by omega
    have hz := List.getElem?_eq_getElem hl
    have e := en_succ hz
    have z1 := (p _ (List.mem_of_getElem? hz)).1
    have z2 := hm _ (List.mem_of_getElem? hz)
    by_cases c2 : en zs (k + 1) ≤ x
    · have := mx (k + 1) (by omega) c2
      omega
    · omega
theorem wh_diff {zs : List Int} {m x y wx wy : Int} (p : PosL zs) (hm : UpTo zs m) (hx : IsWh zs x wx) (hy : IsWh zs y wy) : wy ≤ wx ∨ wy - wx ≤ y - x + m - 1 := by
  obtain ⟨⟨k, hk, rfl⟩, le, mx⟩ := hx
  obtain ⟨⟨j, hj, rfl⟩, le', _⟩ := hy
  by_cases c : k = zs.length
  · exact .inl (en_mono p (by omega))
  · have hl : k < zs.length := by omega
    have hz := List.getElem?_eq_getElem hl
    have e := en_succ hz
    have z1 := (p _ (List.mem_of_getElem? hz)).1
    have z2 := hm _ (List.mem_of_getElem? hz)
    by_cases c2 : en zs (k + 1) ≤ x
    · have := mx (k + 1) (by omega) c2
      omega
    · exact .inr (by omega)
theorem wh_mono {zs : List Int} {x y wx wy : Int} (hx : IsWh zs x wx) (hy : IsWh zs y wy) (l : x ≤ y) : wx ≤ wy := by
  obtain ⟨⟨k, hk, rfl⟩, le, _⟩ := hx
  exact hy.2.2 k hk (by omega)
theorem gdI {ns : List Int} {i : Nat} (h : i < ns.length) : ns[i]? = some (ns.getD i 0) := by
  rw [List.getD_eq_getElem?_getD, List.getElem?_eq_getElem h]
  rfl
theorem WhL.at {zs ns ws : List Int} (h : WhL zs ns ws) {i : Nat} (hi : i < ns.length) : IsWh zs (ns.getD i 0) (ws.getD i 0) := h.2 i _ _ (gdI hi) (gdI (by have := h.1; omega))
theorem wh_asc {zs ns ws : List Int} (p : PosL zs) (h : WhL zs ns ws) (ac : Asc0 ns) : Asc0 ws := by
  obtain ⟨asc, n0, pos⟩ := ac.asc
  have n1 := ac.one
  have l := h.1
  refine asc0_of (fun i x y hx hy => ?_) ?_
  · have hi := (List.getElem?_eq_some_iff.mp hx).1
    have hj := (List.getElem?_eq_some_iff.mp hy).1
    exact wh_mono (h.2 i _ _ (gdI (by omega)) hx) (h.2 (i + 1) _ _ (gdI (by omega)) hy) (asc i _ _ (gdI (by omega)) (gdI (by omega)))
  · have q := h.2 0 0 (ws.getD 0 0) n0 (gdI (by omega))
    have a := q.2.1
    have b := q.2.2 0 (Nat.zero_le _) (Int.le_refl _)
    have e0 : en zs 0 = 0 := en_zero
    rw [gdI (show 0 < ws.length by omega)]
    congr 1
    omega
theorem WhL.le {zs ns ws : List Int} (h : WhL zs ns ws) {i : Nat} (hi : i < ns.length) : ws.getD i 0 ≤ ns.getD i 0 := (h.at hi).2.1
theorem run_wh {zs cs gs hs : List Int} (p : PosL zs) (rp : RunPair cs gs) (wg : WhL zs gs hs) : RunPair cs hs := by
  obtain ⟨ac, ag, el, le⟩ := rp
  refine ⟨ac, wh_asc p wg ag, by rw [wg.1]; exact el, fun i c h hc hh => ?_⟩
  have hi := (List.getElem?_eq_some_iff.mp hh).1
  have hi2 : i < gs.length := by have := wg.1; omega
  have a := (wg.2 i _ _ (gdI hi2) hh).2.1
  have b := le i _ _ hc (gdI hi2)
  omega
/-- at an end: reached by letters exactly if by whole parcels -/
theorem wh_reach {zs : List Int} {n c g h : Int} (hc : IsWh zs n c) (hg : IsWh zs g h) : c ≤ g ↔ c ≤ h := by
  obtain ⟨⟨k, hk, rfl⟩, _, _⟩ := hc
  exact ⟨fun l => hg.2.2 k hk l, fun l => Int.le_trans l hg.2.1⟩
theorem find_congr {α : Type} {p q : α → Bool} : ∀ {l : List α}, (∀ x ∈ l, p x = q x) → l.find? p = l.find? q
  | [], _ => rfl
  | a :: r, h => by
    rw [List.find?_cons, List.find?_cons, h a (List.mem_cons_self ..), find_congr fun x hx => h x (List.mem_cons_of_mem _ hx)]
theorem waits_wh {zs ns cs gs hs : List Int} (wc : WhL zs ns cs) (el : cs.length = gs.length) (wg : WhL zs gs hs) : waits cs hs = waits cs gs := by
  unfold waits
  refine List.map_congr_left fun t ht => ?_
  have ht := List.mem_range.mp ht
  have lh := wg.1
  have lc := wc.1
  have f : (List.range (hs.length - t)).find? (hit cs hs t) = (List.range (gs.length - t)).find? (hit cs gs t) := by
    rw [lh]
    refine find_congr fun d hd => ?_
    have hd := List.mem_range.mp hd
    unfold hit
    exact decide_eq_decide.mpr (wh_reach (wc.at (show t < ns.length by omega)) (wg.at (show t + d < gs.length by omega))).symm
  unfold waitV
  rw [f]
/-- the run of whole parcels keeps what is left of the service -/
theorem brk_no {zs ns cs gs hs ms ms' : List Int} {m : Int} {F : Nat → V} {r : V} (p : PosL zs) (hm : UpTo zs m) (m1 : 1 ≤ m) (wc : WhL zs ns cs) (rp : RunPair cs gs) (wg : WhL zs gs hs) (up : UpV F) (lg : LgL cs (SG F) ms) (ge : ∀ (i : Nat) (g m : Int), gs[i]? = some g → ms[i]? = some m → m ≤ g)
    (lg' : LgL cs (SG (lesP m F)) ms') (h : IsBrk hs ms' r) : r = .non := by
  rcases h with ⟨e, _⟩ | ⟨i, h, k, _, hh, hk, lt, _⟩
  · exact e
  · exfalso
    have lh := wg.1
    have el := rp.2.2.1
    have lc := wc.1
    have hi := (List.getElem?_eq_some_iff.mp hh).1
    have em := gdI (ns := ms) (i := i) (by have := lg.1; omega)
    have eg := gdI (ns := gs) (i := i) (by omega)
    have g1 := ge i _ _ eg em
    obtain ⟨s, y, hs', hy, ey⟩ := (lg.2 i _ em).1
    have ends := wc.at (show s < ns.length by omega)
    have wgi := wg.2 i _ _ eg hh
    have y0 : 0 ≤ y := by
      unfold SG at hy
      split at hy
      · cases hy
        exact Int.le_refl _
      · obtain ⟨k', e', h0, h1⟩ := up _ _ y (Nat.le_refl _) hy
        omega
    have a1 : cs.getD s 0 ≤ h := (wh_reach ends wgi).mp (by omega)
    have tot : gs.getD i 0 ≤ en zs zs.length := by
      have b := rp.2.2.2 i _ _ (gdI (show i < cs.length by omega)) eg
      obtain ⟨⟨j, hj, ej⟩, _⟩ := wc.at (show i < ns.length by omega)
      have := en_mono p hj
      omega
    have a2 := wh_low p hm m1 wgi tot
    have low : ∃ y', SG (lesP m F) (i - s) = .int y' ∧ y' ≤ max 0 (y - m + 1) := by
      unfold SG at hy ⊢
      by_cases c : i - s = 0
      · rw [if_pos c]
        exact ⟨0, rfl, by omega⟩
      · rw [if_neg c] at hy ⊢
        unfold lesP
        rw [if_neg c, hy]
        exact ⟨_, rfl, Int.le_refl _⟩
    obtain ⟨y', e', l'⟩ := low
    have := (lg'.2 i _ hk).2 _ ⟨s, y', hs', e', rfl⟩
    omega
/-! ### what is known of such curves -/
theorem up_les {m : Int} {F : Nat → V} (up : UpV F) : UpV (lesP m F) := fun i j k hij e => by
  unfold lesP at e ⊢
  have k0 : 0 ≤ k := by
    split at e
    · cases e
      exact Int.le_refl _
    · split at e
      · cases e
        omega
      · cases e
  by_cases c : i = 0
  · rw [if_pos c]
    exact ⟨0, rfl, Int.le_refl _, k0⟩
  · rw [if_neg c]
    rw [if_neg (by omega)] at e
    split at e
    · rename_i z hz
      cases e
      obtain ⟨k', e', h0, h1⟩ := up i j z hij hz
      rw [e']
      exact ⟨_, rfl, by omega, by omega⟩
    · cases e
theorem up_mor {m : Int} {F : Nat → V} (m1 : 1 ≤ m) (up : UpV F) : UpV (morP m F) := fun i j k hij e => by
  unfold morP at e ⊢
  have k0 : 0 ≤ k := by
    split at e
    · cases e
      exact Int.le_refl _
    · split at e
      · rename_i z hz
        cases e
        obtain ⟨k', e', h0, h1⟩ := up j j z (Nat.le_refl _) hz
        omega
      · cases e
  by_cases c : i = 0
  · rw [if_pos c]
    exact ⟨0, rfl, Int.le_refl _, k0⟩
  · rw [if_neg c]
    rw [if_neg (by omega)] at e
    split at e
    · rename_i z hz
      cases e
      obtain ⟨k', e', h0, h1⟩ := up i j z hij hz
      rw [e']
      exact ⟨_, rfl, by omega, by omega⟩
    · cases e
theorem calm_up {L : Nat → V} {v : List V} {q : Nat} {r : Int} (fg : FormG L v q r) (up : UpV L) (hb : ∀ j k, j ≤ v.length → L j = .int k → k < 2 ^ 29) : Calm v q r := by
  rcases fg.cases' with ⟨f, b, eL, hf, ev⟩ | ⟨s, eL, ev, rfl, rfl⟩
  · have lv : v.length = b + q := by rw [ev, List.length_map, List.length_range]
    have mono : MF.Mono f := fun j => by
      obtain ⟨k', e', h0, h1⟩ := up j (j + 1) (f (j + 1)) (by omega) (eL _)
      rw [eL] at e'
      cases e'
      exact h1
    have pos : ∀ j, 0 ≤ f j := fun j => by
      obtain ⟨k', e', h0, h1⟩ := up j j (f j) (Nat.le_refl _) (eL _)
      omega
    refine ⟨mono.rise hf.qp, ?_, fun z hz => ?_, fun e => ?_⟩
    · have := hf.qp b (Nat.le_refl _)
      have := hb (b + q) _ (by omega) (eL _)
      have := pos b
      omega
    · rw [ev] at hz
      obtain ⟨j, hj, e⟩ := List.mem_map.mp hz
      have hj := List.mem_range.mp hj
      cases e
      have := hb j _ (by omega) (eL _)
      have := pos j
      omega
    · subst e
      exact mono.flat hf
  · refine ⟨by omega, by omega, fun z hz => ?_, fun _ => rfl⟩
    have lv : v.length = s.length + 1 := by rw [ev, List.length_append, List.length_map]; rfl
    rw [ev] at hz
    rcases List.mem_append.mp hz with hz | hz
    · obtain ⟨y, hy, e⟩ := List.mem_map.mp hz
      cases e
      obtain ⟨j, hj⟩ := List.getElem?_of_mem hy
      have hl := (List.getElem?_eq_some_iff.mp hj).1
      have e : L j = .int z := by
        rw [eL, fn_low hl, List.getD_eq_getElem?_getD, hj]
        rfl
      have := hb j _ (by omega) e
      obtain ⟨k', e', h0, h1⟩ := up j j z (Nat.le_refl _) e
      omega
    · cases List.mem_singleton.mp hz
/-- all that is known of a drawn sketch -/
structure SkFull (xs : List V) (p : Nat) (g B : Int) (F : Nat → V) : Prop where
  R : RowF xs p g F
  up : UpV F
  bd : ∀ j k, F j = .int k → k ≤ B + ((j + 1 : Nat) : Int) * B
  p0 : 0 < p
  p1 : p ≤ 6
  x0 : 0 < xs.length
  x1 : xs.length ≤ 7
  g0 : 0 ≤ g
  g1 : g ≤ 300
theorem Sk.full {L : Nat} {B : Int} {xs : List V} {p : Nat} {g : Int} (h : Sk L 6 B xs p g) (hL : L ≤ 7) (b0 : 0 ≤ B) (hB : B ≤ 300) : ∃ F, SkFull xs p g B F := by
  obtain ⟨F, R, up⟩ := h.upV (by decide)
  refine ⟨F, ?_⟩
  cases h with
  | mkI s p g h =>
    have p0 := h.p0
    have pn := h.pn
    have pm := h.pm
    have le := h.le
    have g0 := h.g0
    have g1 := h.g1
    have R' := skiR h (by decide)
    have eF : ∀ j, F j = .int (MF.at_ s p g j) := fun j => by
      rcases R.cases' with ⟨f, n, rfl, e, _, pn', _, Q⟩ | ⟨t, k, rfl, e⟩
      · have ls : s.length = n := by have := congrArg List.length e; rw [List.length_map, List.length_map, List.length_range] at this; exact this
        have Q2 := MF.at_qp (s := s) (g := g) p0 pn
        rw [ls] at Q2
        refine congrArg V.int (MF.QP.ext p0 Q Q2 (fun i hi => ?_) j)
        have e1 := congrArg (fun l => l[i]?) e
        have e1 : (s.map V.int)[i]? = ((List.range n).map fun j => V.int (f j))[i]? := e1
        rw [get_map (p := p) (g := g) (by omega), List.getElem?_map, List.getElem?_range (by omega)] at e1
        exact (V.int.inj (Option.some.inj e1)).symm
      · exfalso
        have hm : V.non ∈ s.map V.int := by rw [e]; simp
        obtain ⟨z, _, e⟩ := List.mem_map.mp hm
        cases e
    exact ⟨R, up, fun j k e => by rw [eF] at e; cases e; exact (skiB h j).2, p0, pm, by rw [List.length_map]; omega, by rw [List.length_map]; omega, g0, by omega⟩
  | mkN s z g le asc wi g0 g1 =>
    refine ⟨R, up, fun j k e => ?_, by decide, by decide, by rw [List.length_append, List.length_replicate]; omega, by rw [List.length_append, List.length_map, List.length_replicate]; omega, g0, by omega⟩
    have m2 : 0 ≤ ((j + 1 : Nat) : Int) * B := Int.mul_nonneg (by omega) b0
    rcases R.cases' with ⟨f, n, rfl, e2, _⟩ | ⟨t, k2, rfl, e2⟩
    · exfalso
      have hm : V.non ∈ (List.range n).map fun j => V.int (f j) := by rw [← e2]; simp
      obtain ⟨z, _, e⟩ := List.mem_map.mp hm
      cases e
    · have e3 := row_inj e2
      subst e3
      by_cases c : j < s.length
      · rw [fn_low c] at e
        cases e
        have := wi j _ (gdI c)
        omega
      · rw [fn_high (by omega)] at e
        cases e
theorem SkFull.small {xs : List V} {p : Nat} {g B : Int} {F : Nat → V} (h : SkFull xs p g B F) (b0 : 0 ≤ B) (hB : B ≤ 300) {j : Nat} {k : Int} (hj : j ≤ 5000) (e : F j = .int k) : 0 ≤ k ∧ k ≤ 1600000 := by
  obtain ⟨k', e', h0, h1⟩ := h.up j j k (Nat.le_refl _) e
  have := h.bd j k e
  have : ((j + 1 : Nat) : Int) * B ≤ 5001 * 300 := Int.mul_le_mul (by omega) hB b0 (by decide)
  omega
/-- what is left of a service has a least form of few values -/
theorem par_ex {xs : List V} {p m : Nat} {g B : Int} {F : Nat → V} (h : SkFull xs p g B F) (Z : SkZ xs g) (hm : m ≤ 100) : ∃ sz, ParOk xs p g (lesP ((m : Int) + 1) F) sz := by
  have p0 := h.p0
  have p1 := h.p1
  have x1 := h.x1
  have g0 := h.g0
  have g1 := h.g1
  have up := h.up
  obtain ⟨n, en⟩ : ∃ n, n = max xs.length (p + 1) := ⟨_, rfl⟩
  have pm : p * m ≤ 6 * 100 := Nat.mul_le_mul p1 hm
  rcases h.R.cases' with ⟨f, q, rfl, rfl, _, pq, pb, Qf⟩ | ⟨s, q, rfl, rfl⟩
  · rw [List.length_map, List.length_range] at x1 en
    have pos : ∀ j, 0 ≤ f j := fun j => by
      obtain ⟨k', e', h0, h1⟩ := up j j (f j) (Nat.le_refl _) rfl
      omega
    have eW : lesP ((m : Int) + 1) (fun j => V.int (f j)) = fun j => .int (max 0 ((if j = 0 then (0 : Int) else f j) - (m : Int))) := by
      funext j
      rw [les_sg (by omega), sg_int]
    have far : 0 < g → ∀ c, n + p * m ≤ c → (m : Int) ≤ f c := fun gp c hc => by
      obtain ⟨kk, i, e, hi⟩ := MF.dec_add p0 (show n - p ≤ c by omega)
      have mm := Qf.mul (j := n - p + i) (by omega) kk
      rw [← e] at mm
      have := pos (n - p + i)
      have hk : m < kk + 1 := by
        refine Nat.lt_of_mul_lt_mul_right (a := p) ?_
        rw [Nat.succ_mul, Nat.mul_comm m p]
        omega
      have : (kk : Int) * 1 ≤ (kk : Int) * g := Int.mul_le_mul_of_nonneg_left (by omega) (by omega)
      omega
    have QW : MF.QP (fun j => max 0 ((if j = 0 then (0 : Int) else f j) - (m : Int))) p g (n + p * m + p - p) := fun j hj => by
      have q := Qf j (by omega)
      show max 0 ((if j + p = 0 then (0 : Int) else f (j + p)) - (m : Int)) = max 0 ((if j = 0 then (0 : Int) else f j) - (m : Int)) + g
      rw [if_neg (by omega), if_neg (by omega), q]
      by_cases gz : g = 0
      · rw [gz]
        omega
      · have := far (by omega) j (by omega)
        omega
    refine ⟨n + p * m + p, ?_⟩
    rw [eW]
    exact ⟨row_int p0 (by omega) (by omega) QW, in_int p0 (by omega) (by omega) g0 (by omega), by omega, by omega⟩
  · have lxs : (s.map V.int ++ List.replicate (q + 1) V.non).length = s.length + (q + 1) := by rw [List.length_append, List.length_map, List.length_replicate]
    have lt : (0 :: (s.drop 1).map fun i => max 0 (i - ((m : Int) + 1) + 1)).length < n := by
      rw [List.length_cons, List.length_map, List.length_drop]
      omega
    refine ⟨n, ?_⟩
    rw [← lesP_non]
    exact ⟨row_non lt, in_non lt (by omega), by omega, by omega⟩
/-- rows below that keep a promise -/
theorem sha_low {ns ms : List Int} {L c : Nat → V} {n : Nat} (cv : CloV L c n) (lg : LgL ns c ms) (hn : ns.length ≤ n) {s t : Nat} (st : s ≤ t) (ht : t < ns.length) {k : Int} (hk : c (t - s) = .int k) : ms.getD t 0 - ms.getD s 0 ≤ k := by
  have lm := lg.1
  obtain ⟨⟨u, y, hu, hy, e⟩, _⟩ := lg.2 s _ (gdI (by omega))
  have add := cv.add (s := t - s) (t := s - u) (by omega)
  rw [hk, hy, show t - s + (s - u) = t - u by omega] at add
  obtain ⟨y', e', l'⟩ := add (k + y) rfl
  have := (lg.2 t _ (gdI (by omega))).2 _ ⟨u, y', by omega, e', rfl⟩
  omega
theorem sha_asc {ns ms : List Int} {L c : Nat → V} {n : Nat} (cv : CloV L c n) (up : UpV L) (ac : Asc0 ns) (lg : LgL ns c ms) (hn : ns.length ≤ n) : Asc0 ms := by
  obtain ⟨asc, n0, pos⟩ := ac.asc
  have n1 := ac.one
  have lm := lg.1
  refine asc0_of (fun i x y hx hy => ?_) ?_
  · have hi : i + 1 < ns.length := by have := (List.getElem?_eq_some_iff.mp hy).1; omega
    obtain ⟨⟨s, k, hs, hk, e⟩, _⟩ := lg.2 _ _ hy
    have mn := (lg.2 _ _ hx).2
    by_cases c0 : s = i + 1
    · subst c0
      rw [Nat.sub_self, cv.z] at hk
      cases hk
      have h1 := mn _ ⟨i, 0, Nat.le_refl _, by rw [Nat.sub_self]; exact cv.z, rfl⟩
      have := asc i _ _ (gdI (show i < ns.length by omega)) (gdI hi)
      omega
    · have u := (cv.up up (i - s) (by omega)).2 (by omega)
      rw [show i - s + 1 = i + 1 - s by omega, hk] at u
      obtain ⟨k', e', l'⟩ := u k rfl
      have := mn _ ⟨s, k', by omega, e', rfl⟩
      omega
  · obtain ⟨⟨s, k, hs, hk, e⟩, _⟩ := lg.2 0 _ (gdI (show 0 < ms.length by omega))
    obtain rfl : s = 0 := by omega
    rw [cv.z] at hk
    cases hk
    rw [gdI (show 0 < ms.length by omega), e, getD_of n0]
    rfl
/-- whole parcels keep more -/
theorem keep_more {zs ns ms ss : List Int} {L c : Nat → V} {m : Int} {n : Nat} (p : PosL zs) (hm : UpTo zs m) (m1 : 1 ≤ m) (cv : CloV L c n) (up : UpV L) (lg : LgL ns c ms) (hn : ns.length ≤ n) (ws : WhL zs ms ss) {s t : Nat} (st : s < t) (ht : t < ns.length) : leV (.int (ss.getD t 0 - ss.getD s 0)) (morP m L (t - s)) := fun k e => by
  unfold morP at e
  rw [if_neg (by omega)] at e
  split at e
  · rename_i i hi
    cases e
    obtain ⟨i', e', h0, h1⟩ := up _ _ i (Nat.le_refl _) hi
    have lm := lg.1
    obtain ⟨k', e1, l1⟩ := cv.low (t - s) (by omega) (by omega) i hi
    have d := sha_low cv lg hn (Nat.le_of_lt st) ht e1
    refine ⟨_, rfl, ?_⟩
    rcases wh_diff p hm (ws.at (show s < ms.length by omega)) (ws.at (show t < ms.length by omega)) with q | q
    · omega
    · omega
  · cases e
end WW
end

section
set_option Elab.async false
set_option linter.all false
set_option maxRecDepth 100000
set_option maxHeartbeats 16000000
namespace WW
open PySem L2 WO WG RZ WQ WT WL WV WC
open LamX (ExtN Tabs TabS TabB lamS_by)
abbrev sLaw : Stmt := top 88
abbrev nLaw : List Str := ["script", "draw", "turn", "most_here", "sizes_here", "row_here", "came_here", "service_here", "promise_here", "due", "service", "gone_here", "parcelled_here", "promise", "shaped_here", "some", "bad", "caught", "ask", "told", "late_one", "lap", "beat", "t", "s"]
theorem scLaw : FnScope nLaw ["script"] (defScope sLaw) := ⟨rfl, rfl, rfl, by decide +kernel, rfl, by decide +kernel, by decide +kernel⟩
abbrev lamQ : Str := "law.<locals>.<lambda>"
def spLaw (K : PySem.W.Frag) (cs : List (Addr × Addr)) : Sp := fun vs H Q _ => ∃ (a : Addr) (ns : List Int), vs = [.ref a] ∧ SqL K H a (ns.map V.int) ∧ ns.length ≤ 63 ∧ (∀ p ∈ cs, H p.2 = some (.tbl #[])) ∧ ∀ H', Q (.bl true) H'
theorem xN {H H1 H2 : Hp} (a : ExtN H H1) (b : ExtN H1 H2) : ExtN H H2 := fun c o h n => b _ _ (a _ _ h n) n
theorem SkAt.extN {H H' : Hp} {d l e a : Addr} {xs : List V} {p : Nat} {g : Int} (h : SkAt H d l e a xs p g) (s : ExtN H H') : SkAt H' d l e a xs p g :=
  ⟨s _ _ h.ob (fun _ z => by cases z), s _ _ h.li (fun _ z => by cases z), h.ed, h.el, h.ad, h.al⟩
theorem errO_extN {H H' : Hp} {a C : Addr} {o : Option (Str × V)} (h : ErrC H a C o) (s : ExtN H H') : ErrC H' a C o := by
  cases h with
  | bare h => exact .bare (s _ _ h (fun _ z => by unfold Caught at z; cases z))
  | with_ h hd => exact .with_ (s _ _ h (fun _ z => by unfold Caught at z; cases z)) (s _ _ hd (fun _ z => by cases z))
theorem errO_put {H : Hp} {a C u : Addr} {o : Option (Str × V)} {us ys : List V} (h : ErrC H a C o) (hu : H u = some (.lst us)) : ErrC (upd H u (.lst ys)) a C o := by
  cases h with
  | bare h => exact .bare (by rw [upd_ne (ne_of h hu (by unfold Caught; intro z; cases z))]; exact h)
  | with_ h hd => exact .with_ (by rw [upd_ne (ne_of h hu (by unfold Caught; intro z; cases z))]; exact h) (by rw [upd_ne (ne_of hd hu (by intro z; cases z))]; exact hd)
/-- errors in a list -/
structure BagO (T : List (Addr × Str)) (C : Addr) (o : Option (Str × V)) (Hb H : Hp) (u : Addr) (es : List Addr) : Prop where
  lst : H u = some (.lst (es.map V.ref))
  er : ∀ e ∈ es, ErrC H e C o
  x : ExtN Hb H
  T : Tabs T H
  fu : ∀ p o, Hb p = some o → (∀ ps, o ≠ .tbl ps) → p ≠ u
theorem BagO.first {T : List (Addr × Str)} {C : Addr} {o : Option (Str × V)} {Hb H8 HC : Hp} {u ad : Addr} (x8 : ExtN Hb H8) (T8 : Tabs T H8) (sF : Same H8 HC) (er : ErrC HC ad C o) (hu : HC u = none) : BagO T C o Hb (upd HC u (.lst [.ref ad])) u [ad] := by
  have xC : ExtN Hb HC := xN x8 (ExtN.of_same sF)
  have sU := same_new (o := HO.lst [V.ref ad]) hu
  refine ⟨upd_same, fun e he => ?_, xN xC (ExtN.of_same sU), Tabs.same T8 (Same.trans sF sU), fun p o h n z => ?_⟩
  · cases List.mem_singleton.mp he
    exact errO_extN er (ExtN.of_same sU)
  · have := xC _ _ h n
    rw [z, hu] at this
    cases this
theorem BagO.step {T : List (Addr × Str)} {C : Addr} {o : Option (Str × V)} {Hb H4 H8 HC : Hp} {u ad : Addr} {es : List Addr} (b : BagO T C o Hb H4 u es) (x8 : ExtN H4 H8) (T8 : Tabs T H8) (sF : Same H8 HC) (er : ErrC HC ad C o) :
    HC u = some (.lst (es.map V.ref)) ∧ BagO T C o Hb (upd HC u (.lst (es.map V.ref ++ [.ref ad]))) u (es ++ [ad]) := by
  have xC : ExtN H4 HC := xN x8 (ExtN.of_same sF)
  have hu : HC u = some (.lst (es.map V.ref)) := xC _ _ b.lst (fun _ z => by cases z)
  refine ⟨hu, by rw [List.map_append]; exact upd_same, fun e he => ?_, fun p o h n => ?_, tabs_put (Tabs.same T8 sF) hu, b.fu⟩
  · rcases List.mem_append.mp he with he | he
    · exact errO_put (errO_extN (b.er e he) xC) hu
    · cases List.mem_singleton.mp he
      exact errO_put er hu
  · rw [upd_ne (b.fu p o h n)]
    exact xC _ _ (b.x _ _ h n) n
/-! ### what a turn holds -/
structure PV where
  (d l c z r b e ba e' ba' : Addr) (m : Nat) (zs ns cs : List Int) (xs xs' : List V) (p p' : Nat) (g g' : Int)
structure Lp (K : PySem.W.Frag) (tb tb2 : Addr) (v : PV) (H : Hp) : Prop where
  D : DT [(tb, lamQ), (tb2, lamQ2)] H v.d v.l v.c
  hz : H v.z = some (.lst (v.zs.map V.int))
  zl : v.z ≠ v.l
  hr : SqT K H v.r (v.ns.map V.int)
  hb : SqT K H v.b (v.cs.map V.int)
  sk : SkAt H v.d v.l v.e v.ba v.xs v.p v.g
  sk' : SkAt H v.d v.l v.e' v.ba' v.xs' v.p' v.g'
theorem Lp.same {K : PySem.W.Frag} {tb tb2 : Addr} {v : PV} {H H' : Hp} (h : Lp K tb tb2 v H) (s : Same H H') : Lp K tb tb2 v H' :=
  ⟨h.D.same s, s _ _ h.hz, h.zl, SqT.ext h.hr s, SqT.ext h.hb s, h.sk.keep (Same.keepD _ _ s), h.sk'.keep (Same.keepD _ _ s)⟩
theorem Lp.keep {K : PySem.W.Frag} {tb tb2 : Addr} {v : PV} {H H' : Hp} (h : Lp K tb tb2 v H) (D : DrawAt H' v.d v.l v.c) (k : KeepD H H' v.d v.l) : Lp K tb tb2 v H' :=
  ⟨h.D.keep D k, lst_keep h.hz h.D.D h.zl k, h.zl, sqT_keep h.hr h.D.D k, sqT_keep h.hb h.D.D k, h.sk.keep k, h.sk'.keep k⟩
theorem Lp.ext {K : PySem.W.Frag} {tb tb2 : Addr} {v : PV} {H H' : Hp} (h : Lp K tb tb2 v H) (T : Tabs [(tb, lamQ), (tb2, lamQ2)] H') (s : ExtN H H') : Lp K tb tb2 v H' :=
  ⟨h.D.ext T s, s _ _ h.hz (fun _ z => by cases z), h.zl, SqT.extN h.hr s, SqT.extN h.hb s, h.sk.extN s, h.sk'.extN s⟩
structure Lq (v : PV) (F F' : Nat → V) : Prop where
  m1 : 1 ≤ v.m
  m2 : v.m ≤ 90
  pl : PosL v.zs
  ut : UpTo v.zs (v.m : Int)
  lz : v.zs.length ≤ 30
  ac : Asc0 v.ns
  ln : v.ns.length = 22
  wi : Within v.ns 110
  wh : WhL v.zs v.ns v.cs
  sf : SkFull v.xs v.p v.g 300 F
  Z : SkZ v.xs v.g
  ma : MakeOk v.xs v.p v.g
  sf' : SkFull v.xs' v.p' v.g' 28 F'
  Z' : SkZ v.xs' v.g'
  ma' : MakeOk v.xs' v.p' v.g'
theorem KcP.svc {H : Hp} {C x : Addr} {L : Nat → V} {v : List V} {q : Nat} {r : Int} (cu : CurveAt H C x v q r) (fg : FormG L v q r) (CM : Calm v q r) (l : v.length ≤ 4000) : SvC H C x L := by
  have := fg.len
  exact ⟨v, q, r, cu, fg.rowF (by omega), CM, by omega, by omega⟩
theorem kc_made {H : Hp} {C x : Addr} {xs v : List V} {p : Nat} {g q r : Int} {F : Nat → V} (M : MakeOk xs p g) (fv : FormV xs p g v q r) (R : RowF xs p g F) (cu : CurveAt H C x v q r) : ∃ qn, KcP H C x F qn := by
  obtain ⟨q1, rfl, fg⟩ := form_g fv R
  obtain ⟨q2, e2, CM⟩ := calm_of M fv
  obtain rfl : q1 = q2 := Int.ofNat.inj e2
  have := formV_len fv
  have := M.st.l2
  exact ⟨q1, v, r, cu, fg, CM, by omega⟩
theorem good_ints {ms : List Int} (l : ms.length ≤ 1001) (h : ∀ x ∈ ms, 0 ≤ x ∧ x ≤ 10000) : GoodD (.tuple ((ms.map V.int).map vD)) := by
  refine good_tup (fun v hv => ?_) (by rw [List.length_map]; omega)
  obtain ⟨i, hi, rfl⟩ := List.mem_map.mp hv
  have := h i hi
  refine .inr ⟨i, rfl, ?_⟩
  show i.natAbs < 2 ^ 64
  omega
theorem flat_is {ns : List Int} : FlatR (ns.map V.int) := fun v hv => by
  obtain ⟨i, _, rfl⟩ := List.mem_map.mp hv
  exact .inr ⟨i, rfl⟩
theorem mem_get {ns : List Int} {x : Int} (h : x ∈ ns) : ∃ i, i < ns.length ∧ ns.getD i 0 = x := by
  obtain ⟨i, hi⟩ := List.getElem?_of_mem h
  exact ⟨i, (List.getElem?_eq_some_iff.mp hi).1, getD_of hi⟩
theorem Lq.cb {v : PV} {F F' : Nat → V} (q : Lq v F F') : ∀ x ∈ v.cs, 0 ≤ x ∧ x ≤ 110 := fun x hx => by
  obtain ⟨i, hi, rfl⟩ := mem_get hx
  have ac := wh_asc q.pl q.wh q.ac
  have h0 := ac.asc.2.2 i _ (gdI hi)
  have hn : i < v.ns.length := by have := q.wh.1; omega
  have := q.wh.le hn
  have := q.wi i _ (gdI hn)
  omega
/-- one beat late -/
theorem late_make : MakeOk [V.int 0, .int 0] 1 1 where
  st := ⟨by decide, by decide, fun i x h => by
      match i, h with
      | 0, h => cases h; exact .inr ⟨0, rfl, by decide, by decide⟩
      | 1, h => cases h; exact .inr ⟨0, rfl, by decide, by decide⟩, fun i x y h h2 => by
      match i, h, h2 with
      | 0, h, h2 =>
        cases h
        cases h2
        exact .inl ⟨0, 0, rfl, rfl, by decide⟩
      | 1, _, h2 => cases h2⟩
  fo := .mkI [0, 0] 1 1 (by decide) (by decide) (by decide) (by decide) (by decide)
  p1 := by decide
  p2 := by decide
  p3 := by decide
  g0 := by decide
  g1 := by decide
  fa := ⟨.int 0, .int 0, rfl, rfl, .inl ⟨0, 0, rfl, rfl, by decide⟩⟩
theorem late_les : lesP 5000 (fun j => .int (MF.at_ [0, 0] 1 1 j)) = fun j => .int (limF 1 5000 j) := by
  funext j
  have e5 : lesP 5000 (fun j => V.int (MF.at_ [0, 0] 1 1 j)) j = lesP ((4999 : Int) + 1) (fun j => .int (MF.at_ [0, 0] 1 1 j)) j := rfl
  rw [e5, les_sg (by decide)]
  unfold SG limF
  match j with
  | 0 => rfl
  | 1 => rfl
  | j + 2 =>
    rw [if_neg (by omega)]
    have e : MF.at_ [0, 0] 1 1 (j + 2) = ((j + 1 : Nat) : Int) := by
      unfold MF.at_
      rw [if_neg (by show ¬ j + 2 < 2; omega)]
      have e1 : (j + 2 - [(0 : Int), 0].length) / 1 = j := by
        rw [Nat.div_one]
        rfl
      rw [e1, Nat.mul_one, show j + 2 - (j + 1) = 1 by omega]
      show (0 : Int) + ((j + 1 : Nat) : Int) * 1 = _
      omega
    show V.int (max 0 (MF.at_ [0, 0] 1 1 (j + 2) - 4999)) = V.int (max 0 (((1 : Nat) : Int) * ((j + 2 : Nat) : Int) - ((5000 : Nat) : Int)))
    rw [e]
    congr 1
    omega
theorem late_form : FormG (fun j => V.int (limF 1 5000 j)) ((List.range 5001).map fun j => V.int (limF 1 5000 j)) 1 ((1 : Nat) : Int) := lim_form (pc := 1) (B := 5000) (q := 0) (by decide) (by decide)
/-! ### what is refused -/
inductive BadS (K : PySem.W.Frag) (H : Hp) : V → Prop
  | fl {y : V} (h : flatV y = true) : BadS K H y
  | dk {a : Addr} {kvs : List (Key × V)} (h : H a = some (.dK kvs)) : BadS K H (.ref a)
  | sq {a : Addr} {xs : List V} (h : H a = some (.lst xs)) (l : xs.length ≤ 1001) (c : 400 < xs.length ∨ (xs.length ≤ 400 ∧ xs.all flatV = true ∧ xs.all szB = false)) : BadS K H (.ref a)
theorem BadS.extN {K : PySem.W.Frag} {H H' : Hp} {y : V} (h : BadS K H y) (s : ExtN H H') : BadS K H' y := by
  cases h with
  | fl h => exact .fl h
  | dk h => exact .dk (s _ _ h (fun _ z => by cases z))
  | sq h l c => exact .sq (s _ _ h (fun _ z => by cases z)) l c
theorem BadS.bad {K : PySem.W.Frag} {H : Hp} {y : V} (h : BadS K H y) : SzBad K H y := by
  cases h with
  | fl h => exact .inl (listT_flat h)
  | dk h => exact .inl (listT_dict h)
  | sq h l c => exact .inr ⟨_, _, rfl, .inl (SqL.of h), l, c⟩
theorem ones_flat : ∀ m : Nat, (List.replicate m [V.int 1]).flatten = List.replicate m (V.int 1)
  | 0 => rfl
  | m + 1 => by rw [List.replicate_succ, List.flatten_cons, ones_flat m, List.replicate_succ]; rfl
/-- no service here -/
inductive BadC (K : PySem.W.Frag) (H : Hp) : V → Prop
  | no : BadC K H .non
  | nm : BadC K H (.int 5)
  | dk {a : Addr} {kvs : List (Key × V)} (h : H a = some (.dK kvs)) : BadC K H (.ref a)
theorem BadC.extN {K : PySem.W.Frag} {H H' : Hp} {y : V} (h : BadC K H y) (s : ExtN H H') : BadC K H' y := by
  cases h with
  | no => exact .no
  | nm => exact .nm
  | dk h => exact .dk (s _ _ h (fun _ z => by cases z))
theorem BadC.row {K : PySem.W.Frag} {H : Hp} {y : V} (h : BadC K H y) : RowIn K H y none := by
  cases h with
  | no => exact .no (listT_flat rfl)
  | nm => exact .no (listT_flat rfl)
  | dk h => exact .no (listT_dict h)
theorem no_row : ¬ RowOk none := by rintro ⟨_, e, _⟩; cases e
theorem small_les {xs : List V} {p : Nat} {g B : Int} {F : Nat → V} {m : Int} (h : SkFull xs p g B F) (b0 : 0 ≤ B) (hB : B ≤ 300) (m1 : 1 ≤ m) {j : Nat} (hj : j ≤ 5000) : SmallV (lesP m F j) ∧ ∀ k, lesP m F j = .int k → k < 2 ^ 29 := by
  unfold lesP
  split
  · exact ⟨.inr ⟨0, rfl, by show (0 : Int).natAbs < 2 ^ 64; decide⟩, fun k e => by cases e; decide⟩
  · split
    · rename_i i hi
      have := h.small b0 hB hj hi
      refine ⟨.inr ⟨_, rfl, ?_⟩, fun k e => ?_⟩
      · show (max 0 (i - m + 1)).natAbs < 2 ^ 64
        omega
      · cases e
        omega
    · exact ⟨.inl rfl, fun k e => by cases e⟩
theorem small_mor {xs : List V} {p : Nat} {g B : Int} {F : Nat → V} {m : Int} (h : SkFull xs p g B F) (b0 : 0 ≤ B) (hB : B ≤ 300) (m1 : 1 ≤ m) (m2 : m ≤ 100) {j : Nat} (hj : j ≤ 5000) : SmallV (morP m F j) ∧ ∀ k, morP m F j = .int k → k < 2 ^ 29 := by
  unfold morP
  split
  · exact ⟨.inr ⟨0, rfl, by show (0 : Int).natAbs < 2 ^ 64; decide⟩, fun k e => by cases e; decide⟩
  · split
    · rename_i i hi
      have := h.small b0 hB hj hi
      refine ⟨.inr ⟨_, rfl, ?_⟩, fun k e => ?_⟩
      · show (i + m - 1).natAbs < 2 ^ 64
        omega
      · cases e
        omega
    · exact ⟨.inl rfl, fun k e => by cases e⟩
theorem waits_flat {cs gs : List Int} : FlatR (waits cs gs) := fun v hv => by
  unfold waits at hv
  obtain ⟨t, _, rfl⟩ := List.mem_map.mp hv
  unfold waitV
  split
  · exact .inr ⟨_, rfl⟩
  · exact .inl rfl
section
variable {P : Program} {w : World} {K : PySem.W.Frag} {mg : Str → Option Value} {base : Heap}
theorem ok_law {f fC ct tb tb2 W C CB CN CR CRn CT fI fE fPsv fPpr : Addr} {fd dC dI dE dPsv dPpr : FuncData} {cs0 : List (Addr × Addr)} (F : Fun K "law" "law" sLaw f fd) (hcode : fd.code = .ref ct) (TB : TabB base mg ct tb) (ntb : tb ≠ tb2) (h0 : ∀ {H : Hp}, (∀ p ∈ cs0, H p.2 = some (.tbl #[])) → H tb = some (.tbl #[]) ∧ H tb2 = some (.tbl #[]))
    (T : CurG mg) (nmax : mg "max" = none) (nrepr : mg "repr" = none) (U : CurT K mg C fI fE) (GI : FnOk P w K mg base (L2.CX P w) 4 fI dI ["self", "start", "period", "growth"] (spInit K C CB)) (bI : Binds K dI ["self", "start", "period", "growth"] [])
    (GE : FnOk P w K mg base CX0 1 fE dE ["self", "other"] (spEqC K C)) (bE : Binds K dE ["self", "other"] [])
    (EB : ErrGf K W CB "part") (EN : ErrGf K W CN "part") (EM : ErrGf K W CT "most") (mW : mg "WaitError" = some (.ref W)) (mCB : mg "BadCurve" = some (.ref CB)) (mCN : mg "BadNumber" = some (.ref CN)) (mCR : mg "BadRow" = some (.ref CR)) (mCT : mg "TooMany" = some (.ref CT))
    (ES : PySem.W.exmOne K (.ref CR) (.ref W) = some true ∧ PySem.W.kitOne K (.ref CR) (.ref CR) = some true ∧ AskE K CR)
    (nN : PySem.W.kitOne K (.type "NoneType") (.ref C) = some false) (nI : PySem.W.kitOne K (.type "int") (.ref C) = some false) (nD : PySem.W.kitOne K (.type "dict") (.ref C) = some false)
    (c_beg : Cal P w K mg base CX0 1 "_law_begun" ["script"] (spBegun K)) (c_tak : Cal P w K mg base CX0 2 "_law_take" ["draw", "amount"] (spTake K)) (c_pic : Cal P w K mg base CX0 3 "_law_pick" ["draw", "some"] (spPick K)) (c_ase : Cal P w K mg base CX0 7 "_law_any_service" ["draw"] (spAse K)) (c_ske : Cal P w K mg base CX0 5 "_law_sketch" ["draw", "long", "most"] (spSketch K)) (c_mad : Cal P w K mg base CX0 6 "_law_made" ["sketch"] (spMade K C))
    (c_rof : Cal P w K mg base CX0 4 "_law_row_of" ["draw", "size", "most_here"] (spRof K)) (c_who : Cal P w K mg base CX0 1 "_law_whole" ["row_here", "sizes_here"] (spWho K)) (c_at : Cal P w K mg base CX0 1 "_law_at" ["sketch", "beat"] (spAt K)) (c_pl2 : Cal P w K mg base CX0 1 "_law_plus" ["one", "other"] (spPl2 K)) (c_le2 : Cal P w K mg base CX0 1 "_law_is_least" ["one", "other"] (spLe2 K))
    (c_vri : CalG P w K mg base CX0 6 "_law_values_right" ["thing", "row_here"] (spVri K C)) (c_isf : CalG P w K mg base CX0 3 "_law_is_form" ["thing", "sketch"] (spIsf K C)) (c_par : Cal P w K mg base CX0 3 "_law_parcelled" ["sketch", "less_here"] (spPar K)) (c_mor : Cal P w K mg base CX0 3 "_law_more_at_once" ["sketch", "more_here"] (spMor K))
    (c_lgn : Cal P w K mg base CX0 3 "_law_least_gone" ["came_here", "sketch"] (spLgn K)) (c_gab : Cal P w K mg base CX0 4 "_law_gone_above" ["draw", "came_here", "least_here"] (spGa2 K)) (c_clo : Cal P w K mg base CX0 2 "_law_closure" ["sketch", "beats"] (spClo K)) (c_sha : Cal P w K mg base CX0 2 "_law_shaped" ["came_here", "promise_here"] (spSha K)) (c_lim : CalG P w K mg base CX0 11 "_law_limit_right" ["draw"] (spLim K tb2))
    (c_whp : Cal P w K mg base (L2.CX P w) 4 "whole_parcels" ["row", "sizes"] (spWhp K CR CN)) (qc_whp : CalK P w K mg base (L2.CX P w) 4 "whole_parcels" ["row", "sizes"] ["sizes", "row"] kgR2 kgR2 (spWhp K CR CN))
    (c_psv : Cal P w K mg base (L2.CX P w) 8 "parcel_service" ["service", "most"] (spPsv K C CB CN CT)) (qc_psv : CalK P w K mg base (L2.CX P w) 8 "parcel_service" ["service", "most"] ["most", "service"] kgR2 kgR2 (spPsv K C CB CN CT))
    (c_ppr : Cal P w K mg base (L2.CX P w) 7 "parcel_promise" ["promise", "most"] (spPpr K C CB CN)) (qc_ppr : CalK P w K mg base (L2.CX P w) 7 "parcel_promise" ["promise", "most"] ["most", "promise"] kgR2 kgR2 (spPpr K C CB CN))
    (GPsv : FnOk P w K mg base (L2.CX P w) 8 fPsv dPsv ["service", "most"] (spPsv K C CB CN CT)) (kPsv : PySem.W.keepIn K (.ref fPsv) = true) (bPsv : Binds K dPsv ["service", "most"] []) (mPsv : mg "parcel_service" = some (.ref fPsv))
    (GPpr : FnOk P w K mg base (L2.CX P w) 7 fPpr dPpr ["promise", "most"] (spPpr K C CB CN)) (kPpr : PySem.W.keepIn K (.ref fPpr) = true) (bPpr : Binds K dPpr ["promise", "most"] []) (mPpr : mg "parcel_promise" = some (.ref fPpr))
    (c_ksv : Cal P w K mg base (L2.CX P w) 7 "keeps_service" ["run", "service"] (spKsv K C CRn CB)) (c_rwt : Cal P w K mg base (L2.CX P w) 5 "run_waits" ["run"] (spWaits K CRn))
    (FC : Fun K "_law_caught" "_law_caught" sCaught fC dC) (bC : Binds K dC ["work"] []) (mC : mg "_law_caught" = some (.ref fC)) :
    FnG P w K mg base CX0 12 f fd ["script"] (spLaw K cs0) := by
  obtain ⟨ocC, odC, kVC, docC, pmC, anC, cdvC, ctC, oslC, rfl, lkC, hcdC⟩ := FC.ex
  have kC := FC.kp
  refine okC F hcode scLaw (fun vs H Q E h => ?_) (fun A outer s H vs Q E hr hgu h => ?_)
  · obtain ⟨a, ns, rfl, _⟩ := h
    rfl
  · obtain ⟨a, ns, rfl, hS, hn, hT, k⟩ := h
    have hu := hu_of hr
    have hu64 := hr.units
    refine ⟨_, (C8.pss_cut (ps_set (i := 1) scLaw.nd rfl (Or.inr rfl) (pe_callC c_beg (hr.mono (by decide)) rfl pass0 (pa_cons (pv 0) pa_nil)))
 (C8.pss_cut (ps_for PassesOwn.never rfl (pi_range1 rfl T.range (pa_cons pe_int pa_nil)) (pg_name (i := 2) scLaw.nd rfl (Or.inl rfl)) (C8.pss_cut (ps_set (i := 3) scLaw.nd rfl (Or.inr rfl) (pe_callC c_pic (hr.mono (by decide)) rfl pass0 (pa_cons (pv 1) (pa_cons (pe_lst (pa_cons pe_int (pa_cons pe_int (pa_cons pe_int (pa_cons pe_int (pa_cons (pe_op op_add pe_int (pe_callC c_tak (hr.mono (by decide)) rfl pass0 (pa_cons (pv 1) (pa_cons pe_int pa_nil)))) pa_nil)))))) pa_nil))))
 (C8.pss_cut (ps_setLc (i := 4) (own := [("lap", 21)]) (g := (gName 21)) (tt := tYes) rfl scLaw.nd rfl rfl (sw_true rfl rfl rfl (by decide +kernel)) (pi_range1 rfl T.range (pa_cons (pe_callC c_tak (hr.mono (by decide)) rfl pass0 (pa_cons (pv 1) (pa_cons pe_int pa_nil))) pa_nil)) (blkOk_by (N := nLaw) (sc := defScope sLaw) (by decide +kernel)) (fun _ _ _ _ _ => (pg_name (i := 21) scLaw.nd rfl (Or.inl rfl))) (fun _ _ _ _ _ => pts_nil) (fun _ _ _ _ _ => (pe_op op_add pe_int (pe_callC c_tak (hr.mono (by decide)) rfl pass0 (pa_cons (pv 1) (pa_cons (pv 3) pa_nil))))))
 (C8.pss_cut (ps_set (i := 5) scLaw.nd rfl (Or.inr rfl) (pe_callC c_rof (hr.mono (by decide)) rfl pass0 (pa_cons (pv 1) (pa_cons pe_int (pa_cons pe_int pa_nil)))))
 (C8.pss_cut (ps_set (i := 6) scLaw.nd rfl (Or.inl rfl) (pe_callC c_who (hr.mono (by decide)) rfl pass0 (pa_cons (pv 5) (pa_cons (pv 4) pa_nil))))
 (C8.pss_cut (ps_if (PW.pt (pw_or (pt_cmpR op_ne (pe_callB (call_repr hgu hu64) (by rfl) nrepr (by decide +kernel) (pa_cons (pe_callC c_whp (hr.mono (by decide)) rfl passF (pa_cons (pv 5) (pa_cons (pv 4) pa_nil))) pa_nil)) (pe_callB (call_repr hgu hu64) (by rfl) nrepr (by decide +kernel) (pa_cons (pv 6) pa_nil)) (nomark _)) (pw_or1 (pt_cmpR op_ne (pe_callB (call_repr hgu hu64) (by rfl) nrepr (by decide +kernel) (pa_cons (pe_callKC qc_whp (hr.mono (by decide)) rfl passF (pk_cons (pe_callTy call_tuple_of (by rfl) T.tuple (by decide +kernel) (pa_cons (pv 4) pa_nil)) (pk_cons (pe_callTy call_list_of (by rfl) T.list (by decide +kernel) (pa_cons (pv 5) pa_nil)) pk_nil))) pa_nil)) (pe_callB (call_repr hgu hu64) (by rfl) nrepr (by decide +kernel) (pa_cons (pv 6) pa_nil)) (nomark _))))) (pss_one
 (ps_ret pe_bl)) pss_nil)
 (C8.pss_cut (ps_asg (pe_tup (pa_cons (pe_callC c_ase (hr.mono (by decide)) rfl pass0 (pa_cons (pv 1) pa_nil)) (pa_cons (pe_callC c_ske (hr.mono (by decide)) rfl pass0 (pa_cons (pv 1) (pa_cons pe_int (pa_cons pe_int pa_nil)))) pa_nil))) (pg_tup rfl (pgs_cons (pg_name (i := 7) scLaw.nd rfl (Or.inr rfl)) (pgs_cons (pg_name (i := 8) scLaw.nd rfl (Or.inr rfl)) pgs_nil))))
 (C8.pss_cut (ps_set (i := 9) scLaw.nd rfl (Or.inr rfl) (pe_lc (own := [("beat", 22)]) (g := (gName 22)) (tt := tYes) rfl scLaw.nd (pi_range1 rfl T.range (pa_cons pe_int pa_nil)) (blkOk_by (N := nLaw) (sc := defScope sLaw) (by decide +kernel)) (fun _ _ _ _ _ => (pg_name (i := 22) scLaw.nd rfl (Or.inl rfl))) (fun _ _ _ _ _ => pts_nil) (fun _ _ _ _ _ => (pe_ifExp (pt_cmpR op_eq (pv 22) pe_int (nomark _)) pe_int (pe_ifExp (pt_cmpR op_isN (pe_callC c_at (hr.mono (by decide)) rfl pass0 (pa_cons (pv 7) (pa_cons (pv 22) pa_nil))) pe_non (nomark _)) pe_non (pe_callB (call_max2 rfl) (by rfl) nmax (by decide +kernel) (pa_cons pe_int (pa_cons (pe_op op_add (pe_op op_sub (pe_callC c_at (hr.mono (by decide)) rfl pass0 (pa_cons (pv 7) (pa_cons (pv 22) pa_nil))) (pv 3)) pe_int) pa_nil))))))))
 (C8.pss_cut (ps_set (i := 10) scLaw.nd rfl (Or.inl rfl) (pe_callC c_psv (hr.mono (by decide)) rfl passF (pa_cons (pe_callC c_mad (hr.mono (by decide)) rfl pass0 (pa_cons (pv 7) pa_nil)) (pa_cons (pv 3) pa_nil))))
 (C8.pss_cut (ps_if (PW.pt (pw_or (pt_not (pt_val (pe_callCG c_vri hgu (hr.mono (by decide)) rfl pass0 (pa_cons (pv 10) (pa_cons (pv 9) pa_nil))))) (pw_or1 (pt_cmpR (op_ownNe GE U.ne U.iE bE (hr.mono (by decide)) pass0) (pe_callKC qc_psv (hr.mono (by decide)) rfl passF (pk_cons (pv 3) (pk_cons (pe_callC c_mad (hr.mono (by decide)) rfl pass0 (pa_cons (pv 7) pa_nil)) pk_nil))) (pv 10) (nomark _))))) (pss_one
 (ps_ret pe_bl)) pss_nil)
 (C8.pss_cut (ps_if (pt_not (pt_val (pe_callCG c_isf hgu (hr.mono (by decide)) rfl pass0 (pa_cons (pv 10) (pa_cons (pe_callC c_par (hr.mono (by decide)) rfl pass0 (pa_cons (pv 7) (pa_cons (pe_op op_sub (pv 3) pe_int) pa_nil))) pa_nil))))) (pss_one
 (ps_ret pe_bl)) pss_nil)
 (C8.pss_cut (ps_set (i := 11) scLaw.nd rfl (Or.inl rfl) (pe_callC c_gab (hr.mono (by decide)) rfl pass0 (pa_cons (pv 1) (pa_cons (pv 6) (pa_cons (pe_callC c_lgn (hr.mono (by decide)) rfl pass0 (pa_cons (pv 6) (pa_cons (pv 7) pa_nil))) pa_nil)))))
 (C8.pss_cut (ps_set (i := 12) scLaw.nd rfl (Or.inl rfl) (pe_tup (pa_cons (pv 6) (pa_cons (pe_callC c_whp (hr.mono (by decide)) rfl passF (pa_cons (pv 11) (pa_cons (pv 4) pa_nil))) pa_nil))))
 (C8.pss_cut (ps_if (PW.pt (pw_or (pt_cmpR op_notBl (pe_callC c_ksv (hr.mono (by decide)) rfl passF (pa_cons (pv 12) (pa_cons (pv 10) pa_nil))) pe_bl (nomark _)) (pw_or1 (pt_cmpR (op_neD hu64) (pe_callC c_rwt (hr.mono (by decide)) rfl passF (pa_cons (pv 12) pa_nil)) (pe_callC c_rwt (hr.mono (by decide)) rfl passF (pa_cons (pe_tup (pa_cons (pv 6) (pa_cons (pv 11) pa_nil))) pa_nil)) (nomark _))))) (pss_one
 (ps_ret pe_bl)) pss_nil)
 (C8.pss_cut (ps_set (i := 9) scLaw.nd rfl (Or.inr rfl) (pe_op op_cat (pe_lst (pa_cons pe_int pa_nil)) (pe_lc (own := [("beat", 22)]) (g := (gName 22)) (tt := tYes) rfl scLaw.nd (pi_range2 (by rfl) T.range (pa_cons pe_int (pa_cons pe_int pa_nil))) (blkOk_by (N := nLaw) (sc := defScope sLaw) (by decide +kernel)) (fun _ _ _ _ _ => (pg_name (i := 22) scLaw.nd rfl (Or.inl rfl))) (fun _ _ _ _ _ => pts_nil) (fun _ _ _ _ _ => (pe_callC c_pl2 (hr.mono (by decide)) rfl pass0 (pa_cons (pe_callC c_at (hr.mono (by decide)) rfl pass0 (pa_cons (pv 8) (pa_cons (pv 22) pa_nil))) (pa_cons (pe_op op_sub (pv 3) pe_int) pa_nil)))))))
 (C8.pss_cut (ps_set (i := 13) scLaw.nd rfl (Or.inl rfl) (pe_callC c_ppr (hr.mono (by decide)) rfl passF (pa_cons (pe_callC c_mad (hr.mono (by decide)) rfl pass0 (pa_cons (pv 8) pa_nil)) (pa_cons (pv 3) pa_nil))))
 (C8.pss_cut (ps_if (PW.pt (pw_or (pt_not (pt_val (pe_callCG c_vri hgu (hr.mono (by decide)) rfl pass0 (pa_cons (pv 13) (pa_cons (pv 9) pa_nil))))) (pw_or1 (pt_cmpR (op_ownNe GE U.ne U.iE bE (hr.mono (by decide)) pass0) (pe_callKC qc_ppr (hr.mono (by decide)) rfl passF (pk_cons (pv 3) (pk_cons (pe_callC c_mad (hr.mono (by decide)) rfl pass0 (pa_cons (pv 8) pa_nil)) pk_nil))) (pv 13) (nomark _))))) (pss_one
 (ps_ret pe_bl)) pss_nil)
 (C8.pss_cut (ps_if (pt_not (pt_val (pe_callCG c_isf hgu (hr.mono (by decide)) rfl pass0 (pa_cons (pv 13) (pa_cons (pe_callC c_mor (hr.mono (by decide)) rfl pass0 (pa_cons (pv 8) (pa_cons (pe_op op_sub (pv 3) pe_int) pa_nil))) pa_nil))))) (pss_one
 (ps_ret pe_bl)) pss_nil)
 (C8.pss_cut (ps_set (i := 14) scLaw.nd rfl (Or.inl rfl) (pe_callC c_sha (hr.mono (by decide)) rfl pass0 (pa_cons (pv 5) (pa_cons (pe_callC c_clo (hr.mono (by decide)) rfl pass0 (pa_cons (pv 8) (pa_cons pe_int pa_nil))) pa_nil))))
 (C8.pss_cut (ps_set (i := 15) scLaw.nd rfl (Or.inr rfl) (pe_callC c_whp (hr.mono (by decide)) rfl passF (pa_cons (pv 14) (pa_cons (pv 4) pa_nil))))
 (C8.pss_cut (ps_if (pt_cmpR (op_neD hu64) (pe_lc (own := [("t", 23)]) (g := (gName 23)) rfl scLaw.nd (pi_range1 rfl T.range (pa_cons pe_int pa_nil)) (blkOk_by (N := nLaw) (sc := defScope sLaw) (by decide +kernel)) (fun _ _ _ _ _ => (pg_name (i := 23) scLaw.nd rfl (Or.inr rfl))) (fun _ _ _ _ _ => pts_one (pt_cmpR (r := rNeD K) (op_neD hu64) (pe_lc (own := [("s", 24)]) (g := (gName 24)) rfl scLaw.nd (pi_range1 rfl T.range (pa_cons (pv 23) pa_nil)) ⟨rfl, by decide +kernel, fun q hq => (by
            cases List.mem_singleton.mp hq
            rfl), fun y hy e => (by
            simp only [List.mem_cons, List.not_mem_nil, or_false] at hy
            rcases hy with rfl | rfl | rfl | rfl | rfl | rfl <;> first | exact .inl rfl | exact .inr rfl | cases e), fun y hy e => (by
            simp only [List.mem_cons, List.not_mem_nil, or_false] at hy
            rcases hy with rfl | rfl | rfl | rfl | rfl | rfl <;> first | exact .inl (by decide +kernel) | exact .inr (show _ ∉ nLaw by decide +kernel) | (rcases e with e | e <;> cases e))⟩ (fun _ _ _ _ _ => (pg_name (i := 24) scLaw.nd rfl (Or.inl rfl))) (fun _ _ _ _ _ => pts_one (pt_not (pt_val (pe_callC c_le2 (hr.mono (by decide)) rfl pass0 (pa_cons (pe_op op_sub (pe_ix (r := rIxT K) ix_tup (pv 15) (pv 23) (fun _ _ => rfl)) (pe_ix (r := rIxT K) ix_tup (pv 15) (pv 24) (fun _ _ => rfl))) (pa_cons (pe_ix (r := rIxL K) ix_list (pv 9) (pe_op op_sub (pv 23) (pv 24)) (fun _ _ => rfl)) pa_nil)))))) (fun _ _ _ _ _ => pe_int)) (pe_lst pa_nil) (nomark _))) (fun _ _ _ _ _ => pe_int)) (pe_lst pa_nil) (nomark _)) (pss_one
 (ps_ret pe_bl)) pss_nil)
 (C8.pss_cut (ps_for PassesOwn.never rfl (pi_list (pe_lst (pa_cons pe_non (pa_cons pe_int (pa_cons (pe_lst (pa_cons pe_int pa_nil)) (pa_cons (pe_lst (pa_cons (pe_op op_add (pe_op op_pow pe_int pe_int) pe_int) pa_nil)) (pa_cons (pe_lst (pa_cons pe_bl pa_nil)) (pa_cons (pe_lst (pa_cons pe_int (pa_cons pe_non pa_nil))) (pa_cons pe_str (pa_cons pe_dnewK (pa_cons (pe_op op_rep (pe_lst (pa_cons pe_int pa_nil)) pe_int) pa_nil))))))))))) (pg_name (i := 16) scLaw.nd rfl (Or.inr rfl)) (C8.pss_cut (ps_set (i := 17) scLaw.nd rfl (Or.inl rfl) (LamX.pe_lamcall (T := [(tb, lamQ), (tb2, lamQ2)]) (TT := TTc K W) (Ng := nCaught) (k := 9) (by rfl) mC kC lkC hcdC bC scCaught rfl (Or.inl rfl)
                (caught_gives rfl mW rfl rfl rfl) TB rfl (List.mem_cons_self ..) (fun p hp q => by rcases List.mem_cons.mp hp with rfl | hp; (rfl); (cases List.mem_singleton.mp hp; exact absurd q.symm ntb)) hr (lamS_by (sc := defScope sLaw) (by decide +kernel)) (by rfl) (fun _ _ _ _ _ => by rfl)
                (fun A outer s H E f c' hr' => (pe_callC c_whp (hr'.mono (by decide)) rfl (passX (takes_of rfl rfl rfl rfl) fun _ _ _ _ h => h) (pa_cons (pv 5) (pa_cons (pv 16) pa_nil))))))
 (pss_one
 (ps_if (PW.pt (pw_or (pt_not (pt_val (pe_callB (r := rIsA K) call_isA (by rfl) T.isi (by decide +kernel) (pa_cons (pv 17) (pa_cons (pe_glob (v := .ref CN) rfl mCN rfl) pa_nil))))) (pw_or1 (pt_cmpR op_ne (pe_ctF (pv 17)) pe_str (nomark _))))) (pss_one
 (ps_ret pe_bl)) pss_nil))))
 (C8.pss_cut (ps_for PassesOwn.never rfl (pi_list (pe_lst (pa_cons pe_non (pa_cons pe_int (pa_cons (pe_un un_neg pe_int) (pa_cons (pe_op op_add (pe_op op_pow pe_int pe_int) pe_int) (pa_cons pe_bl (pa_cons pe_str pa_nil)))))))) (pg_name (i := 16) scLaw.nd rfl (Or.inr rfl)) (pss_one
 (ps_for PassesOwn.never rfl (pi_list (pe_lst (pa_cons (pe_glob (v := .ref fPsv) rfl mPsv rfl) (pa_cons (pe_glob (v := .ref fPpr) rfl mPpr rfl) pa_nil)))) (pg_name (i := 18) scLaw.nd rfl (Or.inr rfl)) (C8.pss_cut (ps_set (i := 17) scLaw.nd rfl (Or.inl rfl) (LamX.pe_lamcall (T := [(tb, lamQ), (tb2, lamQ2)]) (TT := TTc K W) (Ng := nCaught) (k := 9) (by rfl) mC kC lkC hcdC bC scCaught rfl (Or.inl rfl)
                (caught_gives rfl mW rfl rfl rfl) TB rfl (List.mem_cons_self ..) (fun p hp q => by rcases List.mem_cons.mp hp with rfl | hp; (rfl); (cases List.mem_singleton.mp hp; exact absurd q.symm ntb)) hr (lamS_by (sc := defScope sLaw) (by decide +kernel)) (by rfl) (fun _ _ _ _ _ => by rfl)
                (fun A outer s H E f c' hr' => (pe_either (pe_callL (i := 18) (f := fPsv) GPsv (hr'.mono (by decide)) rfl (Or.inr (Or.inr rfl)) kPsv bPsv .nil (passX (takes_of rfl rfl rfl rfl) fun _ _ _ _ h => h) (pa_cons (pe_callC c_mad (hr'.mono (by decide)) rfl pass0 (pa_cons (pv 7) pa_nil)) (pa_cons (pv 16) pa_nil))) (pe_callL (i := 18) (f := fPpr) GPpr (hr'.mono (by decide)) rfl (Or.inr (Or.inr rfl)) kPpr bPpr .nil (passX (takes_of rfl rfl rfl rfl) fun _ _ _ _ h => h) (pa_cons (pe_callC c_mad (hr'.mono (by decide)) rfl pass0 (pa_cons (pv 7) pa_nil)) (pa_cons (pv 16) pa_nil)))))))
 (pss_one
 (ps_if (PW.pt (pw_or (pt_not (pt_val (pe_callB (r := rIsA K) call_isA (by rfl) T.isi (by decide +kernel) (pa_cons (pv 17) (pa_cons (pe_glob (v := .ref CN) rfl mCN rfl) pa_nil))))) (pw_or1 (pt_cmpR op_ne (pe_ctF (pv 17)) pe_str (nomark _))))) (pss_one
 (ps_ret pe_bl)) pss_nil))))))
 (pss_one
 (ps_for PassesOwn.never rfl (pi_list (pe_lst (pa_cons pe_non (pa_cons pe_int (pa_cons (pv 7) pa_nil))))) (pg_name (i := 16) scLaw.nd rfl (Or.inr rfl)) (C8.pss_cut (ps_set (i := 19) scLaw.nd rfl (Or.inl rfl) (pe_lst (pa_cons (LamX.pe_lamcall (T := [(tb, lamQ), (tb2, lamQ2)]) (TT := TTc K W) (Ng := nCaught) (k := 9) (by rfl) mC kC lkC hcdC bC scCaught rfl (Or.inl rfl)
                (caught_gives rfl mW rfl rfl rfl) TB rfl (List.mem_cons_self ..) (fun p hp q => by rcases List.mem_cons.mp hp with rfl | hp; (rfl); (cases List.mem_singleton.mp hp; exact absurd q.symm ntb)) hr (lamS_by (sc := defScope sLaw) (by decide +kernel)) (by rfl) (fun _ _ _ _ _ => by rfl)
                (fun A outer s H E f c' hr' => (pe_callC c_psv (hr'.mono (by decide)) rfl (passX (takes_of rfl rfl rfl rfl) fun _ _ _ _ h => h) (pa_cons (pv 16) (pa_cons pe_non pa_nil))))) pa_nil)))
 (C8.pss_cut (ps_expr (pe_bm PySem.F.plainAttrs_list PySem.F.slot_list_append PySem.F.type_list_append mt_append (pv 19) (pa_cons (LamX.pe_lamcall (T := [(tb, lamQ), (tb2, lamQ2)]) (TT := TTc K W) (Ng := nCaught) (k := 9) (by rfl) mC kC lkC hcdC bC scCaught rfl (Or.inl rfl)
                (caught_gives rfl mW rfl rfl rfl) TB rfl (List.mem_cons_self ..) (fun p hp q => by rcases List.mem_cons.mp hp with rfl | hp; (rfl); (cases List.mem_singleton.mp hp; exact absurd q.symm ntb)) hr (lamS_by (sc := defScope sLaw) (by decide +kernel)) (by rfl) (fun _ _ _ _ _ => by rfl)
                (fun A outer s H E f c' hr' => (pe_callC c_ppr (hr'.mono (by decide)) rfl (passX (takes_of rfl rfl rfl rfl) fun _ _ _ _ h => h) (pa_cons (pv 16) (pa_cons pe_non pa_nil))))) pa_nil)))
 (C8.pss_cut (ps_if (pt_cmpR (op_neD hu64) (pe_lc (own := [("caught", 17)]) (g := (gName 17)) rfl scLaw.nd (pi_list (pv 19)) (blkOk_by (N := nLaw) (sc := defScope sLaw) (by decide +kernel)) (fun _ _ _ _ _ => (pg_name (i := 17) scLaw.nd rfl (Or.inl rfl))) (fun _ _ _ _ _ => pts_one (PW.pt (pw_or (pt_not (pt_val (pe_callB (r := rIsA K) call_isA (by rfl) T.isi (by decide +kernel) (pa_cons (pv 17) (pa_cons (pe_glob (v := .ref CB) rfl mCB rfl) pa_nil))))) (pw_or1 (pt_cmpR op_notN (show PE _ _ (tCtF K "part" (tVar 17)) from pe_ctF (pv 17)) pe_non (nomark _)))))) (fun _ _ _ _ _ => pe_int)) (pe_lst pa_nil) (nomark _)) (pss_one
 (ps_ret pe_bl)) pss_nil)
 (pss_one
 (ps_if (pt_not (pt_val (pe_callB (r := rIsA K) call_isA (by rfl) T.isi (by decide +kernel) (pa_cons (LamX.pe_lamcall (T := [(tb, lamQ), (tb2, lamQ2)]) (TT := TTc K W) (Ng := nCaught) (k := 9) (by rfl) mC kC lkC hcdC bC scCaught rfl (Or.inl rfl)
                (caught_gives rfl mW rfl rfl rfl) TB rfl (List.mem_cons_self ..) (fun p hp q => by rcases List.mem_cons.mp hp with rfl | hp; (rfl); (cases List.mem_singleton.mp hp; exact absurd q.symm ntb)) hr (lamS_by (sc := defScope sLaw) (by decide +kernel)) (by rfl) (fun _ _ _ _ _ => by rfl)
                (fun A outer s H E f c' hr' => (pe_callC c_whp (hr'.mono (by decide)) rfl (passX (takes_of rfl rfl rfl rfl) fun _ _ _ _ h => h) (pa_cons (pv 16) (pa_cons pe_non pa_nil))))) (pa_cons (pe_glob (v := .ref CR) rfl mCR rfl) pa_nil))))) (pss_one
 (ps_ret pe_bl)) pss_nil))))))))))))))))))))))))))))))
 (C8.pss_cut (ps_set (i := 20) scLaw.nd rfl (Or.inr rfl) (pe_make U.mkC GI (hr.mono (by decide)) rfl U.mC bI .nil passF (pa_cons (pe_lst (pa_cons pe_int (pa_cons pe_int pa_nil))) (pa_cons pe_int (pa_cons pe_int pa_nil)))))
 (C8.pss_cut (ps_set (i := 17) scLaw.nd rfl (Or.inl rfl) (LamX.pe_lamcall (T := [(tb, lamQ), (tb2, lamQ2)]) (TT := TTc K W) (Ng := nCaught) (k := 9) (by rfl) mC kC lkC hcdC bC scCaught rfl (Or.inl rfl)
                (caught_gives rfl mW rfl rfl rfl) TB rfl (List.mem_cons_self ..) (fun p hp q => by rcases List.mem_cons.mp hp with rfl | hp; (rfl); (cases List.mem_singleton.mp hp; exact absurd q.symm ntb)) hr (lamS_by (sc := defScope sLaw) (by decide +kernel)) (by rfl) (fun _ _ _ _ _ => by rfl)
                (fun A outer s H E f c' hr' => (pe_callC c_psv (hr'.mono (by decide)) rfl (passX (takes_of rfl rfl rfl rfl) fun _ _ _ _ h => h) (pa_cons (pv 20) (pa_cons pe_int pa_nil))))))
 (pss_one
 (ps_ret (pe_and (pe_callB (r := rIsA K) call_isA (by rfl) T.isi (by decide +kernel) (pa_cons (pv 17) (pa_cons (pe_glob (v := .ref CT) rfl mCT rfl) pa_nil))) (pe_and (pe_cmpR op_eq (pe_ctF (pv 17)) pe_int (nomark _)) (pe_one (pe_callCG c_lim hgu (hr.mono (by decide)) rfl pass0 (pa_cons (pv 1) pa_nil))))))))))), ?_⟩
    refine ⟨fun σ H' => ∃ d l e0, σ = [some (.ref a), some (.ref d), none, none, none, none, none, none, none, none, none, none, none, none, none, none, none, none, none, none, none, none, none, none, none] ∧ DT [(tb, lamQ), (tb2, lamQ2)] H' d l e0, ?_, ?_⟩
    · refine ⟨_, rfl, a, ns, rfl, hS, hn, fun d l e0 H0 _ _ _ D0 s0 => ?_⟩
      refine ⟨d, l, e0, rfl, ⟨D0, fun p hp => ?_⟩⟩
      have hh := h0 hT
      simp only [List.mem_cons, List.not_mem_nil, or_false] at hp
      rcases hp with rfl | rfl
      · exact LamX.TabS.nil (s0 _ _ hh.1)
      · exact LamX.TabS.nil (s0 _ _ hh.2)
    clear hS hT
    rintro σ H0 ⟨d, l, e0, rfl, D0⟩
    refine ⟨fun σ H' => (∃ w2 w3 w4 w5 w6 w7 w8 w9 w10 w11 w12 w13 w14 w15 w16 w17 w18 w19 w20, σ = [some (.ref a), some (.ref d), w2, w3, w4, w5, w6, w7, w8, w9, w10, w11, w12, w13, w14, w15, w16, w17, w18, w19, w20, none, none, none, none]) ∧ DT [(tb, lamQ), (tb2, lamQ2)] H' d l e0, ?_, ?_⟩
    · refine ⟨3, rfl, by decide, by decide, for_range (lo := 0) (n := 3) (fun i σ H1 => (∃ w2 w3 w4 w5 w6 w7 w8 w9 w10 w11 w12 w13 w14 w15 w16 w17 w18 w19 w20, σ = [some (.ref a), some (.ref d), w2, w3, w4, w5, w6, w7, w8, w9, w10, w11, w12, w13, w14, w15, w16, w17, w18, w19, w20, none, none, none, none]) ∧ DT [(tb, lamQ), (tb2, lamQ2)] H1 d l e0) ⟨⟨_, _, _, _, _, _, _, _, _, _, _, _, _, _, _, _, _, _, _, rfl⟩, D0⟩ ?_ (fun σ H' q => q)⟩
      clear D0
      rintro i σ H1 hi ⟨⟨w2, w3, w4, w5, w6, w7, w8, w9, w10, w11, w12, w13, w14, w15, w16, w17, w18, w19, w20, rfl⟩, D1⟩
      generalize V.int (0 + (i : Int)) = tn
      -- most_here
      refine ⟨fun σ H' => ∃ m : Nat, σ = [some (.ref a), some (.ref d), some (tn), some (.int (m : Nat)), w4, w5, w6, w7, w8, w9, w10, w11, w12, w13, w14, w15, w16, w17, w18, w19, w20, none, none, none, none] ∧ 1 ≤ m ∧ m ≤ 90 ∧ DT [(tb, lamQ), (tb2, lamQ2)] H' d l e0, ?_, ?_⟩
      · refine ⟨_, rfl, _, rfl, d, l, e0, 90, rfl, D1.D, by decide, by decide, fun r H2 r0 r1 D2 k2 => ⟨_, _, rfl, rfl, (by show 5 ≤ sizeLine; decide), fun p hp => ?_⟩⟩
        generalize g3 : upd H2 p _ = H3
        obtain ⟨s3, f3⟩ := alloc g3 hp
        refine ⟨d, l, e0, p, _, rfl, D2.same s3, f3, D2.nl hp, (by show 0 < 5; decide), (by show 5 ≤ 2 ^ 100; decide), fun j x H4 hx D4 k4 => ?_⟩
        obtain ⟨m, rfl, m1, m2⟩ : ∃ m : Nat, x = .int (m : Nat) ∧ 1 ≤ m ∧ m ≤ 90 := by
          have hm := List.mem_of_getElem? hx
          simp only [List.mem_cons, List.not_mem_nil, or_false] at hm
          rcases hm with rfl | rfl | rfl | rfl | rfl
          · exact ⟨1, rfl, by decide, by decide⟩
          · exact ⟨2, rfl, by decide, by decide⟩
          · exact ⟨3, rfl, by decide, by decide⟩
          · exact ⟨7, rfl, by decide, by decide⟩
          · refine ⟨(1 + r).toNat, ?_, by omega, by omega⟩
            rw [show (((1 + r).toNat : Nat) : Int) = 1 + r by omega]
        exact ⟨m, rfl, m1, m2, (((D1.keep D2 k2).same s3).keep D4 k4)⟩
      clear D1
      rintro σ H1 ⟨m, rfl, m1, m2, D1⟩
      -- sizes_here
      refine ⟨fun σ H' => ∃ (z : Addr) (zs : List Int), σ = [some (.ref a), some (.ref d), some (tn), some (.int (m : Nat)), some (.ref z), w5, w6, w7, w8, w9, w10, w11, w12, w13, w14, w15, w16, w17, w18, w19, w20, none, none, none, none] ∧ H' z = some (.lst (zs.map V.int)) ∧ z ≠ l ∧ PosL zs ∧ UpTo zs (m : Int) ∧ zs.length ≤ 30 ∧ DT [(tb, lamQ), (tb2, lamQ2)] H' d l e0, ?_, ?_⟩
      · refine ⟨_, rfl, d, l, e0, 30, rfl, D1.D, by decide, by decide, fun r H2 r0 r1 D2 k2 => ⟨r, rfl, by omega, by omega, fun E0 hE => lcDrawA (A := 1) (B := (m : Int)) (walk_range (lo := 0) (n := r.toNat)) hE D2 (by omega) (fun _ _ => trivial) ?_ ?_⟩⟩
        · rintro i x H4 H5 hi D4 k4 ⟨rfl, rfl⟩ R N kk
          exact ⟨rfl, _, rfl, _, rfl, d, l, e0, _, rfl, D4, by omega, by omega, fun r' H6 r0' r1' D6 k6 => ⟨_, _, rfl, rfl, kk (1 + r') H6 (by omega) (by omega) D6 k6⟩⟩
        · rintro zs H6 ln hb hh D6 k6
          exact ⟨E0, zs, rfl, hh, D2.nl hE, fun z hz => ⟨(hb z hz).1, by have := (hb z hz).2; omega⟩, fun z hz => (hb z hz).2, by omega, (D1.keep D2 k2).keep D6 k6⟩
      clear D1
      rintro σ H1 ⟨z, zs, rfl, hz, zl, pl, ut, lz, D1⟩
      -- row_here
      refine ⟨fun σ H' => ∃ (r : Addr) (ns : List Int), σ = [some (.ref a), some (.ref d), some (tn), some (.int (m : Nat)), some (.ref z), some (.ref r), w6, w7, w8, w9, w10, w11, w12, w13, w14, w15, w16, w17, w18, w19, w20, none, none, none, none] ∧ H' z = some (.lst (zs.map V.int)) ∧ SqT K H' r (ns.map V.int) ∧ ns.length = 22 ∧ Asc0 ns ∧ Within ns 110 ∧ DT [(tb, lamQ), (tb2, lamQ2)] H' d l e0, ?_, ?_⟩
      · exact ⟨_, rfl, d, l, e0, 22, 5, rfl, by decide, by decide, D1.D, by decide, by decide, fun r ns H3 hr h3 ln ac wi D3 k3 => ⟨r, ns, rfl, lst_keep hz D1.D zl k3, SqT.of h3, ln, ac, wi, D1.keep D3 k3⟩⟩
      clear D1 hz
      rintro σ H1 ⟨r, ns, rfl, hz, hr, ln, ac, wi, D1⟩
      have pos : ∀ n ∈ ns, 0 ≤ n := fun n hn => by
        obtain ⟨i, hi, rfl⟩ := mem_get hn
        exact ac.asc.2.2 i _ (gdI hi)
      -- came_here
      refine ⟨fun σ H' => ∃ (b : Addr) (cs : List Int), σ = [some (.ref a), some (.ref d), some (tn), some (.int (m : Nat)), some (.ref z), some (.ref r), some (.ref b), w7, w8, w9, w10, w11, w12, w13, w14, w15, w16, w17, w18, w19, w20, none, none, none, none] ∧ H' z = some (.lst (zs.map V.int)) ∧ SqT K H' r (ns.map V.int) ∧ SqT K H' b (cs.map V.int) ∧ WhL zs ns cs ∧ DT [(tb, lamQ), (tb2, lamQ2)] H' d l e0, ?_, ?_⟩
      · exact ⟨_, rfl, _, rfl, r, z, ns, zs, rfl, hr, hz, pos, by omega, by omega, fun ws b H4 hb h4 wl s4 => ⟨b, ws, rfl, s4 _ _ hz, SqT.ext hr s4, SqT.of h4, wl, D1.same s4⟩⟩
      clear D1 hz hr
      rintro σ H1 ⟨b, cs, rfl, hz, hr, hb, wl, D1⟩
      have cb : ∀ x ∈ cs, 0 ≤ x ∧ x ≤ 10000 := fun x hx => by
        obtain ⟨i, hi, rfl⟩ := mem_get hx
        have h0 := (wh_asc pl wl ac).asc.2.2 i _ (gdI hi)
        have hn : i < ns.length := by have := wl.1; omega
        have := wl.le hn
        have := wi i _ (gdI hn)
        omega
      have lcs : cs.length = 22 := by have := wl.1; omega
      have gd := good_ints (by omega) cb
      -- whole parcels told
      refine ⟨fun σ H' => σ = [some (.ref a), some (.ref d), some (tn), some (.int (m : Nat)), some (.ref z), some (.ref r), some (.ref b), w7, w8, w9, w10, w11, w12, w13, w14, w15, w16, w17, w18, w19, w20, none, none, none, none] ∧ H' z = some (.lst (zs.map V.int)) ∧ SqT K H' r (ns.map V.int) ∧ SqT K H' b (cs.map V.int) ∧ DT [(tb, lamQ), (tb2, lamQ2)] H' d l e0, ?_, ?_⟩
      · refine ⟨_, rfl, _, rfl, .ref r, .ref z, rfl, .inr ⟨r, ns, rfl, .inr hr, ac, by omega, .inr ⟨z, zs, rfl, .inl (SqL.of hz), by omega, pl, fun ws p H5 hp wl' h5 s5 => ?_⟩⟩⟩
        obtain rfl := wl'.uniq wl
        refine ⟨p, _, rfl, rdb_dp (.tup (SqT.of h5) (dpAll_row _ flat_is)) gd.hd, gd.sh, gd.dp, gd.le, ?_⟩
        refine ⟨_, rfl, b, _, rfl, rdb_dp (.tup (SqT.ext hb s5) (dpAll_row _ flat_is)) gd.hd, gd.sh, gd.dp, gd.le, rfl, _, rfl, ?_⟩
        rw [decide_eq_true rfl]
        refine iteF ⟨_, rfl, z, _, rfl, .inl ⟨SqL.of (s5 _ _ hz), fun q hq => ?_⟩⟩
        generalize g6 : upd H5 q _ = H6
        obtain ⟨s6, f6⟩ := alloc g6 hq
        refine ⟨_, rfl, r, _, rfl, .inr (SqT.ext hr (Same.trans s5 s6)), fun q2 hq2 => ?_⟩
        generalize g7 : upd H6 q2 _ = H7
        obtain ⟨s7, f7⟩ := alloc g7 hq2
        have s57 := Same.trans s5 (Same.trans s6 s7)
        refine ⟨.ref q2, .ref q, rfl, .inr ⟨q2, ns, rfl, .inl (SqL.of f7), ac, by omega, .inr ⟨q, zs, rfl, .inr (SqT.of (s7 _ _ f6)), by omega, pl, fun ws2 p2 H8 hp2 wl2 h8 s8 => ?_⟩⟩⟩
        obtain rfl := wl2.uniq wl
        have s58 := Same.trans s57 s8
        refine ⟨p2, _, rfl, rdb_dp (.tup (SqT.of h8) (dpAll_row _ flat_is)) gd.hd, gd.sh, gd.dp, gd.le, ?_⟩
        refine ⟨_, rfl, b, _, rfl, rdb_dp (.tup (SqT.ext hb s58) (dpAll_row _ flat_is)) gd.hd, gd.sh, gd.dp, gd.le, rfl, _, rfl, ?_⟩
        rw [decide_eq_true rfl]
        exact iteF ⟨rfl, s58 _ _ hz, SqT.ext hr s58, SqT.ext hb s58, D1.same s58⟩
      clear D1 hz hr hb
      rintro σ H1 ⟨rfl, hz, hr, hb, D1⟩
      -- the sketches
      refine ⟨fun σ H' => ∃ (z r b e ba e' ba' : Addr) (m : Nat) (zs ns cs : List Int) (xs xs' : List V) (p p' : Nat) (g g' : Int) (F F' : Nat → V), σ = [some (.ref a), some (.ref d), some (tn), some (.int (m : Nat)), some (.ref z), some (.ref r), some (.ref b), some (.ref e), some (.ref e'), w9, w10, w11, w12, w13, w14, w15, w16, w17, w18, w19, w20, none, none, none, none] ∧ Lp K tb tb2 ⟨d, l, e0, z, r, b, e, ba, e', ba', m, zs, ns, cs, xs, xs', p, p', g, g'⟩ H' ∧ Lq ⟨d, l, e0, z, r, b, e, ba, e', ba', m, zs, ns, cs, xs, xs', p, p', g, g'⟩ F F', ?_, ?_⟩
      · refine ⟨_, rfl, d, l, e0, rfl, D1.D, fun e ba xs p g H2 sk S Z D2 k2 => ⟨_, rfl, d, l, e0, 6, 4, rfl, D2, by decide, by decide, by decide, by decide, fun e' ba' xs' p' g' H3 _ _ sk' S' Z' D3 k3 => ⟨(by show 2 ≤ sizeLine; decide), fun u hu => ?_⟩⟩⟩
        have D2' := D1.keep D2 k2
        have su := same_new (o := HO.tup [V.ref e, V.ref e']) hu
        obtain ⟨F, sf⟩ := Sk.full S (by decide) (by decide) (by decide)
        have S'' : Sk 6 6 28 xs' p' g' := S'
        obtain ⟨F', sf'⟩ := Sk.full S'' (by decide) (by decide) (by decide)
        refine ⟨u, [_, _], rfl, SqT.of upd_same, rfl, _, _, rfl, _, _, rfl, rfl, z, r, b, e, ba, e', ba', m, zs, ns, cs, xs, xs', p, p', g, g', F, F', rfl, ?_, ⟨m1, m2, pl, ut, lz, ac, ln, wi, wl, sf, Z, Sk.make S (by decide) (by decide) (by decide), sf', Z', Sk.make S'' (by decide) (by decide) (by decide)⟩⟩
        exact ⟨(D2'.keep D3 k3).same su, su _ _ (lst_keep (lst_keep hz D1.D zl k2) D2 zl k3), zl, SqT.ext (sqT_keep (sqT_keep hr D1.D k2) D2 k3) su, SqT.ext (sqT_keep (sqT_keep hb D1.D k2) D2 k3) su, (sk.keep k3).keep (Same.keepD d l su), sk'.keep (Same.keepD d l su)⟩
      clear D1 hz hr hb gd cb lcs wl pos ln ac wi pl ut lz zl m1 m2
      rintro σ H1 ⟨z, r, b, e, ba, e', ba', m, zs, ns, cs, xs, xs', p, p', g, g', F, F', rfl, L1, q⟩
      have m1 : 1 ≤ m := q.m1
      have m2 : m ≤ 90 := q.m2
      have pl : PosL zs := q.pl
      have ut : UpTo zs (m : Int) := q.ut
      have lz : zs.length ≤ 30 := q.lz
      have ac : Asc0 ns := q.ac
      have ln : ns.length = 22 := q.ln
      have wl : WhL zs ns cs := q.wh
      have lcs : cs.length = 22 := by have := wl.1; omega
      have acc : Asc0 cs := wh_asc pl wl ac
      have cb : ∀ x ∈ cs, 0 ≤ x ∧ x ≤ 110 := q.cb
      have sf : SkFull xs p g 300 F := q.sf
      have p6 := sf.p1
      have x7 := sf.x1
      have mm : ((m - 1 : Nat) : Int) + 1 = (m : Int) := by omega
      -- due
      refine ⟨fun σ H' => ∃ u, σ = [some (.ref a), some (.ref d), some (tn), some (.int (m : Nat)), some (.ref z), some (.ref r), some (.ref b), some (.ref e), some (.ref e'), some (.ref u), w10, w11, w12, w13, w14, w15, w16, w17, w18, w19, w20, none, none, none, none] ∧ H' u = some (.lst ((List.range 90).map (lesP (m : Int) F))) ∧ Lp K tb tb2 ⟨d, l, e0, z, r, b, e, ba, e', ba', m, zs, ns, cs, xs, xs', p, p', g, g'⟩ H', ?_, ?_⟩
      · refine ⟨90, rfl, by decide, by decide, fun D hD => LM.lcM (walk_range (lo := 0) (n := 90)) (lesP (m : Int) F) hD (by decide) (fun _ _ => trivial) ?_ fun H4 h4 s4 => ⟨D, rfl, h4, L1.same s4⟩⟩
        rintro j v H4 H5 hj s4 ⟨rfl, rfl⟩ R' N kk
        have ej : (0 : Int) + (j : Int) = (j : Int) := by omega
        have kk := kk _ (Same.refl _)
        have L5 := L1.same s4
        unfold lesP at kk
        refine ⟨rfl, _, rfl, rfl, ?_⟩
        by_cases c0 : j = 0
        · subst c0
          exact ⟨true, bT rfl, iteT kk⟩
        · rw [if_neg c0] at kk
          refine ⟨false, bF (fun z => c0 (by have := V.int.inj z; omega)), iteF ⟨_, rfl, _, rfl, e, ba, xs, p, j, g, F, by show [V.ref e, V.int ((0 : Int) + (j : Int))] = _; rw [ej], L5.sk.ob, L5.sk.li, sf.R, by omega, ?_⟩⟩
          rcases sf.R.flat j with z0 | ⟨i, z0⟩
          · rw [z0] at kk ⊢
            exact ⟨rfl, true, rfl, iteT kk⟩
          · rw [z0] at kk ⊢
            refine ⟨rfl, false, rfl, iteF ⟨_, rfl, _, rfl, e, ba, xs, p, j, g, F, by show [V.ref e, V.int ((0 : Int) + (j : Int))] = _; rw [ej], L5.sk.ob, L5.sk.li, sf.R, by omega, ?_⟩⟩
            rw [z0]
            refine ⟨_, rfl, _, _, rfl, rfl, _, _, rfl, rfl, _, _, rfl, ?_⟩
            have kk : R' (V.int (max 0 (i - (m : Int) + 1))) H5 := kk
            rw [show max 0 (i - (m : Int) + 1) = (if i - (m : Int) + 1 > 0 then i - (m : Int) + 1 else 0) by split <;> omega] at kk
            exact kk
      clear L1
      rintro σ H1 ⟨u, rfl, hu1, L1⟩
      -- service
      obtain ⟨sz, pok⟩ := par_ex sf q.Z (m := m - 1) (by omega)
      rw [mm] at pok
      obtain ⟨v0, q0, r0, fv0⟩ := form_ex pok.fi
      obtain ⟨q0', rfl, fg0⟩ := form_g fv0 pok.row
      have lv0 : v0.length ≤ 1000 := by
        have := formV_len fv0
        rw [List.length_map, List.length_range] at this
        have := pok.z1
        omega
      have nofar : ¬ ∀ v q r, FormG (lesP (m : Int) F) v q r → 4000 < v.length := fun fa => by
        have := fa _ _ _ fg0
        omega
      refine ⟨fun σ H' => ∃ x, σ = [some (.ref a), some (.ref d), some (tn), some (.int (m : Nat)), some (.ref z), some (.ref r), some (.ref b), some (.ref e), some (.ref e'), some (.ref u), some (.ref x), w11, w12, w13, w14, w15, w16, w17, w18, w19, w20, none, none, none, none] ∧ CurveAt H' C x v0 q0' r0 ∧ H' u = some (.lst ((List.range 90).map (lesP (m : Int) F))) ∧ Lp K tb tb2 ⟨d, l, e0, z, r, b, e, ba, e', ba', m, zs, ns, cs, xs, xs', p, p', g, g'⟩ H', ?_, ?_⟩
      · refine ⟨_, rfl, e, ba, xs, p, g, rfl, L1.sk.ob, L1.sk.li, q.ma, fun x vals qq rr H2 fv cu s2 => ?_⟩
        obtain ⟨qn, kc⟩ := kc_made q.ma fv sf.R cu
        refine ⟨_, rfl, .ref x, .int m, rfl, .inr ⟨x, F, qn, rfl, kc, .inr ⟨m, rfl, by omega, by omega, fun v q2 r2 y H' fg l4 hy cy s' => ?_, fun fa => absurd fa nofar⟩⟩⟩
        obtain ⟨rfl, rfl, rfl⟩ := fg.uniq fg0
        have sA := Same.trans s2 s'
        exact ⟨y, rfl, cy, sA _ _ hu1, L1.same sA⟩
      clear L1 hu1
      rintro σ H1 ⟨x, rfl, cx, hu1, L1⟩
      have upL : UpV (lesP (m : Int) F) := up_les sf.up
      have smL : ∀ j, j ≤ 5000 → SmallV (lesP (m : Int) F j) := fun j hj => (small_les sf (by decide) (by decide) (by omega) hj).1
      have CML : Calm v0 q0' r0 := calm_up fg0 upL fun j k hj e => (small_les sf (by decide) (by decide) (by omega) (show j ≤ 5000 by omega)).2 k e
      -- its values
      refine ⟨fun σ H' => σ = [some (.ref a), some (.ref d), some (tn), some (.int (m : Nat)), some (.ref z), some (.ref r), some (.ref b), some (.ref e), some (.ref e'), some (.ref u), some (.ref x), w11, w12, w13, w14, w15, w16, w17, w18, w19, w20, none, none, none, none] ∧ CurveAt H' C x v0 q0' r0 ∧ Lp K tb tb2 ⟨d, l, e0, z, r, b, e, ba, e', ba', m, zs, ns, cs, xs, xs', p, p', g, g'⟩ H', ?_, ?_⟩
      · refine ⟨_, rfl, _, rfl, x, u, 90, lesP (m : Int) F, rfl, KcP.svc cx fg0 CML (by omega), hu1, by decide, fun j hj => smL j (by omega), fun H2 s2 => ⟨true, rfl, iteF ?_⟩⟩
        have L2' := L1.same s2
        refine ⟨_, rfl, _, rfl, e, ba, xs, p, g, rfl, L2'.sk.ob, L2'.sk.li, q.ma, fun x2 vals qq rr H3 fv cu s3 => ?_⟩
        obtain ⟨qn, kc⟩ := kc_made q.ma fv sf.R cu
        refine ⟨.ref x2, .int m, rfl, .inr ⟨x2, F, qn, rfl, kc, .inr ⟨m, rfl, by omega, by omega, fun v q2 r2 y H' fg l4 hy cy s' => ?_, fun fa => absurd fa nofar⟩⟩⟩
        obtain ⟨rfl, rfl, rfl⟩ := fg.uniq fg0
        have sA := Same.trans s2 (Same.trans s3 s')
        exact ⟨_, rfl, ne_cur (L := lesP (m : Int) F) ⟨_, _, _, cy, fg0⟩ ⟨_, _, _, cx.same sA, fg0⟩ fun H4 s4 => ⟨_, rfl, iteF ⟨rfl, cx.same (Same.trans sA s4), L1.same (Same.trans sA s4)⟩⟩⟩
      clear L1 hu1 cx
      rintro σ H1 ⟨rfl, cx, L1⟩
      -- its form
      refine ⟨fun σ H' => σ = [some (.ref a), some (.ref d), some (tn), some (.int (m : Nat)), some (.ref z), some (.ref r), some (.ref b), some (.ref e), some (.ref e'), some (.ref u), some (.ref x), w11, w12, w13, w14, w15, w16, w17, w18, w19, w20, none, none, none, none] ∧ CurveAt H' C x v0 q0' r0 ∧ Lp K tb tb2 ⟨d, l, e0, z, r, b, e, ba, e', ba', m, zs, ns, cs, xs, xs', p, p', g, g'⟩ H', ?_, ?_⟩
      · have pm : p * (m - 1) ≤ 6 * 89 := Nat.mul_le_mul p6 (by omega)
        refine ⟨_, rfl, _, rfl, _, rfl, _, _, rfl, rfl, e, ba, xs, p, m - 1, g, F, ?_, L1.sk.ob, L1.sk.li, sf.R, sf.up, q.Z, sf.p0, by omega, sf.x0, by omega, sf.g0, by have := sf.g1; omega, by omega, fun e1 a1 xs1 H2 h1 h2 R1 fi x0 x1 s2 => ?_⟩
        · show [V.ref e, V.int ((m : Int) - 1)] = _
          rw [show (m : Int) - 1 = ((m - 1 : Nat) : Int) by omega]
        rw [mm] at R1
        exact ⟨x, e1, a1, xs1, p, g, lesP (m : Int) F, rfl, ⟨_, _, _, cx.same s2, fg0⟩, h1, h2, fi, R1, sf.p0, by omega, x0, by omega, ⟨sf.g0, by have := sf.g1; omega⟩, fun j hj => smL j (by omega), fun H3 s3 => ⟨true, rfl, iteF ⟨rfl, cx.same (Same.trans s2 s3), L1.same (Same.trans s2 s3)⟩⟩⟩
      clear L1 cx
      rintro σ H1 ⟨rfl, cx, L1⟩
      -- gone_here
      refine ⟨fun σ H' => ∃ (gq : Addr) (gs ms : List Int), σ = [some (.ref a), some (.ref d), some (tn), some (.int (m : Nat)), some (.ref z), some (.ref r), some (.ref b), some (.ref e), some (.ref e'), some (.ref u), some (.ref x), some (.ref gq), w12, w13, w14, w15, w16, w17, w18, w19, w20, none, none, none, none] ∧ SqT K H' gq (gs.map V.int) ∧ RunPair cs gs ∧ LgL cs (SG F) ms ∧ (∀ (i : Nat) (g m : Int), gs[i]? = some g → ms[i]? = some m → m ≤ g) ∧ CurveAt H' C x v0 q0' r0 ∧ Lp K tb tb2 ⟨d, l, e0, z, r, b, e, ba, e', ba', m, zs, ns, cs, xs, xs', p, p', g, g'⟩ H', ?_, ?_⟩
      · refine ⟨_, rfl, _, rfl, _, rfl, _, rfl, b, e, ba, xs, p, g, F, cs, rfl, L1.hb, L1.sk.ob, L1.sk.li, sf.R, by omega, by omega, fun z2 ms H2 hz2 h2 lg s2 => ?_⟩
        have L2' := L1.same s2
        refine ⟨d, l, e0, b, z2, cs, ms, rfl, L2'.D.D, L2'.hb, SqT.of h2, lg.1, by omega, acc, fun i y hy => by have := cb y (List.mem_of_getElem? hy); omega, fun i c m' hc hm => ?_, fun gq gs H3 hq h3 rp ge D3 k3 => ⟨gq, gs, ms, rfl, SqT.of h3, rp, lg, ge, (cx.same s2).keepD L2'.D.D k3, L2'.keep D3 k3⟩⟩
        have := (lg.2 i m' hm).2 (cs.getD i 0 + 0) ⟨i, 0, Nat.le_refl _, by rw [Nat.sub_self]; rfl, rfl⟩
        rw [getD_of hc] at this
        omega
      clear L1 cx
      rintro σ H1 ⟨gq, gs, ms, rfl, hg, rp, lg, ge, cx, L1⟩
      have lgs : gs.length = 22 := by have := rp.2.2.1; omega
      -- parcelled_here
      refine ⟨fun σ H' => ∃ (t hq : Addr) (hs : List Int), σ = [some (.ref a), some (.ref d), some (tn), some (.int (m : Nat)), some (.ref z), some (.ref r), some (.ref b), some (.ref e), some (.ref e'), some (.ref u), some (.ref x), some (.ref gq), some (.ref t), w13, w14, w15, w16, w17, w18, w19, w20, none, none, none, none] ∧ SqT K H' t [.ref b, .ref hq] ∧ SqT K H' hq (hs.map V.int) ∧ WhL zs gs hs ∧ SqT K H' gq (gs.map V.int) ∧ CurveAt H' C x v0 q0' r0 ∧ Lp K tb tb2 ⟨d, l, e0, z, r, b, e, ba, e', ba', m, zs, ns, cs, xs, xs', p, p', g, g'⟩ H', ?_, ?_⟩
      · refine ⟨_, rfl, _, rfl, _, rfl, .ref gq, .ref z, rfl, .inr ⟨gq, gs, rfl, .inr hg, rp.2.1, by omega, .inr ⟨z, zs, rfl, .inl (SqL.of L1.hz), by omega, pl, fun hs hq H2 hhq wg h2 s2 => ⟨(by show 2 ≤ sizeLine; decide), fun t ht => ?_⟩⟩⟩⟩
        have su := same_new (o := HO.tup [V.ref b, V.ref hq]) ht
        have sA := Same.trans s2 su
        exact ⟨t, hq, hs, rfl, SqT.of upd_same, SqT.of (su _ _ h2), wg, SqT.ext hg sA, cx.same sA, L1.same sA⟩
      clear L1 cx hg
      rintro σ H1 ⟨t, hq, hs, rfl, ht, hh, wg, hg, cx, L1⟩
      have lhs : hs.length = 22 := by have := wg.1; omega
      have rph : RunPair cs hs := run_wh pl rp wg
      have lc1 : (cs.map V.int).length ≤ 1001 := by rw [List.length_map, lcs]; decide
      have lh1 : (hs.map V.int).length ≤ 1001 := by rw [List.length_map, lhs]; decide
      have lg1 : (gs.map V.int).length ≤ 1001 := by rw [List.length_map, lgs]; decide
      -- kept, waits
      refine ⟨fun σ H' => σ = [some (.ref a), some (.ref d), some (tn), some (.int (m : Nat)), some (.ref z), some (.ref r), some (.ref b), some (.ref e), some (.ref e'), some (.ref u), some (.ref x), some (.ref gq), some (.ref t), w13, w14, w15, w16, w17, w18, w19, w20, none, none, none, none] ∧ Lp K tb tb2 ⟨d, l, e0, z, r, b, e, ba, e', ba', m, zs, ns, cs, xs, xs', p, p', g, g'⟩ H', ?_, ?_⟩
      · refine ⟨_, rfl, _, rfl, .ref t, .ref x, rfl, .inr ⟨t, b, hq, cs, hs, rfl, ht, .inr ⟨L1.hb, hh⟩, rph, by omega, .inr ⟨x, lesP (m : Int) F, rfl, KcP.svc cx fg0 CML (by omega), fun rr ms' H2 lg' br s2 => ?_⟩⟩⟩
        have er := brk_no pl ut (by omega) wl rp wg sf.up lg ge lg' br
        refine ⟨_, true, rfl, rfl, false, by rw [er]; rfl, iteF ?_⟩
        have L2' := L1.same s2
        have fl : ∀ {cs gs : List Int}, FlatR (waits cs gs) := waits_flat
        refine ⟨_, rfl, .ref t, _, rfl, .two (SqT.ext ht s2) (.seq (.inr L2'.hb) (flat_ints cs) lc1) (.seq (.inr (SqT.ext hh s2)) (flat_ints hs) lh1) (fun xs ys e1 e2 => by cases e1; cases e2; exact ⟨b, hq, rfl, rfl, .inr ⟨L2'.hb, SqT.ext hh s2⟩⟩), fun cs2 hs2 e2 rp2 w1 H3 hw1 s3 h3 => ?_, fun no => absurd ⟨cs, hs, rfl, rph⟩ no⟩
        injection e2 with e2
        injection e2 with e21 e22
        obtain rfl := ints_inj (Option.some.inj e21)
        obtain rfl := ints_inj (Option.some.inj e22)
        have L3' := L2'.same s3
        have hg3 := SqT.ext hg (Same.trans s2 s3)
        refine ⟨_, rfl, _, rfl, (by show 2 ≤ sizeLine; decide), fun t2 ht2 => ?_⟩
        generalize g4 : upd H3 t2 _ = H4
        obtain ⟨s4, f4⟩ := alloc g4 ht2
        have L4' := L3'.same s4
        have hg4 := SqT.ext hg3 s4
        refine ⟨.ref t2, _, rfl, .two (SqT.of f4) (.seq (.inr L4'.hb) (flat_ints cs) lc1) (.seq (.inr hg4) (flat_ints gs) lg1) (fun xs ys e1 e2 => by cases e1; cases e2; exact ⟨b, gq, rfl, rfl, .inr ⟨L4'.hb, hg4⟩⟩), fun cs3 gs3 e3 rp3 w2 H5 hw2 s5 h5 => ?_, fun no => absurd ⟨cs, gs, rfl, rp⟩ no⟩
        injection e3 with e3
        injection e3 with e31 e32
        obtain rfl := ints_inj (Option.some.inj e31)
        obtain rfl := ints_inj (Option.some.inj e32)
        have ew := waits_wh wl rp.2.2.1 wg
        refine ⟨rowD _, rowD _, .lst (SqL.of (s5 _ _ (s4 _ _ h3))) (dpAll_row _ fl), .lst (SqL.of h5) (dpAll_row _ fl), shaped_row _, shaped_row _, false, ?_, iteF ⟨rfl, L4'.same s5⟩⟩
        show V.bl (!PyData.eqv _ _) = _
        rw [eqv_row fl fl, decide_eq_true ew]
        rfl
      clear L1 cx hg ht hh
      rintro σ H1 ⟨rfl, L1⟩
      have sf' : SkFull xs' p' g' 28 F' := q.sf'
      have p6' := sf'.p1
      have x7' := sf'.x1
      -- due of the promise
      refine ⟨fun σ H' => ∃ du, σ = [some (.ref a), some (.ref d), some (tn), some (.int (m : Nat)), some (.ref z), some (.ref r), some (.ref b), some (.ref e), some (.ref e'), some (.ref du), some (.ref x), some (.ref gq), some (.ref t), w13, w14, w15, w16, w17, w18, w19, w20, none, none, none, none] ∧ H' du = some (.lst ((List.range 60).map (morP (m : Int) F'))) ∧ Lp K tb tb2 ⟨d, l, e0, z, r, b, e, ba, e', ba', m, zs, ns, cs, xs, xs', p, p', g, g'⟩ H', ?_, ?_⟩
      · refine ⟨(by show 1 ≤ sizeLine; decide), fun u1 hu1 => ?_⟩
        generalize g2 : upd H1 u1 _ = H2
        obtain ⟨s2, f2⟩ := alloc g2 hu1
        have L2' := L1.same s2
        refine ⟨1, 60, rfl, by decide, fun D hD => LM.lcM (walk_range (lo := 1) (n := 59)) (fun j => morP (m : Int) F' (j + 1)) hD (by decide) (fun _ _ => trivial) ?_ fun H3 h3 s3 => ?_⟩
        · rintro j v H4 H5 hj s4 ⟨rfl, rfl⟩ R' N kk
          have kk := kk _ (Same.refl _)
          have L5 := L2'.same s4
          have ex : morP (m : Int) F' (j + 1) = plV (F' (j + 1)) (.int ((m : Int) - 1)) := by
            unfold morP
            rw [if_neg (by omega)]
            rcases sf'.R.flat (j + 1) with z0 | ⟨i, z0⟩
            · rw [z0]
              rfl
            · rw [z0]
              show V.int (i + (m : Int) - 1) = V.int (i + ((m : Int) - 1))
              congr 1
              omega
          rw [ex] at kk
          exact ⟨rfl, _, rfl, _, rfl, e', ba', xs', p', j + 1, g', F', by show [V.ref e', V.int ((1 : Int) + (j : Int))] = _; rw [show (1 : Int) + (j : Int) = ((j + 1 : Nat) : Int) by omega], L5.sk'.ob, L5.sk'.li, sf'.R, by omega, _, rfl, _, _, rfl, rfl, _, _, rfl, sf'.R.flat _, .inr ⟨_, rfl⟩, kk⟩
        · refine ⟨u1, D, _, _, rfl, rfl, s3 _ _ f2, h3, (by rw [List.length_map, List.length_range]; decide), fun du hdu => ⟨du, rfl, ?_, L2'.same (Same.trans s3 (same_new hdu))⟩⟩
          have ee : [V.int 0] ++ (List.range 59).map (fun j => morP (m : Int) F' (j + 1)) = (List.range 60).map (morP (m : Int) F') := by
            rw [List.range_succ_eq_map, List.map_cons, List.map_map]
            rfl
          rw [← ee]
          exact upd_same
      clear L1
      rintro σ H1 ⟨du, rfl, hdu, L1⟩
      have upM : UpV (morP (m : Int) F') := up_mor (by omega) sf'.up
      have smM : ∀ j, j ≤ 5000 → SmallV (morP (m : Int) F' j) := fun j hj => (small_mor sf' (by decide) (by decide) (by omega) (by omega) hj).1
      -- promise
      refine ⟨fun σ H' => ∃ (y : Addr) (v1 : List V) (q1 : Nat) (r1 : Int), σ = [some (.ref a), some (.ref d), some (tn), some (.int (m : Nat)), some (.ref z), some (.ref r), some (.ref b), some (.ref e), some (.ref e'), some (.ref du), some (.ref x), some (.ref gq), some (.ref t), some (.ref y), w14, w15, w16, w17, w18, w19, w20, none, none, none, none] ∧ CurveAt H' C y v1 q1 r1 ∧ FormG (morP (m : Int) F') v1 q1 r1 ∧ v1.length ≤ 4000 ∧ H' du = some (.lst ((List.range 60).map (morP (m : Int) F'))) ∧ Lp K tb tb2 ⟨d, l, e0, z, r, b, e, ba, e', ba', m, zs, ns, cs, xs, xs', p, p', g, g'⟩ H', ?_, ?_⟩
      · refine ⟨_, rfl, e', ba', xs', p', g', rfl, L1.sk'.ob, L1.sk'.li, q.ma', fun x2 vals qq rr H2 fv cu s2 => ?_⟩
        obtain ⟨qn, kc⟩ := kc_made q.ma' fv sf'.R cu
        refine ⟨_, rfl, .ref x2, .int m, rfl, .inr ⟨x2, F', qn, rfl, kc, .inr ⟨m, rfl, by omega, by omega, fun v q2 r2 y H' fg l4 hy cy s' => ?_⟩⟩⟩
        have sA := Same.trans s2 s'
        exact ⟨y, v, q2, r2, rfl, cy, fg, l4, sA _ _ hdu, L1.same sA⟩
      clear L1 hdu
      rintro σ H1 ⟨y, v1, q1, r1, rfl, cy, fgM, lM, hdu, L1⟩
      have CMM : Calm v1 q1 r1 := calm_up fgM upM fun j k hj e => (small_mor sf' (by decide) (by decide) (by omega) (by omega) (show j ≤ 5000 by omega)).2 k e
      -- its values
      refine ⟨fun σ H' => σ = [some (.ref a), some (.ref d), some (tn), some (.int (m : Nat)), some (.ref z), some (.ref r), some (.ref b), some (.ref e), some (.ref e'), some (.ref du), some (.ref x), some (.ref gq), some (.ref t), some (.ref y), w14, w15, w16, w17, w18, w19, w20, none, none, none, none] ∧ CurveAt H' C y v1 q1 r1 ∧ H' du = some (.lst ((List.range 60).map (morP (m : Int) F'))) ∧ Lp K tb tb2 ⟨d, l, e0, z, r, b, e, ba, e', ba', m, zs, ns, cs, xs, xs', p, p', g, g'⟩ H', ?_, ?_⟩
      · refine ⟨_, rfl, _, rfl, y, du, 60, morP (m : Int) F', rfl, KcP.svc cy fgM CMM (by omega), hdu, by decide, fun j hj => smM j (by omega), fun H2 s2 => ⟨true, rfl, iteF ?_⟩⟩
        have L2' := L1.same s2
        refine ⟨_, rfl, _, rfl, e', ba', xs', p', g', rfl, L2'.sk'.ob, L2'.sk'.li, q.ma', fun x2 vals qq rr H3 fv cu s3 => ?_⟩
        obtain ⟨qn, kc⟩ := kc_made q.ma' fv sf'.R cu
        refine ⟨.ref x2, .int m, rfl, .inr ⟨x2, F', qn, rfl, kc, .inr ⟨m, rfl, by omega, by omega, fun v q2 r2 y2 H' fg l4 hy cy2 s' => ?_⟩⟩⟩
        have sA := Same.trans s2 (Same.trans s3 s')
        exact ⟨_, rfl, ne_cur (L := morP (m : Int) F') ⟨_, _, _, cy2, fg⟩ ⟨_, _, _, cy.same sA, fgM⟩ fun H4 s4 => ⟨_, rfl, iteF ⟨rfl, cy.same (Same.trans sA s4), (Same.trans sA s4) _ _ hdu, L1.same (Same.trans sA s4)⟩⟩⟩
      clear L1 hdu cy
      rintro σ H1 ⟨rfl, cy, hdu, L1⟩
      -- its form
      refine ⟨fun σ H' => σ = [some (.ref a), some (.ref d), some (tn), some (.int (m : Nat)), some (.ref z), some (.ref r), some (.ref b), some (.ref e), some (.ref e'), some (.ref du), some (.ref x), some (.ref gq), some (.ref t), some (.ref y), w14, w15, w16, w17, w18, w19, w20, none, none, none, none] ∧ H' du = some (.lst ((List.range 60).map (morP (m : Int) F'))) ∧ Lp K tb tb2 ⟨d, l, e0, z, r, b, e, ba, e', ba', m, zs, ns, cs, xs, xs', p, p', g, g'⟩ H', ?_, ?_⟩
      · refine ⟨_, rfl, _, rfl, _, rfl, _, _, rfl, rfl, e', ba', xs', p', (m : Int) - 1, g', F', rfl, L1.sk'.ob, L1.sk'.li, sf'.R, sf'.p0, by omega, by omega, sf'.g0, by have := sf'.g1; omega, fun e1 a1 xs1 H2 h1 h2 R1 fi x0 x1 s2 => ?_⟩
        rw [Int.sub_add_cancel] at R1
        exact ⟨y, e1, a1, xs1, p', g', morP (m : Int) F', rfl, ⟨_, _, _, cy.same s2, fgM⟩, h1, h2, fi, R1, sf'.p0, by omega, x0, by omega, ⟨sf'.g0, by have := sf'.g1; omega⟩, fun j hj => smM j (by omega), fun H3 s3 => ⟨true, rfl, iteF ⟨rfl, (Same.trans s2 s3) _ _ hdu, L1.same (Same.trans s2 s3)⟩⟩⟩
      clear L1 cy hdu
      rintro σ H1 ⟨rfl, hdu, L1⟩
      -- shaped_here
      refine ⟨fun σ H' => ∃ (sh : Addr) (ms1 : List Int) (cl : Nat → V), σ = [some (.ref a), some (.ref d), some (tn), some (.int (m : Nat)), some (.ref z), some (.ref r), some (.ref b), some (.ref e), some (.ref e'), some (.ref du), some (.ref x), some (.ref gq), some (.ref t), some (.ref y), some (.ref sh), w15, w16, w17, w18, w19, w20, none, none, none, none] ∧ SqT K H' sh (ms1.map V.int) ∧ CloV F' cl 22 ∧ LgL ns cl ms1 ∧ H' du = some (.lst ((List.range 60).map (morP (m : Int) F'))) ∧ Lp K tb tb2 ⟨d, l, e0, z, r, b, e, ba, e', ba', m, zs, ns, cs, xs, xs', p, p', g, g'⟩ H', ?_, ?_⟩
      · refine ⟨_, rfl, _, rfl, e', ba', xs', p', 22, g', F', rfl, L1.sk'.ob, L1.sk'.li, sf'.R, by decide, by decide, fun c1 cl H2 hc1 h2 lcl cv s2 => ?_⟩
        refine ⟨r, c1, ns, cl, rfl, SqT.ext L1.hr s2, h2, by omega, cv.z, cv.fl, by omega, by omega, fun sh ms1 H3 hsh h3 lg1 s3 => ⟨sh, ms1, _, rfl, SqT.of h3, cv, lg1, (Same.trans s2 s3) _ _ hdu, L1.same (Same.trans s2 s3)⟩⟩
      clear L1 hdu
      rintro σ H1 ⟨sh, ms1, cl, rfl, hsh, cv, lgS, hdu, L1⟩
      have acS : Asc0 ms1 := sha_asc cv sf'.up ac lgS (by omega)
      have lms : ms1.length = 22 := by have := lgS.1; omega
      -- some
      refine ⟨fun σ H' => ∃ (so : Addr) (ss : List Int), σ = [some (.ref a), some (.ref d), some (tn), some (.int (m : Nat)), some (.ref z), some (.ref r), some (.ref b), some (.ref e), some (.ref e'), some (.ref du), some (.ref x), some (.ref gq), some (.ref t), some (.ref y), some (.ref sh), some (.ref so), w16, w17, w18, w19, w20, none, none, none, none] ∧ SqT K H' so (ss.map V.int) ∧ WhL zs ms1 ss ∧ H' du = some (.lst ((List.range 60).map (morP (m : Int) F'))) ∧ Lp K tb tb2 ⟨d, l, e0, z, r, b, e, ba, e', ba', m, zs, ns, cs, xs, xs', p, p', g, g'⟩ H', ?_, ?_⟩
      · exact ⟨_, rfl, _, rfl, .ref sh, .ref z, rfl, .inr ⟨sh, ms1, rfl, .inr hsh, acS, by omega, .inr ⟨z, zs, rfl, .inl (SqL.of L1.hz), by omega, pl, fun ss so H2 hso wg h2 s2 => ⟨so, ss, rfl, SqT.of h2, wg, s2 _ _ hdu, L1.same s2⟩⟩⟩⟩
      clear L1 hdu hsh
      rintro σ H1 ⟨so, ss, rfl, hso, wS, hdu, L1⟩
      have lss : ss.length = 22 := by have := wS.1; omega
      -- it keeps the promise
      refine ⟨fun σ H' => σ = [some (.ref a), some (.ref d), some (tn), some (.int (m : Nat)), some (.ref z), some (.ref r), some (.ref b), some (.ref e), some (.ref e'), some (.ref du), some (.ref x), some (.ref gq), some (.ref t), some (.ref y), some (.ref sh), some (.ref so), w16, w17, w18, w19, w20, none, none, none, none] ∧ Lp K tb tb2 ⟨d, l, e0, z, r, b, e, ba, e', ba', m, zs, ns, cs, xs, xs', p, p', g, g'⟩ H', ?_, ?_⟩
      · have nf : FlatR [] := fun v hv => by cases hv
        have none_ : ∀ {n : Nat} {F : Nat → V}, ((List.range n).filter fun _ => false).map F = [] := fun {n F} => by
          rw [List.filter_eq_nil_iff.mpr fun _ _ => Bool.false_ne_true]
          rfl
        refine ⟨22, rfl, by decide, by decide, fun E1 hE => LM.lcF (walk_range (lo := 0) (n := 22)) (fun _ => false) (fun _ => V.int 1) hE (by decide) (fun _ _ => trivial) ?_ fun H2 h2 s2 => ?_⟩
        · rintro tt v H2 H3 htt s2 ⟨rfl, rfl⟩ R2 N2 k1 k2
          have ett : (0 : Int) + (tt : Int) = (tt : Int) := by omega
          refine ⟨rfl, _, rfl, (0 : Int) + (tt : Int), rfl, by omega, by omega, ?_⟩
          rw [show ((0 : Int) + (tt : Int)).toNat = tt by omega]
          refine fun E2 hE2 => LM.lcF (walk_range (lo := 0) (n := tt)) (fun _ => false) (fun _ => V.int 1) hE2 (by omega) (fun _ _ => trivial) ?_ fun H4 h4 s4 => ?_
          · rintro s' v H4 H5 hs' s4 ⟨rfl, rfl⟩ R4 N4 j1 j2
            have es' : (0 : Int) + (s' : Int) = (s' : Int) := by omega
            have sA := Same.trans s2 s4
            have g1 : atI (ss.map V.int) ((0 : Int) + (tt : Int)) = some (.int (ss.getD tt 0)) := by rw [ett]; exact atI_nat (getD_map (by omega))
            have g2 : atI (ss.map V.int) ((0 : Int) + (s' : Int)) = some (.int (ss.getD s' 0)) := by rw [es']; exact atI_nat (getD_map (by omega))
            have g3 : atI ((List.range 60).map (morP (m : Int) F')) ((0 : Int) + (tt : Int) - ((0 : Int) + (s' : Int))) = some (morP (m : Int) F' (tt - s')) := by
              rw [show (0 : Int) + (tt : Int) - ((0 : Int) + (s' : Int)) = ((tt - s' : Nat) : Int) by omega]
              refine atI_nat ?_
              rw [List.getElem?_map, List.getElem?_range (by omega)]
              rfl
            have fl2 : flV (morP (m : Int) F' (tt - s')) := by
              rcases smM (tt - s') (by omega) with z0 | ⟨i, z0, _⟩
              · exact .inl z0
              · exact .inr ⟨i, z0⟩
            have kl := keep_more pl ut (by omega) cv sf'.up lgS (by omega) wS (show s' < tt by omega) (by omega)
            refine ⟨rfl, _, rfl, _, rfl, so, _, _, _, rfl, rfl, SqT.ext hso sA, g1, _, rfl, _, rfl, so, _, _, _, rfl, rfl, SqT.ext hso sA, g2, _, _, rfl, rfl, _, rfl, _, rfl, _, rfl, _, _, rfl, rfl, du, _, _, _, rfl, rfl, SqL.of (sA _ _ hdu), g3, _, _, rfl, .inr ⟨_, rfl⟩, fl2, true, ?_, iteF (j2 rfl _ (Same.refl _))⟩
            exact congrArg V.bl ((leB_iff (.inr ⟨_, rfl⟩) fl2).mpr kl)
          · rw [none_] at h4
            refine ⟨(by show 0 ≤ sizeLine; decide), fun p9 hp9 => ?_⟩
            generalize g5 : upd H4 p9 _ = H5
            obtain ⟨s5, f5⟩ := alloc g5 hp9
            refine ⟨rowD [], rowD [], .lst (SqL.of (s5 _ _ h4)) .nil, .lst (SqL.of f5) .nil, shaped_row _, shaped_row _, false, ?_, iteF (k2 rfl _ (Same.trans s4 s5))⟩
            show V.bl (!PyData.eqv _ _) = _
            rw [eqv_row nf nf, decide_eq_true rfl]
            rfl
        · rw [none_] at h2
          refine ⟨(by show 0 ≤ sizeLine; decide), fun p9 hp9 => ?_⟩
          generalize g5 : upd H2 p9 _ = H5
          obtain ⟨s5, f5⟩ := alloc g5 hp9
          refine ⟨rowD [], rowD [], .lst (SqL.of (s5 _ _ h2)) .nil, .lst (SqL.of f5) .nil, shaped_row _, shaped_row _, false, ?_, iteF ⟨rfl, L1.same (Same.trans s2 s5)⟩⟩
          show V.bl (!PyData.eqv _ _) = _
          rw [eqv_row nf nf, decide_eq_true rfl]
          rfl
      clear L1 hdu hso
      rintro σ H1 ⟨rfl, L1⟩
      -- sizes that are none
      refine ⟨fun σ H' => (∃ w16 w17, σ = [some (.ref a), some (.ref d), some (tn), some (.int (m : Nat)), some (.ref z), some (.ref r), some (.ref b), some (.ref e), some (.ref e'), some (.ref du), some (.ref x), some (.ref gq), some (.ref t), some (.ref y), some (.ref sh), some (.ref so), w16, w17, w18, w19, w20, none, none, none, none]) ∧ Lp K tb tb2 ⟨d, l, e0, z, r, b, e, ba, e', ba', m, zs, ns, cs, xs, xs', p, p', g, g'⟩ H', ?_, ?_⟩
      · refine ⟨(by show 1 ≤ sizeLine; decide), fun p1 hp1 => ?_⟩
        generalize g1 : upd H1 p1 _ = H2
        obtain ⟨s1, f1⟩ := alloc g1 hp1
        refine ⟨_, _, rfl, rfl, ⟨by decide, by decide⟩, _, _, rfl, rfl, (by show 1 ≤ sizeLine; decide), fun p2 hp2 => ?_⟩
        generalize g2 : upd H2 p2 _ = H3
        obtain ⟨s2, f2⟩ := alloc g2 hp2
        refine ⟨(by show 1 ≤ sizeLine; decide), fun p3 hp3 => ?_⟩
        generalize g3 : upd H3 p3 _ = H4
        obtain ⟨s3, f3⟩ := alloc g3 hp3
        refine ⟨(by show 2 ≤ sizeLine; decide), fun p4 hp4 => ?_⟩
        generalize g4 : upd H4 p4 _ = H5
        obtain ⟨s4, f4⟩ := alloc g4 hp4
        refine fun p5 hp5 => ?_
        generalize g5 : upd H5 p5 _ = H6
        obtain ⟨s5, f5⟩ := alloc g5 hp5
        refine ⟨(by show 1 ≤ sizeLine; decide), fun q6 hq6 => ?_⟩
        generalize g6 : upd H6 q6 _ = H7
        obtain ⟨s6, f6⟩ := alloc g6 hq6
        refine ⟨q6, 401, [.int 1], rfl, rfl, f6, by decide, by decide, (by show 1 * 401 ≤ sizeLine; decide), fun p6 hp6 => ?_⟩
        generalize g7 : upd H7 p6 _ = H8
        obtain ⟨s7, f7⟩ := alloc g7 hp6
        rw [ones_flat] at f7
        refine ⟨(by show 9 ≤ sizeLine; decide), fun u9 hu9 => ?_⟩
        generalize g8 : upd H8 u9 _ = H9
        obtain ⟨s8, f8⟩ := alloc g8 hu9
        have t7 := Same.trans s7 s8
        have t6 := Same.trans s6 t7
        have t5 := Same.trans s5 t6
        have t4 := Same.trans s4 t5
        have t3 := Same.trans s3 t4
        have t2 := Same.trans s2 t3
        have t1 := Same.trans s1 t2
        have L9 := L1.same t1
        have bad9 : ∀ y ∈ [V.non, .int 5, .ref p1, .ref p2, .ref p3, .ref p4, .str "1", .ref p5, .ref p6], BadS K H9 y := fun y hy => by
          simp only [List.mem_cons, List.not_mem_nil, or_false] at hy
          rcases hy with rfl | rfl | rfl | rfl | rfl | rfl | rfl | rfl | rfl
          · exact .fl rfl
          · exact .fl rfl
          · exact .sq (t2 _ _ f1) (by decide) (.inr ⟨by decide, rfl, rfl⟩)
          · exact .sq (t3 _ _ f2) (by decide) (.inr ⟨by decide, rfl, rfl⟩)
          · exact .sq (t4 _ _ f3) (by decide) (.inr ⟨by decide, rfl, rfl⟩)
          · exact .sq (t5 _ _ f4) (by decide) (.inr ⟨by decide, rfl, rfl⟩)
          · exact .fl rfl
          · exact .dk (t6 _ _ f5)
          · exact .sq (s8 _ _ f7) (by rw [List.length_replicate]; decide) (.inl (by rw [List.length_replicate]; decide))
        refine ⟨u9, rfl, ⟨_, SqL.of f8⟩, for_list (K := K) (a := u9) (xs := [V.non, .int 5, .ref p1, .ref p2, .ref p3, .ref p4, .str "1", .ref p5, .ref p6]) (fun i σ H' => (∃ w16 w17, σ = [some (.ref a), some (.ref d), some (tn), some (.int (m : Nat)), some (.ref z), some (.ref r), some (.ref b), some (.ref e), some (.ref e'), some (.ref du), some (.ref x), some (.ref gq), some (.ref t), some (.ref y), some (.ref sh), some (.ref so), w16, w17, w18, w19, w20, none, none, none, none]) ∧ Tabs [(tb, lamQ), (tb2, lamQ2)] H' ∧ ExtN H9 H') ⟨⟨_, _, rfl⟩, L9.D.T, ExtN.refl _⟩ (fun i σ H' _ ⟨_, _, x'⟩ => SqL.extN (SqL.of f8) x') ?_ ?_⟩
        · rintro i y0 σ HA hy ⟨⟨w16, w17, rfl⟩, T4, x4⟩
          have b4 : BadS K HA y0 := (bad9 y0 (List.mem_of_getElem? hy)).extN x4
          have L4 := L9.ext T4 x4
          refine ⟨fun σ H' => ∃ ad, σ = [some (.ref a), some (.ref d), some (tn), some (.int (m : Nat)), some (.ref z), some (.ref r), some (.ref b), some (.ref e), some (.ref e'), some (.ref du), some (.ref x), some (.ref gq), some (.ref t), some (.ref y), some (.ref sh), some (.ref so), some (y0), some (.ref ad), w18, w19, w20, none, none, none, none] ∧ ErrC H' ad CN (some ("part", .str "sizes")) ∧ Tabs [(tb, lamQ), (tb2, lamQ2)] H' ∧ ExtN H9 H', ?_, ?_⟩
          · refine ⟨T4, fun HB x8 T8 => ?_⟩
            refine ⟨_, rfl, _, rfl, .ref r, y0, rfl, .inr ⟨r, ns, rfl, .inr (SqT.extN L4.hr x8), ac, by omega, .inl ⟨(b4.extN x8).bad, fun d' H' rd => ⟨EN.ex, fun ad ha => ?_⟩⟩⟩⟩
            generalize gb : upd H' ad _ = HC
            obtain ⟨sb, fb⟩ := alloc gb ha
            have sF : Same HB HC := Same.trans rd.2.2 sb
            exact ⟨ad, rfl, .with_ fb (sb _ _ rd.2.1), Tabs.same T8 sF, xN x4 (xN x8 (ExtN.of_same sF))⟩
          rintro σ HB ⟨ad, rfl, er, TB', xB⟩
          refine ⟨_, rfl, .inl ⟨ad, CN, some ("part", .str "sizes"), .ref CN, .ref CN, true, rfl, er, .own _, EN.ask, EN.one, true, rfl, iteF ⟨_, rfl, ad, CN, .str "sizes", rfl, er, EN.ask, EN.hd, EN.hf, rfl, _, rfl, ?_⟩⟩⟩
          rw [decide_eq_true rfl]
          exact iteF ⟨⟨_, _, rfl⟩, TB', xB⟩
        · rintro σ HA ⟨⟨w16, w17, rfl⟩, T4, x4⟩
          exact ⟨⟨_, _, rfl⟩, L9.ext T4 x4⟩
      clear L1
      rintro σ H1 ⟨⟨w16, w17, rfl⟩, L1⟩
      -- mosts that are none
      refine ⟨fun σ H' => (∃ w16 w17 w18, σ = [some (.ref a), some (.ref d), some (tn), some (.int (m : Nat)), some (.ref z), some (.ref r), some (.ref b), some (.ref e), some (.ref e'), some (.ref du), some (.ref x), some (.ref gq), some (.ref t), some (.ref y), some (.ref sh), some (.ref so), w16, w17, w18, w19, w20, none, none, none, none]) ∧ Lp K tb tb2 ⟨d, l, e0, z, r, b, e, ba, e', ba', m, zs, ns, cs, xs, xs', p, p', g, g'⟩ H', ?_, ?_⟩
      · refine ⟨1, rfl, _, _, rfl, rfl, ⟨by decide, by decide⟩, _, _, rfl, rfl, (by show 6 ≤ sizeLine; decide), fun u9 hu9 => ?_⟩
        generalize g8 : upd H1 u9 _ = H9
        obtain ⟨s8, f8⟩ := alloc g8 hu9
        have L9 := L1.same s8
        have bad9 : ∀ y ∈ [V.non, .int 0, .int (-1), .int 1000001, .bl true, .str "2"], ∀ H : Hp, badFrom K H y 1 1000000 := fun y hy H => by
          simp only [List.mem_cons, List.not_mem_nil, or_false] at hy
          rcases hy with rfl | rfl | rfl | rfl | rfl | rfl
          · exact .inl (numT_flat (x := .non) rfl)
          · exact .inr ⟨_, rfl, fun z => absurd z.1 (by decide)⟩
          · exact .inr ⟨_, rfl, fun z => absurd z.1 (by decide)⟩
          · exact .inr ⟨_, rfl, fun z => absurd z.2 (by decide)⟩
          · exact .inl (numT_flat (x := .bl true) rfl)
          · exact .inl (numT_flat (x := .str "2") rfl)
        refine ⟨u9, rfl, ⟨_, SqL.of f8⟩, for_list (K := K) (a := u9) (xs := [V.non, .int 0, .int (-1), .int 1000001, .bl true, .str "2"]) (fun i σ H' => (∃ w16 w17 w18, σ = [some (.ref a), some (.ref d), some (tn), some (.int (m : Nat)), some (.ref z), some (.ref r), some (.ref b), some (.ref e), some (.ref e'), some (.ref du), some (.ref x), some (.ref gq), some (.ref t), some (.ref y), some (.ref sh), some (.ref so), w16, w17, w18, w19, w20, none, none, none, none]) ∧ Tabs [(tb, lamQ), (tb2, lamQ2)] H' ∧ ExtN H9 H') ⟨⟨_, _, _, rfl⟩, L9.D.T, ExtN.refl _⟩ (fun i σ H' _ ⟨_, _, x'⟩ => SqL.extN (SqL.of f8) x') ?_ ?_⟩
        · rintro i y0 σ HA hy ⟨⟨w16, w17, w18, rfl⟩, T4, x4⟩
          have b4 := bad9 y0 (List.mem_of_getElem? hy)
          have L4 := L9.ext T4 x4
          refine ⟨(by show 2 ≤ sizeLine; decide), fun u0 hu0 => ?_⟩
          generalize ga : upd HA u0 _ = HB
          obtain ⟨sa, fa⟩ := alloc ga hu0
          have LB := L4.same sa
          refine ⟨u0, rfl, ⟨_, SqL.of fa⟩, for_list (K := K) (a := u0) (xs := [V.ref fPsv, .ref fPpr]) (fun i σ H' => (∃ w17 w18, σ = [some (.ref a), some (.ref d), some (tn), some (.int (m : Nat)), some (.ref z), some (.ref r), some (.ref b), some (.ref e), some (.ref e'), some (.ref du), some (.ref x), some (.ref gq), some (.ref t), some (.ref y), some (.ref sh), some (.ref so), some (y0), w17, w18, w19, w20, none, none, none, none]) ∧ Tabs [(tb, lamQ), (tb2, lamQ2)] H' ∧ ExtN HB H') ⟨⟨_, _, rfl⟩, LB.D.T, ExtN.refl _⟩ (fun i σ H' _ ⟨_, _, x'⟩ => SqL.extN (SqL.of fa) x') ?_ ?_⟩
          · rintro j v σ HD hv ⟨⟨w17, w18, rfl⟩, T5, x5⟩
            have L5 := LB.ext T5 x5
            refine ⟨fun σ H' => ∃ ad, σ = [some (.ref a), some (.ref d), some (tn), some (.int (m : Nat)), some (.ref z), some (.ref r), some (.ref b), some (.ref e), some (.ref e'), some (.ref du), some (.ref x), some (.ref gq), some (.ref t), some (.ref y), some (.ref sh), some (.ref so), some (y0), some (.ref ad), some (v), w19, w20, none, none, none, none] ∧ ErrC H' ad CN (some ("part", .str "most")) ∧ Tabs [(tb, lamQ), (tb2, lamQ2)] H' ∧ ExtN HB H', ?_, ?_⟩
            · refine ⟨T5, fun H8 x8 T8 => ?_⟩
              have L8 := L5.ext T8 x8
              have fin : ∀ (HG : Hp), Same H8 HG → ∀ (d' : Addr) (H' : Hp), Raised HG "part" (.str "most") d' H' → PySem.W.exmOne K (.ref CN) (.ref W) = some true ∧ ∀ ad, H' ad = none → ∃ ad', ([some (.ref a), some (.ref d), some (tn), some (.int (m : Nat)), some (.ref z), some (.ref r), some (.ref b), some (.ref e), some (.ref e'), some (.ref du), some (.ref x), some (.ref gq), some (.ref t), some (.ref y), some (.ref sh), some (.ref so), some (y0), some (.ref ad), some (v), w19, w20, none, none, none, none] : L2.St) = [some (.ref a), some (.ref d), some (tn), some (.int (m : Nat)), some (.ref z), some (.ref r), some (.ref b), some (.ref e), some (.ref e'), some (.ref du), some (.ref x), some (.ref gq), some (.ref t), some (.ref y), some (.ref sh), some (.ref so), some (y0), some (.ref ad'), some (v), w19, w20, none, none, none, none] ∧ ErrC (upd H' ad (Caught (.ref CN) (some d') ad)) ad' CN (some ("part", .str "most")) ∧ Tabs [(tb, lamQ), (tb2, lamQ2)] (upd H' ad (Caught (.ref CN) (some d') ad)) ∧ ExtN HB (upd H' ad (Caught (.ref CN) (some d') ad)) := fun HG sG d' H' rd => ⟨EN.ex, fun ad ha => by
                generalize gb : upd H' ad _ = HC
                obtain ⟨sb, fb⟩ := alloc gb ha
                have sF : Same H8 HC := Same.trans sG (Same.trans rd.2.2 sb)
                exact ⟨ad, rfl, .with_ fb (sb _ _ rd.2.1), Tabs.same T8 sF, xN x5 (xN x8 (ExtN.of_same sF))⟩⟩
              match j, hv with
              | 0, hv =>
                cases hv
                refine .inl ⟨rfl, _, rfl, e, ba, xs, p, g, rfl, L8.sk.ob, L8.sk.li, q.ma, fun x2 vals qq rr H9' fv cu s9 => ?_⟩
                obtain ⟨qn, kc⟩ := kc_made q.ma fv sf.R cu
                exact ⟨_, rfl, .ref x2, y0, rfl, .inr ⟨x2, F, qn, rfl, kc, .inl ⟨b4 _, fin _ s9⟩⟩⟩
              | 1, hv =>
                cases hv
                refine .inr ⟨rfl, _, rfl, e, ba, xs, p, g, rfl, L8.sk.ob, L8.sk.li, q.ma, fun x2 vals qq rr H9' fv cu s9 => ?_⟩
                obtain ⟨qn, kc⟩ := kc_made q.ma fv sf.R cu
                exact ⟨_, rfl, .ref x2, y0, rfl, .inr ⟨x2, F, qn, rfl, kc, .inl ⟨b4 _, fin _ s9⟩⟩⟩
            rintro σ H8 ⟨ad, rfl, er, T8, x8⟩
            refine ⟨_, rfl, .inl ⟨ad, CN, some ("part", .str "most"), .ref CN, .ref CN, true, rfl, er, .own _, EN.ask, EN.one, true, rfl, iteF ⟨_, rfl, ad, CN, .str "most", rfl, er, EN.ask, EN.hd, EN.hf, rfl, _, rfl, ?_⟩⟩⟩
            rw [decide_eq_true rfl]
            exact iteF ⟨⟨_, _, rfl⟩, T8, x8⟩
          · rintro σ HD ⟨⟨w17, w18, rfl⟩, T5, x5⟩
            exact ⟨⟨_, _, _, rfl⟩, T5, xN x4 (xN (ExtN.of_same sa) x5)⟩
        · rintro σ HA ⟨⟨w16, w17, w18, rfl⟩, T4, x4⟩
          exact ⟨⟨_, _, _, rfl⟩, L9.ext T4 x4⟩
      clear L1
      rintro σ H1 ⟨⟨w16, w17, w18, rfl⟩, L1⟩
      -- no curves, no rows
      refine ⟨_, rfl, (by show 3 ≤ sizeLine; decide), fun u9 hu9 => ?_⟩
      generalize g8 : upd H1 u9 _ = H9
      obtain ⟨s8, f8⟩ := alloc g8 hu9
      have L9 := L1.same s8
      have bad9 : ∀ y ∈ [V.non, .int 5, .ref e], BadC K H9 y := fun y hy => by
        simp only [List.mem_cons, List.not_mem_nil, or_false] at hy
        rcases hy with rfl | rfl | rfl
        · exact .no
        · exact .nm
        · exact .dk L9.sk.ob
      refine ⟨u9, rfl, ⟨_, SqL.of f8⟩, for_list (K := K) (a := u9) (xs := [V.non, .int 5, .ref e]) (fun i σ H' => (∃ w16 w17 w18 w19, σ = [some (.ref a), some (.ref d), some (tn), some (.int (m : Nat)), some (.ref z), some (.ref r), some (.ref b), some (.ref e), some (.ref e'), some (.ref du), some (.ref x), some (.ref gq), some (.ref t), some (.ref y), some (.ref sh), some (.ref so), w16, w17, w18, w19, w20, none, none, none, none]) ∧ Tabs [(tb, lamQ), (tb2, lamQ2)] H' ∧ ExtN H9 H') ⟨⟨_, _, _, _, rfl⟩, L9.D.T, ExtN.refl _⟩ (fun i σ H' _ ⟨_, _, x'⟩ => SqL.extN (SqL.of f8) x') ?_ ?_⟩
      · rintro i y0 σ HA hy ⟨⟨w16, w17, w18, w19, rfl⟩, T4, x4⟩
        have b4 : BadC K HA y0 := (bad9 y0 (List.mem_of_getElem? hy)).extN x4
        have nc : ∀ {H : Hp}, BadC K H y0 → NoCur K H C y0 := fun {H} h => by
          cases h with
          | no => exact ⟨_, .base .non, nN⟩
          | nm => exact ⟨_, .base (.int 5), nI⟩
          | dk h => exact ⟨_, .base (.dK h), nD⟩
        refine ⟨fun σ H' => ∃ (v : Addr) (es : List Addr), σ = [some (.ref a), some (.ref d), some (tn), some (.int (m : Nat)), some (.ref z), some (.ref r), some (.ref b), some (.ref e), some (.ref e'), some (.ref du), some (.ref x), some (.ref gq), some (.ref t), some (.ref y), some (.ref sh), some (.ref so), some (y0), w17, w18, some (.ref v), w20, none, none, none, none] ∧ es.length ≤ 1 ∧ BagO [(tb, lamQ), (tb2, lamQ2)] CB (some ("part", .non)) HA H' v es, ?_, ?_⟩
        · refine ⟨T4, fun H8 x8 T8 => ?_⟩
          refine ⟨_, rfl, y0, .non, rfl, .inl ⟨nc (b4.extN x8), fun d' H' rd => ⟨EB.ex, fun ad ha => ?_⟩⟩⟩
          generalize gb : upd H' ad _ = HC
          obtain ⟨sb, fb⟩ := alloc gb ha
          exact ⟨(by show 1 ≤ sizeLine; decide), fun v hv => ⟨v, [ad], rfl, Nat.le_refl _, BagO.first x8 T8 (Same.trans rd.2.2 sb) (.with_ fb (sb _ _ rd.2.1)) hv⟩⟩
        rintro σ HB ⟨v, es, rfl, ln1, bag⟩
        refine ⟨fun σ H' => ∃ (v : Addr) (es : List Addr), σ = [some (.ref a), some (.ref d), some (tn), some (.int (m : Nat)), some (.ref z), some (.ref r), some (.ref b), some (.ref e), some (.ref e'), some (.ref du), some (.ref x), some (.ref gq), some (.ref t), some (.ref y), some (.ref sh), some (.ref so), some (y0), w17, w18, some (.ref v), w20, none, none, none, none] ∧ es.length ≤ 2 ∧ BagO [(tb, lamQ), (tb2, lamQ2)] CB (some ("part", .non)) HA H' v es, ?_, ?_⟩
        · refine ⟨_, rfl, .inl ⟨rfl, _, SqL.of bag.lst⟩, bag.T, fun H8 x8 T8 => ?_⟩
          have x8' := xN bag.x x8
          refine ⟨_, rfl, y0, .non, rfl, .inl ⟨nc (b4.extN x8'), fun d' H' rd => ⟨EB.ex, fun ad ha => ?_⟩⟩⟩
          generalize gb : upd H' ad _ = HC
          obtain ⟨sb, fb⟩ := alloc gb ha
          obtain ⟨hC, bag2⟩ := bag.step x8 T8 (Same.trans rd.2.2 sb) (.with_ fb (sb _ _ rd.2.1))
          exact ⟨v, _, _, rfl, rfl, hC, by rw [List.length_map]; exact small1001 (by omega), v, es ++ [ad], rfl, by rw [List.length_append]; show es.length + 1 ≤ _; omega, bag2⟩
        rintro σ HB ⟨v, es, rfl, ln2, bag⟩
        refine ⟨fun σ H' => σ = [some (.ref a), some (.ref d), some (tn), some (.int (m : Nat)), some (.ref z), some (.ref r), some (.ref b), some (.ref e), some (.ref e'), some (.ref du), some (.ref x), some (.ref gq), some (.ref t), some (.ref y), some (.ref sh), some (.ref so), some (y0), w17, w18, some (.ref v), w20, none, none, none, none] ∧ Tabs [(tb, lamQ), (tb2, lamQ2)] H' ∧ ExtN HA H', ?_, ?_⟩
        · refine ⟨_, rfl, v, rfl, ⟨_, SqL.of bag.lst⟩, fun E1 hE => LM.lcF (walk_list (xs := es.map V.ref)) (fun _ => false) (fun _ => V.int 1) hE (by rw [List.length_map]; omega) (fun H6 s6 => SqL.of (s6 _ _ bag.lst)) ?_ ?_⟩
          · rintro i' v' H6 H7 hi' s6 ⟨rfl, hx⟩ R' N k1 k2
            rw [List.getElem?_map] at hx
            obtain ⟨er', he', rfl⟩ := Option.map_eq_some_iff.mp hx
            have er := errO_extN (bag.er er' (List.mem_of_getElem? he')) (ExtN.of_same s6)
            exact ⟨rfl, _, rfl, .inl ⟨er', CB, _, .ref CB, .ref CB, true, rfl, er, .own _, EB.ask, EB.one, true, rfl, iteF ⟨_, rfl, er', CB, .non, rfl, er, EB.ask, EB.hd, EB.hf, rfl, false, rfl, iteF (k2 rfl _ (Same.refl _))⟩⟩⟩
          · intro H6 hd s6
            refine ⟨(by show 0 ≤ sizeLine; decide), fun p9 hp9 => ?_⟩
            generalize g7 : upd H6 p9 _ = H7
            obtain ⟨s7, f7⟩ := alloc g7 hp9
            have hd : H6 E1 = some (.lst []) := by
              rw [hd]
              simp
            have s57 := Same.trans s6 s7
            refine ⟨.list [], .list [], .lst (SqL.of (s7 _ _ hd)) .nil, .lst (SqL.of f7) .nil, by decide, by decide, false, ?_, iteF ⟨rfl, Tabs.same bag.T s57, xN bag.x (ExtN.of_same s57)⟩⟩
            simp [PyData.eqv, PyData.eqvAll]
        rintro σ HC ⟨rfl, T5, x5⟩
        refine ⟨T5, fun H8 x8 T8 => ?_⟩
        refine ⟨_, rfl, y0, .non, rfl, .inl ⟨none, (b4.extN (xN x5 x8)).row, no_row, fun H9' s9 => ⟨ES.1, fun ad ha => ?_⟩⟩⟩
        generalize gb : upd H9' ad _ = HD
        obtain ⟨sb, fb⟩ := alloc gb ha
        have sF := Same.trans s9 sb
        exact .inl ⟨ad, CR, none, .ref CR, .ref CR, true, rfl, .bare fb, .own _, ES.2.2, ES.2.1, true, rfl, iteF ⟨⟨_, _, _, _, rfl⟩, Tabs.same T8 sF, xN x4 (xN x5 (xN x8 (ExtN.of_same sF)))⟩⟩
      · rintro σ HA ⟨⟨w16, w17, w18, w19, rfl⟩, T4, x4⟩
        exact ⟨⟨_, _, _, _, _, _, _, _, _, _, _, _, _, _, _, _, _, _, _, rfl⟩, (L9.ext T4 x4).D⟩
    rintro σ H1 ⟨⟨w2, w3, w4, w5, w6, w7, w8, w9, w10, w11, w12, w13, w14, w15, w16, w17, w18, w19, w20, rfl⟩, D1⟩
    -- late_one
    refine ⟨fun σ H' => ∃ (lo : Addr) (qn : Nat), σ = [some (.ref a), some (.ref d), w2, w3, w4, w5, w6, w7, w8, w9, w10, w11, w12, w13, w14, w15, w16, w17, w18, w19, some (.ref lo), none, none, none, none] ∧ KcP H' C lo (fun j => .int (MF.at_ [0, 0] 1 1 j)) qn ∧ DT [(tb, lamQ), (tb2, lamQ2)] H' d l e0, ?_, ?_⟩
    · refine ⟨(by show 2 ≤ sizeLine; decide), fun a0 ha0 => ?_⟩
      generalize g9 : upd H1 a0 _ = H9
      obtain ⟨s9, f9⟩ := alloc g9 ha0
      refine fun x dx hx hdx ne => ?_
      generalize g10 : upd H9 dx _ = H10
      obtain ⟨s10, f10⟩ := alloc g10 hdx
      have hx10 : H10 x = none := by rw [← g10, upd_ne (Ne.symm ne)]; exact hx
      generalize g11 : upd H10 x _ = H11
      obtain ⟨s11, f11⟩ := alloc g11 hx10
      refine ⟨x, dx, _, _, _, rfl, f11, .inl ⟨a0, [.int 0, .int 0], 1, 1, rfl, rfl, rfl, .inl (SqL.of (s11 _ _ (s10 _ _ f9))), late_make, fun vals q' r' H12 fv cu kp => ⟨rfl, ?_⟩⟩⟩
      have sx : Same H9 H12 := fun b o e => kp b o (s11 _ _ (s10 _ _ e)) (ne_of_none e hx)
      obtain ⟨qn, kc⟩ := kc_made late_make fv (.mkI [0, 0] 1 1 (by decide) (by decide) (by decide)) cu
      exact ⟨x, qn, rfl, kc, D1.same (Same.trans s9 sx)⟩
    clear D1
    rintro σ H2 ⟨lo, qn, rfl, kc, D1⟩
    -- too late
    refine ⟨fun σ H' => ∃ ad, σ = [some (.ref a), some (.ref d), w2, w3, w4, w5, w6, w7, w8, w9, w10, w11, w12, w13, w14, w15, w16, some (.ref ad), w18, w19, some (.ref lo), none, none, none, none] ∧ ErrC H' ad CT (some ("most", .int 4000)) ∧ DT [(tb, lamQ), (tb2, lamQ2)] H' d l e0, ?_, ?_⟩
    · refine ⟨D1.T, fun H8 x8 T8 => ?_⟩
      have kc8 : KcP H8 C lo (fun j => .int (MF.at_ [0, 0] 1 1 j)) qn := by
        obtain ⟨v, r, cu, fg, CM, l⟩ := kc
        exact ⟨v, r, cu.extN x8, fg, CM, l⟩
      refine ⟨_, rfl, .ref lo, .int 5000, rfl, .inr ⟨lo, _, qn, rfl, kc8, .inr ⟨5000, rfl, by decide, by decide, fun v q r y H' fg l4 _ _ _ => ?_, fun fa d' H' rd => ⟨EM.ex, fun ad ha => ?_⟩⟩⟩⟩
      · exfalso
        rw [late_les] at fg
        obtain ⟨rfl, _, _⟩ := fg.uniq late_form
        rw [List.length_map, List.length_range] at l4
        omega
      · generalize gb : upd H' ad _ = HC
        obtain ⟨sb, fb⟩ := alloc gb ha
        have sF : Same H8 HC := Same.trans rd.2.2 sb
        exact ⟨ad, rfl, .with_ fb (sb _ _ rd.2.1), (D1.ext T8 x8).same sF⟩
    clear D1
    rintro σ H3 ⟨ad, rfl, er, D1⟩
    refine ⟨_, rfl, .inl ⟨ad, CT, some ("most", .int 4000), .ref CT, .ref CT, true, rfl, er, .own _, EM.ask, EM.one, true, rfl, iteT ⟨_, rfl, ad, CT, .int 4000, rfl, er, EM.ask, EM.hd, EM.hf, rfl, _, rfl, ?_⟩⟩⟩
    rw [decide_eq_true rfl]
    exact iteT ⟨_, rfl, d, l, e0, rfl, ⟨D1.D, fun p hp => D1.T p (List.mem_cons_of_mem _ hp)⟩, fun H' => k H'⟩
end
end WW
end

section
set_option Elab.async false
set_option linter.all false
set_option maxRecDepth 100000
set_option maxHeartbeats 0
namespace WK
open PySem L2 WW WT WG WL WV WC
abbrev sE_BadCurve : Stmt := L2.inClass (top 3) 0
theorem scE_BadCurve : FnScope ["self", "part"] ["self", "part"] (defScope sE_BadCurve) := ⟨rfl, rfl, rfl, by decide +kernel, rfl, by decide +kernel, by decide +kernel⟩
theorem okE_BadCurve {P : Program} {w : World} {K : PySem.W.Frag} {mg : Str → Option Value} {base : Heap} {f : Addr} {fd : FuncData} (F : Fun K "__init__" "BadCurve.__init__" sE_BadCurve f fd) : FnOk P w K mg base C8.CX0 1 f fd [("self" : Str), "part"] (WT.spErrI K "part") := by
  refine F.ok scE_BadCurve (fun vs H Q E h => ?_) (fun cdv A outer s H vs Q E hr h => ?_)
  · obtain ⟨a, C, y, rfl, _⟩ := h
    rfl
  · obtain ⟨a, C, y, rfl, e, T, hf, k⟩ := h
    exact ⟨_, pss_one (ps_ost (pv 0) (pv 1)), _, rfl, _, rfl, a, C, rfl, T, hf, .inl ⟨e, k⟩⟩
abbrev sE_BadNumber : Stmt := L2.inClass (top 4) 0
theorem scE_BadNumber : FnScope ["self", "part"] ["self", "part"] (defScope sE_BadNumber) := ⟨rfl, rfl, rfl, by decide +kernel, rfl, by decide +kernel, by decide +kernel⟩
theorem okE_BadNumber {P : Program} {w : World} {K : PySem.W.Frag} {mg : Str → Option Value} {base : Heap} {f : Addr} {fd : FuncData} (F : Fun K "__init__" "BadNumber.__init__" sE_BadNumber f fd) : FnOk P w K mg base C8.CX0 1 f fd [("self" : Str), "part"] (WT.spErrI K "part") := by
  refine F.ok scE_BadNumber (fun vs H Q E h => ?_) (fun cdv A outer s H vs Q E hr h => ?_)
  · obtain ⟨a, C, y, rfl, _⟩ := h
    rfl
  · obtain ⟨a, C, y, rfl, e, T, hf, k⟩ := h
    exact ⟨_, pss_one (ps_ost (pv 0) (pv 1)), _, rfl, _, rfl, a, C, rfl, T, hf, .inl ⟨e, k⟩⟩
abbrev sE_TooMany : Stmt := L2.inClass (top 7) 0
theorem scE_TooMany : FnScope ["self", "most"] ["self", "most"] (defScope sE_TooMany) := ⟨rfl, rfl, rfl, by decide +kernel, rfl, by decide +kernel, by decide +kernel⟩
theorem okE_TooMany {P : Program} {w : World} {K : PySem.W.Frag} {mg : Str → Option Value} {base : Heap} {f : Addr} {fd : FuncData} (F : Fun K "__init__" "TooMany.__init__" sE_TooMany f fd) : FnOk P w K mg base C8.CX0 1 f fd [("self" : Str), "most"] (WT.spErrI K "most") := by
  refine F.ok scE_TooMany (fun vs H Q E h => ?_) (fun cdv A outer s H vs Q E hr h => ?_)
  · obtain ⟨a, C, y, rfl, _⟩ := h
    rfl
  · obtain ⟨a, C, y, rfl, e, T, hf, k⟩ := h
    exact ⟨_, pss_one (ps_ost (pv 0) (pv 1)), _, rfl, _, rfl, a, C, rfl, T, hf, .inl ⟨e, k⟩⟩
def curB (K : PySem.W.Frag) (C fI fE : Addr) : Bool := (PySem.W.plainGet K C Str.empty && PySem.W.hasDictIn K C && PySem.W.plainOver K C && decide (PySem.W.findIn K (.ref C) "__setattr__" = some (some (.builtin "object.__setattr__")))) &&
  ((decide (PySem.W.findIn K (.ref C) "start" = some none) && decide (PySem.W.findIn K (.ref C) "period" = some none) && decide (PySem.W.findIn K (.ref C) "growth" = some none)) &&
  ((decide (PySem.W.findIn K (.ref C) "__class__" = some (some (.builtin "object.__class__"))) && decide (PySem.W.specialIn K (.builtin "object.__class__") "__get__" = some (some (.builtin "getset_descriptor.__get__"))) &&
    decide (PySem.W.takesIn K (.builtin "object.__class__") = some true) && decide (PySem.W.mroIn K C (.type "object") = some true)) &&
  ((decide (PySem.W.kitOne K (.ref C) (.ref C) = some true) && decide (PySem.W.kitOne K (.type "dict") (.ref C) = some false) && decide (PySem.W.kitOne K (.type "tuple") (.ref C) = some false)) &&
  ((PySem.W.makesIn K C && decide (PySem.W.findIn K (.ref C) "__init__" = some (some (.ref fI))) && PySem.W.isFn K (.ref fI) && PySem.W.keepIn K (.ref C)) &&
  ((decide (PySem.W.findIn K (.ref C) "__eq__" = some (some (.ref fE))) && PySem.W.isFn K (.ref fE) && WO.neB K C fE) &&
  (PySem.W.notFirst K C (.ref C) && PySem.W.notFirst K C (.type "dict") && PySem.W.notFirst K C (.type "tuple")))))))
theorem curB_ok {K : PySem.W.Frag} {mg : Str → Option Value} {C fI fE : Addr} (h : curB K C fI fE = true) (m : mg "Curve" = some (.ref C)) : CurT K mg C fI fE := by
  unfold curB at h
  simp only [Bool.and_eq_true, decide_eq_true_eq] at h
  obtain ⟨⟨⟨⟨a1, a2⟩, a3⟩, a4⟩, ⟨⟨b1, b2⟩, b3⟩, ⟨⟨⟨c1, c2⟩, c3⟩, c4⟩, ⟨⟨d1, d2⟩, d3⟩, ⟨⟨⟨e1, e2⟩, e3⟩, e4⟩, ⟨⟨f1, f2⟩, f3⟩, ⟨g1, g2⟩, g3⟩ := h
  exact ⟨⟨a1, a2, a3, a4⟩, b1, b2, b3, c1, c2, c3, c4, d1, d2, d3, m, ⟨e1, e2, e3, e4⟩, f1, f2, f3, g1, g2, g3⟩
def exG (K : PySem.W.Frag) (C W : Addr) : Bool := decide (PySem.W.exmOne K (.ref C) (.ref W) = some true) && decide (PySem.W.kitOne K (.ref C) (.ref C) = some true)
def kitG (K : PySem.W.Frag) (C : Addr) : Bool := decide (PySem.W.kitOne K (.type "NoneType") (.ref C) = some false) && (decide (PySem.W.kitOne K (.type "int") (.ref C) = some false) && decide (PySem.W.kitOne K (.type "str") (.ref C) = some false))
theorem exG_ok {P : Program} {w : World} {K : PySem.W.Frag} {mg : Str → Option Value} {base : Heap} {x f : Str} {C W fI : Addr} {fd : FuncData} (h : exG K C W = true) (T : WT.ErrT P w K mg base x f C fI fd) : ErrGf K W C f := by
  unfold exG at h
  simp only [Bool.and_eq_true, decide_eq_true_eq] at h
  exact ⟨T.ask, h.1, h.2, T.hd, T.hf⟩
theorem kitG_ok {K : PySem.W.Frag} {C : Addr} (h : kitG K C = true) : PySem.W.kitOne K (.type "NoneType") (.ref C) = some false ∧ PySem.W.kitOne K (.type "int") (.ref C) = some false ∧ PySem.W.kitOne K (.type "str") (.ref C) = some false := by
  unfold kitG at h
  simp only [Bool.and_eq_true, decide_eq_true_eq] at h
  exact h
theorem code_of {K : PySem.W.Frag} {x q : Str} {st : Stmt} {fd : FuncData} (F : Fun K x q st (He.ga K x) fd) : fd.code = .ref (WH.ctOf K x).1 := by
  obtain ⟨oc, od, kV, doc, pm, an, cdv, ct, osl, rfl, lk, hcd⟩ := F.ex
  unfold PySem.W.codeIn at hcd
  split at hcd
  · rename_i c
    unfold WH.ctOf WH.coOf
    rw [lk]
  · cases hcd
theorem kbR1 {K : PySem.W.Frag} {x qual y : Str} {st : Stmt} {f : Addr} {fd : FuncData} (F : Fun K x qual st f fd)
    (h : ∀ (kV doc pm : Value) (an : Option Addr) (cdv ct a : Value), bindArgs (PySem.W.fnOf x qual (defArgs st) (defBody st) (defScope st) .none kV doc pm an cdv ct) ⟨[], [(y, a)]⟩ = pure [(y, a)]) :
    KBinds K fd [y] [y] kgR1 kgR1 := by
  obtain ⟨oc, od, kV, doc, pm, an, cdv, ct, osl, rfl, lk, hcd⟩ := F.ex
  refine ⟨fun s us ws _ hl => ?_, fun {vs us zs ws} r rz => ?_⟩
  · match us, ws, hl with
    | [], [a], _ => exact .of_eq (h _ _ _ _ _ _ a)
    | [], [], hl => exact absurd (show (0 : Nat) = 1 from hl) (by decide)
    | [], _ :: _ :: _, hl => exact absurd (show (0 : Nat) = 1 from hl) (by decide)
    | _ :: _, _, hl => exact absurd (show (0 : Nat) = 1 from hl) (by decide)
  · cases r with
    | cons _ _ => exact .nil
    | nil =>
      cases rz with
      | nil => exact .nil
      | cons a1 a2 =>
        cases a2 with
        | nil => exact .cons a1 .nil
        | cons _ _ => exact .nil
theorem kbR2 {K : PySem.W.Frag} {x qual y z : Str} {st : Stmt} {f : Addr} {fd : FuncData} (F : Fun K x qual st f fd)
    (h : ∀ (kV doc pm : Value) (an : Option Addr) (cdv ct a b : Value), bindArgs (PySem.W.fnOf x qual (defArgs st) (defBody st) (defScope st) .none kV doc pm an cdv ct) ⟨[], [(z, a), (y, b)]⟩ = pure [(y, b), (z, a)]) :
    KBinds K fd [y, z] [z, y] kgR2 kgR2 := by
  obtain ⟨oc, od, kV, doc, pm, an, cdv, ct, osl, rfl, lk, hcd⟩ := F.ex
  refine ⟨fun s us ws _ hl => ?_, fun {vs us zs ws} r rz => ?_⟩
  · match us, ws, hl with
    | [], [a, b], _ => exact .of_eq (h _ _ _ _ _ _ a b)
    | [], [], hl => exact absurd (show (0 : Nat) = 2 from hl) (by decide)
    | [], [_], hl => exact absurd (show (0 : Nat) = 2 from hl) (by decide)
    | [], _ :: _ :: _ :: _, hl => exact absurd (show (0 : Nat) = 2 from hl) (by decide)
    | _ :: _, _, hl => exact absurd (show (0 : Nat) = 2 from hl) (by decide)
  · cases r with
    | cons _ _ => exact .nil
    | nil =>
      cases rz with
      | nil => exact .nil
      | cons a1 a2 =>
        cases a2 with
        | nil => exact .nil
        | cons b1 b2 =>
          cases b2 with
          | nil => exact .cons b1 (.cons a1 .nil)
          | cons _ _ => exact .nil
theorem kbR3 {K : PySem.W.Frag} {x qual y1 y2 y3 : Str} {st : Stmt} {f : Addr} {fd : FuncData} (F : Fun K x qual st f fd)
    (h : ∀ (kV doc pm : Value) (an : Option Addr) (cdv ct a b c : Value), bindArgs (PySem.W.fnOf x qual (defArgs st) (defBody st) (defScope st) .none kV doc pm an cdv ct) ⟨[], [(y3, a), (y2, b), (y1, c)]⟩ = pure [(y1, c), (y2, b), (y3, a)]) :
    KBinds K fd [y1, y2, y3] [y3, y2, y1] kgR3 kgR3 := by
  obtain ⟨oc, od, kV, doc, pm, an, cdv, ct, osl, rfl, lk, hcd⟩ := F.ex
  refine ⟨fun s us ws _ hl => ?_, fun {vs us zs ws} r rz => ?_⟩
  · match us, ws, hl with
    | [], [a, b, c], _ => exact .of_eq (h _ _ _ _ _ _ a b c)
    | [], [], hl => exact absurd (show (0 : Nat) = 3 from hl) (by decide)
    | [], [_], hl => exact absurd (show (0 : Nat) = 3 from hl) (by decide)
    | [], [_, _], hl => exact absurd (show (0 : Nat) = 3 from hl) (by decide)
    | [], _ :: _ :: _ :: _ :: _, hl => exact absurd (show (0 : Nat) = 3 from hl) (by decide)
    | _ :: _, _, hl => exact absurd (show (0 : Nat) = 3 from hl) (by decide)
  · cases r with
    | cons _ _ => exact .nil
    | nil =>
      cases rz with
      | nil => exact .nil
      | cons a1 a2 =>
        cases a2 with
        | nil => exact .nil
        | cons b1 b2 =>
          cases b2 with
          | nil => exact .nil
          | cons c1 c2 =>
            cases c2 with
            | nil => exact .cons c1 (.cons b1 (.cons a1 .nil))
            | cons _ _ => exact .nil
def plainY (K : PySem.W.Frag) (C W : Addr) : Bool := PySem.W.excIn K C [.type "ValueError", .type "Exception", .type "BaseException", .type "object"] "ValueError.__new__" && (PySem.W.keepIn K (.ref C) && (decide (PySem.W.subIn K (.ref C) (.type "BaseException") = some true) &&
  (decide (PySem.W.typeIn K (.ref C) = some (.type "type")) && (WH.askX K C && (decide (PySem.W.exmOne K (.ref C) (.ref W) = some true) && decide (PySem.W.kitOne K (.ref C) (.ref C) = some true))))))
theorem plainY_ok {K : PySem.W.Frag} {mg : Str → Option Value} {x : Str} {C W : Addr} (h : plainY K C W = true) (g : mg x = some (.ref C)) : PlainT K mg x C ∧ PySem.W.exmOne K (.ref C) (.ref W) = some true ∧ PySem.W.kitOne K (.ref C) (.ref C) = some true ∧ AskE K C := by
  unfold plainY at h
  simp only [Bool.and_eq_true, decide_eq_true_eq] at h
  obtain ⟨h1, h2, h3, h4, h5, h6, h7⟩ := h
  exact ⟨⟨h1, g, h2, h3, h4, WH.askX_ok h5⟩, h6, h7, WH.askX_ok h5⟩
def kitH (K : PySem.W.Frag) (C : Addr) : Bool := decide (PySem.W.kitOne K (.type "dict") (.ref C) = some false) && decide (PySem.W.kitOne K (.type "tuple") (.ref C) = some false)
theorem kitH_ok {K : PySem.W.Frag} {C : Addr} (h : kitH K C = true) : PySem.W.kitOne K (.type "dict") (.ref C) = some false ∧ PySem.W.kitOne K (.type "tuple") (.ref C) = some false := by
  unfold kitH at h
  simp only [Bool.and_eq_true, decide_eq_true_eq] at h
  exact h

def csN : List Str := ["WaitError", "BadCurve", "BadNumber", "BadRow", "BadRun", "TooMany", "Curve"]
def msN : List (Str × Str) := [("Curve", "__init__"), ("Curve", "__eq__"), ("BadCurve", "__init__"), ("BadNumber", "__init__"), ("TooMany", "__init__")]
def fsN : List Str := (["is_number", "are_numbers", "is_from", "is_list", "need_number", "is_above", "is_start", "falls_behind", "least_form", "least_step", "made", "need_curve", "has_none", "first_none", "regular_from"] : List Str) ++ (["first_values", "values_behind", "values", "gaps_of", "last_above", "lifted", "is_row", "need_row", "running", "whole_parcels", "parcel_service", "parcel_promise", "is_run", "need_run", "run_waits"] : List Str) ++ (["least_sums", "service_row", "least_left", "service_break", "keeps_service", "_law_begun", "_law_mixed", "_law_take", "_law_pick", "_law_caught", "_law_steps", "_law_sketch", "_law_made", "_law_at", "_law_is_least"] : List Str) ++ (["_law_plus", "_law_small", "_law_from_nought", "_law_service_at", "_law_least_gone", "_law_closure", "_law_row_of", "_law_shaped", "_law_gone_above", "_law_values_right", "_law_any_service", "_law_whole", "_law_form", "_law_is_form", "_law_parcelled"] : List Str) ++ (["_law_more_at_once", "_law_limit_right", "law"] : List Str)
def lsN : List Str := (["WaitError", "BadCurve", "BadNumber", "BadRow", "BadRun", "TooMany", "is_number", "are_numbers", "is_from", "is_list", "need_number", "MOST", "MOST_GIVEN", "MOST_MADE", "FEW"] : List Str) ++ (["Curve", "is_above", "is_start", "falls_behind", "least_form", "least_step", "made", "need_curve", "has_none", "first_none", "regular_from", "first_values", "values_behind", "values", "gaps_of"] : List Str) ++ (["last_above", "lifted", "MOST_BEATS", "is_row", "need_row", "running", "MOST_SIZES", "MOST_SIZE", "whole_parcels", "parcel_service", "parcel_promise", "is_run", "need_run", "run_waits", "least_sums"] : List Str) ++ (["service_row", "least_left", "service_break", "keeps_service", "_law_begun", "_law_mixed", "_law_take", "_law_pick", "_law_caught", "_law_steps", "_law_sketch", "_law_made", "_law_at", "_law_is_least", "_law_plus"] : List Str) ++ (["_law_small", "_law_from_nought", "_law_service_at", "_law_least_gone", "_law_closure", "_law_row_of", "_law_shaped", "_law_gone_above", "_law_values_right", "_law_any_service", "_law_whole", "_law_form", "_law_is_form", "_law_parcelled", "_law_more_at_once"] : List Str) ++ (["_law_limit_right"] : List Str)
def tfN : List Str := ["law", "_law_limit_right"]
def faK : List He.Fa := [.glo "is_number", .glo "are_numbers", .glo "is_from", .glo "is_list", .glo "need_number", .glo "is_above", .glo "is_start", .glo "falls_behind", .glo "least_form", .glo "least_step", .glo "made", .glo "need_curve", .glo "has_none", .glo "first_none", .glo "regular_from", .glo "first_values", .glo "values_behind", .glo "values", .glo "gaps_of", .glo "last_above", .glo "lifted", .glo "is_row", .glo "need_row", .glo "running", .glo "whole_parcels", .glo "parcel_service", .glo "parcel_promise", .glo "is_run", .glo "need_run", .glo "run_waits", .glo "least_sums", .glo "service_row", .glo "least_left", .glo "service_break", .glo "keeps_service", .glo "_law_begun", .glo "_law_mixed", .glo "_law_take", .glo "_law_pick", .glo "_law_caught", .glo "_law_steps", .glo "_law_sketch", .glo "_law_made", .glo "_law_at", .glo "_law_is_least", .glo "_law_plus", .glo "_law_small", .glo "_law_from_nought", .glo "_law_service_at", .glo "_law_least_gone", .glo "_law_closure", .glo "_law_row_of", .glo "_law_shaped", .glo "_law_gone_above", .glo "_law_values_right", .glo "_law_any_service", .glo "_law_whole", .glo "_law_form", .glo "_law_is_form", .glo "_law_parcelled", .glo "_law_more_at_once", .glo "_law_limit_right", .glo "law", .glo "WaitError", .glo "BadCurve", .glo "BadNumber", .glo "BadRow", .glo "BadRun", .glo "TooMany", .glo "Curve", .free "isinstance", .free "int", .free "bool", .free "list", .free "tuple", .free "len", .free "all", .free "sorted", .free "zip", .free "min", .free "range", .free "type", .free "abs", .free "repr", .free "max", .free "enumerate", .free "sum", .int "MOST" 1000000000, .int "MOST_GIVEN" 400, .int "MOST_MADE" 4000, .int "FEW" 12, .int "MOST_BEATS" 1000, .int "MOST_SIZES" 400, .int "MOST_SIZE" 1000000]
def d_num : He.DefD := ⟨("is_number", none), "is_number", "is_number", defArgs sNum, defBody sNum, defScope sNum, [], []⟩
def d_are : He.DefD := ⟨("are_numbers", none), "are_numbers", "are_numbers", defArgs sAre, defBody sAre, defScope sAre, [], []⟩
def d_from : He.DefD := ⟨("is_from", none), "is_from", "is_from", defArgs sFrom, defBody sFrom, defScope sFrom, [], []⟩
def d_isl : He.DefD := ⟨("is_list", none), "is_list", "is_list", defArgs sIsList, defBody sIsList, defScope sIsList, [], []⟩
def d_nnm : He.DefD := ⟨("need_number", none), "need_number", "need_number", defArgs sNeedNum, defBody sNeedNum, defScope sNeedNum, [], []⟩
def d_ini : He.DefD := ⟨("Curve", some "__init__"), "__init__", "Curve.__init__", defArgs sInit, defBody sInit, defScope sInit, [], []⟩
def d_eqc : He.DefD := ⟨("Curve", some "__eq__"), "__eq__", "Curve.__eq__", defArgs sEq, defBody sEq, defScope sEq, [], []⟩
def d_abv : He.DefD := ⟨("is_above", none), "is_above", "is_above", defArgs sAbove, defBody sAbove, defScope sAbove, [], []⟩
def d_sta : He.DefD := ⟨("is_start", none), "is_start", "is_start", defArgs sStart, defBody sStart, defScope sStart, [], []⟩
def d_fal : He.DefD := ⟨("falls_behind", none), "falls_behind", "falls_behind", defArgs sFalls, defBody sFalls, defScope sFalls, [], []⟩
def d_frm : He.DefD := ⟨("least_form", none), "least_form", "least_form", defArgs sForm, defBody sForm, defScope sForm, [], []⟩
def d_stp : He.DefD := ⟨("least_step", none), "least_step", "least_step", defArgs sStep, defBody sStep, defScope sStep, [], []⟩
def d_made : He.DefD := ⟨("made", none), "made", "made", defArgs sMadeC, defBody sMadeC, defScope sMadeC, [], []⟩
def d_ncu : He.DefD := ⟨("need_curve", none), "need_curve", "need_curve", defArgs sNeedCur, defBody sNeedCur, defScope sNeedCur, [], []⟩
def d_has : He.DefD := ⟨("has_none", none), "has_none", "has_none", defArgs sHas, defBody sHas, defScope sHas, [], []⟩
def d_fne : He.DefD := ⟨("first_none", none), "first_none", "first_none", defArgs sFne, defBody sFne, defScope sFne, [], []⟩
def d_reg : He.DefD := ⟨("regular_from", none), "regular_from", "regular_from", defArgs sRegular, defBody sRegular, defScope sRegular, [], []⟩
def d_fst : He.DefD := ⟨("first_values", none), "first_values", "first_values", defArgs sFirst, defBody sFirst, defScope sFirst, [], []⟩
def d_beh : He.DefD := ⟨("values_behind", none), "values_behind", "values_behind", defArgs sBehind, defBody sBehind, defScope sBehind, [], []⟩
def d_vls : He.DefD := ⟨("values", none), "values", "values", defArgs sValues, defBody sValues, defScope sValues, [], []⟩
def d_gap : He.DefD := ⟨("gaps_of", none), "gaps_of", "gaps_of", defArgs sGap, defBody sGap, defScope sGap, [], []⟩
def d_lab : He.DefD := ⟨("last_above", none), "last_above", "last_above", defArgs sLab, defBody sLab, defScope sLab, [], []⟩
def d_lif : He.DefD := ⟨("lifted", none), "lifted", "lifted", defArgs sLif, defBody sLif, defScope sLif, [], []⟩
def d_isr : He.DefD := ⟨("is_row", none), "is_row", "is_row", defArgs sIsRow, defBody sIsRow, defScope sIsRow, [], []⟩
def d_nro : He.DefD := ⟨("need_row", none), "need_row", "need_row", defArgs sNeedRow, defBody sNeedRow, defScope sNeedRow, [], []⟩
def d_rng : He.DefD := ⟨("running", none), "running", "running", defArgs sRun, defBody sRun, defScope sRun, [], []⟩
def d_whp : He.DefD := ⟨("whole_parcels", none), "whole_parcels", "whole_parcels", defArgs sWhp, defBody sWhp, defScope sWhp, [], []⟩
def d_psv : He.DefD := ⟨("parcel_service", none), "parcel_service", "parcel_service", defArgs sPsv, defBody sPsv, defScope sPsv, [], []⟩
def d_ppr : He.DefD := ⟨("parcel_promise", none), "parcel_promise", "parcel_promise", defArgs sPpr, defBody sPpr, defScope sPpr, [], []⟩
def d_iru : He.DefD := ⟨("is_run", none), "is_run", "is_run", defArgs sIsRun, defBody sIsRun, defScope sIsRun, [], []⟩
def d_nru : He.DefD := ⟨("need_run", none), "need_run", "need_run", defArgs sNeedRun, defBody sNeedRun, defScope sNeedRun, [], []⟩
def d_rwt : He.DefD := ⟨("run_waits", none), "run_waits", "run_waits", defArgs sWaits, defBody sWaits, defScope sWaits, [], []⟩
def d_lsu : He.DefD := ⟨("least_sums", none), "least_sums", "least_sums", defArgs sLsu, defBody sLsu, defScope sLsu, [], []⟩
def d_srw : He.DefD := ⟨("service_row", none), "service_row", "service_row", defArgs sSrw, defBody sSrw, defScope sSrw, [], []⟩
def d_lle : He.DefD := ⟨("least_left", none), "least_left", "least_left", defArgs sLle, defBody sLle, defScope sLle, [], []⟩
def d_sbr : He.DefD := ⟨("service_break", none), "service_break", "service_break", defArgs sSbr, defBody sSbr, defScope sSbr, [], []⟩
def d_ksv : He.DefD := ⟨("keeps_service", none), "keeps_service", "keeps_service", defArgs sKsv, defBody sKsv, defScope sKsv, [], []⟩
def d_beg : He.DefD := ⟨("_law_begun", none), "_law_begun", "_law_begun", defArgs sBegun, defBody sBegun, defScope sBegun, [], []⟩
def d_mix : He.DefD := ⟨("_law_mixed", none), "_law_mixed", "_law_mixed", defArgs sMixed, defBody sMixed, defScope sMixed, [], []⟩
def d_tak : He.DefD := ⟨("_law_take", none), "_law_take", "_law_take", defArgs sTake, defBody sTake, defScope sTake, [], []⟩
def d_pic : He.DefD := ⟨("_law_pick", none), "_law_pick", "_law_pick", defArgs sPick, defBody sPick, defScope sPick, [], []⟩
def d_cau : He.DefD := ⟨("_law_caught", none), "_law_caught", "_law_caught", defArgs sCaught, defBody sCaught, defScope sCaught, [], []⟩
def d_sts : He.DefD := ⟨("_law_steps", none), "_law_steps", "_law_steps", defArgs sSteps, defBody sSteps, defScope sSteps, [], []⟩
def d_ske : He.DefD := ⟨("_law_sketch", none), "_law_sketch", "_law_sketch", defArgs sSketch, defBody sSketch, defScope sSketch, [], []⟩
def d_mad : He.DefD := ⟨("_law_made", none), "_law_made", "_law_made", defArgs sMade, defBody sMade, defScope sMade, [], []⟩
def d_att : He.DefD := ⟨("_law_at", none), "_law_at", "_law_at", defArgs sAt, defBody sAt, defScope sAt, [], []⟩
def d_le2 : He.DefD := ⟨("_law_is_least", none), "_law_is_least", "_law_is_least", defArgs sLe2, defBody sLe2, defScope sLe2, [], []⟩
def d_plu : He.DefD := ⟨("_law_plus", none), "_law_plus", "_law_plus", defArgs sPlu, defBody sPlu, defScope sPlu, [], []⟩
def d_sma : He.DefD := ⟨("_law_small", none), "_law_small", "_law_small", defArgs sSma, defBody sSma, defScope sSma, [], []⟩
def d_fno : He.DefD := ⟨("_law_from_nought", none), "_law_from_nought", "_law_from_nought", defArgs sFno, defBody sFno, defScope sFno, [], []⟩
def d_sat : He.DefD := ⟨("_law_service_at", none), "_law_service_at", "_law_service_at", defArgs sSat, defBody sSat, defScope sSat, [], []⟩
def d_lgn : He.DefD := ⟨("_law_least_gone", none), "_law_least_gone", "_law_least_gone", defArgs sLgn, defBody sLgn, defScope sLgn, [], []⟩
def d_clo : He.DefD := ⟨("_law_closure", none), "_law_closure", "_law_closure", defArgs sClo, defBody sClo, defScope sClo, [], []⟩
def d_rof : He.DefD := ⟨("_law_row_of", none), "_law_row_of", "_law_row_of", defArgs sRof, defBody sRof, defScope sRof, [], []⟩
def d_sha : He.DefD := ⟨("_law_shaped", none), "_law_shaped", "_law_shaped", defArgs sSha, defBody sSha, defScope sSha, [], []⟩
def d_gab : He.DefD := ⟨("_law_gone_above", none), "_law_gone_above", "_law_gone_above", defArgs sGa2, defBody sGa2, defScope sGa2, [], []⟩
def d_vri : He.DefD := ⟨("_law_values_right", none), "_law_values_right", "_law_values_right", defArgs sVri, defBody sVri, defScope sVri, [], []⟩
def d_ase : He.DefD := ⟨("_law_any_service", none), "_law_any_service", "_law_any_service", defArgs sAse, defBody sAse, defScope sAse, [], []⟩
def d_who : He.DefD := ⟨("_law_whole", none), "_law_whole", "_law_whole", defArgs sWho, defBody sWho, defScope sWho, [], []⟩
def d_lfo : He.DefD := ⟨("_law_form", none), "_law_form", "_law_form", defArgs sFrm, defBody sFrm, defScope sFrm, [], []⟩
def d_isf : He.DefD := ⟨("_law_is_form", none), "_law_is_form", "_law_is_form", defArgs sIsf, defBody sIsf, defScope sIsf, [], []⟩
def d_par : He.DefD := ⟨("_law_parcelled", none), "_law_parcelled", "_law_parcelled", defArgs sPar, defBody sPar, defScope sPar, [], []⟩
def d_mor : He.DefD := ⟨("_law_more_at_once", none), "_law_more_at_once", "_law_more_at_once", defArgs sMor, defBody sMor, defScope sMor, [], []⟩
def d_lim : He.DefD := ⟨("_law_limit_right", none), "_law_limit_right", "_law_limit_right", defArgs sLim, defBody sLim, defScope sLim, [], []⟩
def d_law : He.DefD := ⟨("law", none), "law", "law", defArgs sLaw, defBody sLaw, defScope sLaw, [], []⟩
def d_EBadCurve : He.DefD := ⟨("BadCurve", some "__init__"), "__init__", "BadCurve.__init__", defArgs sE_BadCurve, defBody sE_BadCurve, defScope sE_BadCurve, [], []⟩
def d_EBadNumber : He.DefD := ⟨("BadNumber", some "__init__"), "__init__", "BadNumber.__init__", defArgs sE_BadNumber, defBody sE_BadNumber, defScope sE_BadNumber, [], []⟩
def d_ETooMany : He.DefD := ⟨("TooMany", some "__init__"), "__init__", "TooMany.__init__", defArgs sE_TooMany, defBody sE_TooMany, defScope sE_TooMany, [], []⟩
def fnK : List He.DefD := [d_num, d_are, d_from, d_isl, d_nnm, d_ini, d_eqc, d_abv, d_sta, d_fal, d_frm, d_stp, d_made, d_ncu, d_has, d_fne, d_reg, d_fst, d_beh, d_vls, d_gap, d_lab, d_lif, d_isr, d_nro, d_rng, d_whp, d_psv, d_ppr, d_iru, d_nru, d_rwt, d_lsu, d_srw, d_lle, d_sbr, d_ksv, d_beg, d_mix, d_tak, d_pic, d_cau, d_sts, d_ske, d_mad, d_att, d_le2, d_plu, d_sma, d_fno, d_sat, d_lgn, d_clo, d_rof, d_sha, d_gab, d_vri, d_ase, d_who, d_lfo, d_isf, d_par, d_mor, d_lim, d_law, d_EBadCurve, d_EBadNumber, d_ETooMany]
def moreB (K : PySem.W.Frag) : Bool := curB K (He.ga K "Curve") (He.fAd K ("Curve", some "__init__")) (He.fAd K ("Curve", some "__eq__")) && (WH.errX K (He.ga K "BadCurve") (He.fAd K ("BadCurve", some "__init__")) "part" && (WH.errX K (He.ga K "BadNumber") (He.fAd K ("BadNumber", some "__init__")) "part" && (WH.errX K (He.ga K "TooMany") (He.fAd K ("TooMany", some "__init__")) "most" && (exG K (He.ga K "BadCurve") (He.ga K "WaitError") && (exG K (He.ga K "BadNumber") (He.ga K "WaitError") && (exG K (He.ga K "TooMany") (He.ga K "WaitError") && (plainY K (He.ga K "BadRow") (He.ga K "WaitError") && (plainY K (He.ga K "BadRun") (He.ga K "WaitError") && (kitG K (He.ga K "Curve") && (kitH K (He.ga K "Curve") && (decide ((WH.ctOf K "law").2 ≠ (WH.ctOf K "_law_limit_right").2) && (decide (PySem.W.nsIn K mainGlobals "gcd" = some (some (.builtin "math.gcd")))))))))))))))
abbrev R : PySem.W.OpenRow := PySem.W.OpenLaw.row PySem.Challenge.rw_worstwait_k33_whole_parcels
abbrev hk : PySem.W.Hook := WH.hookX csN msN fsN tfN faK fnK moreB
def ob (s : PySem.W.SharedT) : He.AlD × Bool := WH.obsX csN msN fsN tfN faK fnK moreB (HandSHeadRun.getT s)
theorem ob_eq (s : PySem.W.SharedT) : ob s = hk.obs s.abs := WH.obsX_eq (HandSHeadRun.getT_eq s)
end WK
end

section
set_option Elab.async false
set_option linter.all false
set_option maxRecDepth 100000
set_option maxHeartbeats 0
namespace WK
open PySem L2 WW WT WG WL WV WC
theorem run (w : World) : HandSHeadRun.RunEqI R (PySem.W.view R.prog [0, 88]) hk ob 10000 lsN w := by
  unfold HandSHeadRun.RunEqI
  kernel_rfl
end WK
end

section
set_option Elab.async false
set_option linter.all false
set_option maxRecDepth 100000
set_option maxHeartbeats 0
namespace WK
open PySem L2 WW WT WG WL WV WC
theorem facts {l : PySem.W.OpenLaw} {w : World} {h : Heap} {K : PySem.W.Frag} {mg : Str → Option Value} {fa : Addr} (X : K.In h) (G : h.Ns mainGlobals mg) (hfa : mg "law" = some (.ref fa)) (c : He.SaysD faK fnK K) (hB : moreB K = true) (hT : WH.TabsIn h tfN K) :
    WH.LawAt l w 12 63 "script" mg fa h := by
  obtain ⟨g_num, D_num⟩ := c.def_ 0 (d := d_num) rfl
  have F_num := WH.fun_of (st := sNum) D_num
  have b_num : Binds K g_num ["thing"] [] := F_num.binds fun _ _ _ _ _ _ us hl => match us, hl with | [_], _ => rfl
  have m_num := He.glo_ok X G (c.fact 0 (f := .glo "is_number") rfl)
  obtain ⟨g_are, D_are⟩ := c.def_ 1 (d := d_are) rfl
  have F_are := WH.fun_of (st := sAre) D_are
  have b_are : Binds K g_are ["row"] [] := F_are.binds fun _ _ _ _ _ _ us hl => match us, hl with | [_], _ => rfl
  have m_are := He.glo_ok X G (c.fact 1 (f := .glo "are_numbers") rfl)
  obtain ⟨g_from, D_from⟩ := c.def_ 2 (d := d_from) rfl
  have F_from := WH.fun_of (st := sFrom) D_from
  have b_from : Binds K g_from ["thing", "low", "high"] [] := F_from.binds fun _ _ _ _ _ _ us hl => match us, hl with | [_, _, _], _ => rfl
  have m_from := He.glo_ok X G (c.fact 2 (f := .glo "is_from") rfl)
  obtain ⟨g_isl, D_isl⟩ := c.def_ 3 (d := d_isl) rfl
  have F_isl := WH.fun_of (st := sIsList) D_isl
  have b_isl : Binds K g_isl ["thing"] [] := F_isl.binds fun _ _ _ _ _ _ us hl => match us, hl with | [_], _ => rfl
  have m_isl := He.glo_ok X G (c.fact 3 (f := .glo "is_list") rfl)
  obtain ⟨g_nnm, D_nnm⟩ := c.def_ 4 (d := d_nnm) rfl
  have F_nnm := WH.fun_of (st := sNeedNum) D_nnm
  have b_nnm : Binds K g_nnm ["thing", "low", "high", "part"] [] := F_nnm.binds fun _ _ _ _ _ _ us hl => match us, hl with | [_, _, _, _], _ => rfl
  have m_nnm := He.glo_ok X G (c.fact 4 (f := .glo "need_number") rfl)
  obtain ⟨g_ini, D_ini⟩ := c.def_ 5 (d := d_ini) rfl
  have F_ini := WH.fun_of (st := sInit) D_ini
  have b_ini : Binds K g_ini ["self", "start", "period", "growth"] [] := F_ini.binds fun _ _ _ _ _ _ us hl => match us, hl with | [_, _, _, _], _ => rfl
  obtain ⟨g_eqc, D_eqc⟩ := c.def_ 6 (d := d_eqc) rfl
  have F_eqc := WH.fun_of (st := sEq) D_eqc
  have b_eqc : Binds K g_eqc ["self", "other"] [] := F_eqc.binds fun _ _ _ _ _ _ us hl => match us, hl with | [_, _], _ => rfl
  obtain ⟨g_abv, D_abv⟩ := c.def_ 7 (d := d_abv) rfl
  have F_abv := WH.fun_of (st := sAbove) D_abv
  have b_abv : Binds K g_abv ["one", "two"] [] := F_abv.binds fun _ _ _ _ _ _ us hl => match us, hl with | [_, _], _ => rfl
  have m_abv := He.glo_ok X G (c.fact 5 (f := .glo "is_above") rfl)
  obtain ⟨g_sta, D_sta⟩ := c.def_ 8 (d := d_sta) rfl
  have F_sta := WH.fun_of (st := sStart) D_sta
  have b_sta : Binds K g_sta ["thing"] [] := F_sta.binds fun _ _ _ _ _ _ us hl => match us, hl with | [_], _ => rfl
  have m_sta := He.glo_ok X G (c.fact 6 (f := .glo "is_start") rfl)
  obtain ⟨g_fal, D_fal⟩ := c.def_ 9 (d := d_fal) rfl
  have F_fal := WH.fun_of (st := sFalls) D_fal
  have b_fal : Binds K g_fal ["start", "period", "growth"] [] := F_fal.binds fun _ _ _ _ _ _ us hl => match us, hl with | [_, _, _], _ => rfl
  have m_fal := He.glo_ok X G (c.fact 7 (f := .glo "falls_behind") rfl)
  obtain ⟨g_frm, D_frm⟩ := c.def_ 10 (d := d_frm) rfl
  have F_frm := WH.fun_of (st := sForm) D_frm
  have b_frm : Binds K g_frm ["row", "period", "growth"] [] := F_frm.binds fun _ _ _ _ _ _ us hl => match us, hl with | [_, _, _], _ => rfl
  have m_frm := He.glo_ok X G (c.fact 8 (f := .glo "least_form") rfl)
  obtain ⟨g_stp, D_stp⟩ := c.def_ 11 (d := d_stp) rfl
  have F_stp := WH.fun_of (st := sStep) D_stp
  have b_stp : Binds K g_stp ["row", "period", "growth"] [] := F_stp.binds fun _ _ _ _ _ _ us hl => match us, hl with | [_, _, _], _ => rfl
  have m_stp := He.glo_ok X G (c.fact 9 (f := .glo "least_step") rfl)
  obtain ⟨g_made, D_made⟩ := c.def_ 12 (d := d_made) rfl
  have F_made := WH.fun_of (st := sMadeC) D_made
  have b_made : Binds K g_made ["row", "period", "growth"] [] := F_made.binds fun _ _ _ _ _ _ us hl => match us, hl with | [_, _, _], _ => rfl
  have m_made := He.glo_ok X G (c.fact 10 (f := .glo "made") rfl)
  obtain ⟨g_ncu, D_ncu⟩ := c.def_ 13 (d := d_ncu) rfl
  have F_ncu := WH.fun_of (st := sNeedCur) D_ncu
  have b_ncu : Binds K g_ncu ["thing"] [] := F_ncu.binds fun _ _ _ _ _ _ us hl => match us, hl with | [_], _ => rfl
  have m_ncu := He.glo_ok X G (c.fact 11 (f := .glo "need_curve") rfl)
  obtain ⟨g_has, D_has⟩ := c.def_ 14 (d := d_has) rfl
  have F_has := WH.fun_of (st := sHas) D_has
  have b_has : Binds K g_has ["curve"] [] := F_has.binds fun _ _ _ _ _ _ us hl => match us, hl with | [_], _ => rfl
  have m_has := He.glo_ok X G (c.fact 12 (f := .glo "has_none") rfl)
  obtain ⟨g_fne, D_fne⟩ := c.def_ 15 (d := d_fne) rfl
  have F_fne := WH.fun_of (st := sFne) D_fne
  have b_fne : Binds K g_fne ["curve"] [] := F_fne.binds fun _ _ _ _ _ _ us hl => match us, hl with | [_], _ => rfl
  have m_fne := He.glo_ok X G (c.fact 13 (f := .glo "first_none") rfl)
  obtain ⟨g_reg, D_reg⟩ := c.def_ 16 (d := d_reg) rfl
  have F_reg := WH.fun_of (st := sRegular) D_reg
  have b_reg : Binds K g_reg ["curve"] [] := F_reg.binds fun _ _ _ _ _ _ us hl => match us, hl with | [_], _ => rfl
  have m_reg := He.glo_ok X G (c.fact 14 (f := .glo "regular_from") rfl)
  obtain ⟨g_fst, D_fst⟩ := c.def_ 17 (d := d_fst) rfl
  have F_fst := WH.fun_of (st := sFirst) D_fst
  have b_fst : Binds K g_fst ["curve", "many"] [] := F_fst.binds fun _ _ _ _ _ _ us hl => match us, hl with | [_, _], _ => rfl
  have m_fst := He.glo_ok X G (c.fact 15 (f := .glo "first_values") rfl)
  obtain ⟨g_beh, D_beh⟩ := c.def_ 18 (d := d_beh) rfl
  have F_beh := WH.fun_of (st := sBehind) D_beh
  have b_beh : Binds K g_beh ["curve", "many"] [] := F_beh.binds fun _ _ _ _ _ _ us hl => match us, hl with | [_, _], _ => rfl
  have m_beh := He.glo_ok X G (c.fact 16 (f := .glo "values_behind") rfl)
  obtain ⟨g_vls, D_vls⟩ := c.def_ 19 (d := d_vls) rfl
  have F_vls := WH.fun_of (st := sValues) D_vls
  have b_vls : Binds K g_vls ["curve", "beats"] [] := F_vls.binds fun _ _ _ _ _ _ us hl => match us, hl with | [_, _], _ => rfl
  have m_vls := He.glo_ok X G (c.fact 17 (f := .glo "values") rfl)
  obtain ⟨g_gap, D_gap⟩ := c.def_ 20 (d := d_gap) rfl
  have F_gap := WH.fun_of (st := sGap) D_gap
  have b_gap : Binds K g_gap ["row", "other_row"] [] := F_gap.binds fun _ _ _ _ _ _ us hl => match us, hl with | [_, _], _ => rfl
  have m_gap := He.glo_ok X G (c.fact 18 (f := .glo "gaps_of") rfl)
  obtain ⟨g_lab, D_lab⟩ := c.def_ 21 (d := d_lab) rfl
  have F_lab := WH.fun_of (st := sLab) D_lab
  have b_lab : Binds K g_lab ["row", "other_row", "begin", "gain"] [] := F_lab.binds fun _ _ _ _ _ _ us hl => match us, hl with | [_, _, _, _], _ => rfl
  have m_lab := He.glo_ok X G (c.fact 19 (f := .glo "last_above") rfl)
  obtain ⟨g_lif, D_lif⟩ := c.def_ 22 (d := d_lif) rfl
  have F_lif := WH.fun_of (st := sLif) D_lif
  have b_lif : Binds K g_lif ["front", "row", "period", "growth", "low"] [] := F_lif.binds fun _ _ _ _ _ _ us hl => match us, hl with | [_, _, _, _, _], _ => rfl
  have m_lif := He.glo_ok X G (c.fact 20 (f := .glo "lifted") rfl)
  obtain ⟨g_isr, D_isr⟩ := c.def_ 23 (d := d_isr) rfl
  have F_isr := WH.fun_of (st := sIsRow) D_isr
  have b_isr : Binds K g_isr ["thing"] [] := F_isr.binds fun _ _ _ _ _ _ us hl => match us, hl with | [_], _ => rfl
  have m_isr := He.glo_ok X G (c.fact 21 (f := .glo "is_row") rfl)
  obtain ⟨g_nro, D_nro⟩ := c.def_ 24 (d := d_nro) rfl
  have F_nro := WH.fun_of (st := sNeedRow) D_nro
  have b_nro : Binds K g_nro ["thing"] [] := F_nro.binds fun _ _ _ _ _ _ us hl => match us, hl with | [_], _ => rfl
  have m_nro := He.glo_ok X G (c.fact 22 (f := .glo "need_row") rfl)
  obtain ⟨g_rng, D_rng⟩ := c.def_ 25 (d := d_rng) rfl
  have F_rng := WH.fun_of (st := sRun) D_rng
  have b_rng : Binds K g_rng ["traffic"] [] := F_rng.binds fun _ _ _ _ _ _ us hl => match us, hl with | [_], _ => rfl
  have m_rng := He.glo_ok X G (c.fact 23 (f := .glo "running") rfl)
  obtain ⟨g_whp, D_whp⟩ := c.def_ 26 (d := d_whp) rfl
  have F_whp := WH.fun_of (st := sWhp) D_whp
  have b_whp : Binds K g_whp ["row", "sizes"] [] := F_whp.binds fun _ _ _ _ _ _ us hl => match us, hl with | [_, _], _ => rfl
  have m_whp := He.glo_ok X G (c.fact 24 (f := .glo "whole_parcels") rfl)
  obtain ⟨g_psv, D_psv⟩ := c.def_ 27 (d := d_psv) rfl
  have F_psv := WH.fun_of (st := sPsv) D_psv
  have b_psv : Binds K g_psv ["service", "most"] [] := F_psv.binds fun _ _ _ _ _ _ us hl => match us, hl with | [_, _], _ => rfl
  have m_psv := He.glo_ok X G (c.fact 25 (f := .glo "parcel_service") rfl)
  obtain ⟨g_ppr, D_ppr⟩ := c.def_ 28 (d := d_ppr) rfl
  have F_ppr := WH.fun_of (st := sPpr) D_ppr
  have b_ppr : Binds K g_ppr ["promise", "most"] [] := F_ppr.binds fun _ _ _ _ _ _ us hl => match us, hl with | [_, _], _ => rfl
  have m_ppr := He.glo_ok X G (c.fact 26 (f := .glo "parcel_promise") rfl)
  obtain ⟨g_iru, D_iru⟩ := c.def_ 29 (d := d_iru) rfl
  have F_iru := WH.fun_of (st := sIsRun) D_iru
  have b_iru : Binds K g_iru ["thing"] [] := F_iru.binds fun _ _ _ _ _ _ us hl => match us, hl with | [_], _ => rfl
  have m_iru := He.glo_ok X G (c.fact 27 (f := .glo "is_run") rfl)
  obtain ⟨g_nru, D_nru⟩ := c.def_ 30 (d := d_nru) rfl
  have F_nru := WH.fun_of (st := sNeedRun) D_nru
  have b_nru : Binds K g_nru ["thing"] [] := F_nru.binds fun _ _ _ _ _ _ us hl => match us, hl with | [_], _ => rfl
  have m_nru := He.glo_ok X G (c.fact 28 (f := .glo "need_run") rfl)
  obtain ⟨g_rwt, D_rwt⟩ := c.def_ 31 (d := d_rwt) rfl
  have F_rwt := WH.fun_of (st := sWaits) D_rwt
  have b_rwt : Binds K g_rwt ["run"] [] := F_rwt.binds fun _ _ _ _ _ _ us hl => match us, hl with | [_], _ => rfl
  have m_rwt := He.glo_ok X G (c.fact 29 (f := .glo "run_waits") rfl)
  obtain ⟨g_lsu, D_lsu⟩ := c.def_ 32 (d := d_lsu) rfl
  have F_lsu := WH.fun_of (st := sLsu) D_lsu
  have b_lsu : Binds K g_lsu ["row", "other_row", "many"] [] := F_lsu.binds fun _ _ _ _ _ _ us hl => match us, hl with | [_, _, _], _ => rfl
  have m_lsu := He.glo_ok X G (c.fact 30 (f := .glo "least_sums") rfl)
  obtain ⟨g_srw, D_srw⟩ := c.def_ 33 (d := d_srw) rfl
  have F_srw := WH.fun_of (st := sSrw) D_srw
  have b_srw : Binds K g_srw ["service", "many"] [] := F_srw.binds fun _ _ _ _ _ _ us hl => match us, hl with | [_, _], _ => rfl
  have m_srw := He.glo_ok X G (c.fact 31 (f := .glo "service_row") rfl)
  obtain ⟨g_lle, D_lle⟩ := c.def_ 34 (d := d_lle) rfl
  have F_lle := WH.fun_of (st := sLle) D_lle
  have b_lle : Binds K g_lle ["came", "service"] [] := F_lle.binds fun _ _ _ _ _ _ us hl => match us, hl with | [_, _], _ => rfl
  have m_lle := He.glo_ok X G (c.fact 32 (f := .glo "least_left") rfl)
  obtain ⟨g_sbr, D_sbr⟩ := c.def_ 35 (d := d_sbr) rfl
  have F_sbr := WH.fun_of (st := sSbr) D_sbr
  have b_sbr : Binds K g_sbr ["run", "service"] [] := F_sbr.binds fun _ _ _ _ _ _ us hl => match us, hl with | [_, _], _ => rfl
  have m_sbr := He.glo_ok X G (c.fact 33 (f := .glo "service_break") rfl)
  obtain ⟨g_ksv, D_ksv⟩ := c.def_ 36 (d := d_ksv) rfl
  have F_ksv := WH.fun_of (st := sKsv) D_ksv
  have b_ksv : Binds K g_ksv ["run", "service"] [] := F_ksv.binds fun _ _ _ _ _ _ us hl => match us, hl with | [_, _], _ => rfl
  have m_ksv := He.glo_ok X G (c.fact 34 (f := .glo "keeps_service") rfl)
  obtain ⟨g_beg, D_beg⟩ := c.def_ 37 (d := d_beg) rfl
  have F_beg := WH.fun_of (st := sBegun) D_beg
  have b_beg : Binds K g_beg ["script"] [] := F_beg.binds fun _ _ _ _ _ _ us hl => match us, hl with | [_], _ => rfl
  have m_beg := He.glo_ok X G (c.fact 35 (f := .glo "_law_begun") rfl)
  obtain ⟨g_mix, D_mix⟩ := c.def_ 38 (d := d_mix) rfl
  have F_mix := WH.fun_of (st := sMixed) D_mix
  have b_mix : Binds K g_mix ["draw"] [] := F_mix.binds fun _ _ _ _ _ _ us hl => match us, hl with | [_], _ => rfl
  have m_mix := He.glo_ok X G (c.fact 36 (f := .glo "_law_mixed") rfl)
  obtain ⟨g_tak, D_tak⟩ := c.def_ 39 (d := d_tak) rfl
  have F_tak := WH.fun_of (st := sTake) D_tak
  have b_tak : Binds K g_tak ["draw", "amount"] [] := F_tak.binds fun _ _ _ _ _ _ us hl => match us, hl with | [_, _], _ => rfl
  have m_tak := He.glo_ok X G (c.fact 37 (f := .glo "_law_take") rfl)
  obtain ⟨g_pic, D_pic⟩ := c.def_ 40 (d := d_pic) rfl
  have F_pic := WH.fun_of (st := sPick) D_pic
  have b_pic : Binds K g_pic ["draw", "some"] [] := F_pic.binds fun _ _ _ _ _ _ us hl => match us, hl with | [_, _], _ => rfl
  have m_pic := He.glo_ok X G (c.fact 38 (f := .glo "_law_pick") rfl)
  obtain ⟨g_cau, D_cau⟩ := c.def_ 41 (d := d_cau) rfl
  have F_cau := WH.fun_of (st := sCaught) D_cau
  have b_cau : Binds K g_cau ["work"] [] := F_cau.binds fun _ _ _ _ _ _ us hl => match us, hl with | [_], _ => rfl
  have m_cau := He.glo_ok X G (c.fact 39 (f := .glo "_law_caught") rfl)
  obtain ⟨g_sts, D_sts⟩ := c.def_ 42 (d := d_sts) rfl
  have F_sts := WH.fun_of (st := sSteps) D_sts
  have b_sts : Binds K g_sts ["draw", "size", "most"] [] := F_sts.binds fun _ _ _ _ _ _ us hl => match us, hl with | [_, _, _], _ => rfl
  have m_sts := He.glo_ok X G (c.fact 40 (f := .glo "_law_steps") rfl)
  obtain ⟨g_ske, D_ske⟩ := c.def_ 43 (d := d_ske) rfl
  have F_ske := WH.fun_of (st := sSketch) D_ske
  have b_ske : Binds K g_ske ["draw", "long", "most"] [] := F_ske.binds fun _ _ _ _ _ _ us hl => match us, hl with | [_, _, _], _ => rfl
  have m_ske := He.glo_ok X G (c.fact 41 (f := .glo "_law_sketch") rfl)
  obtain ⟨g_mad, D_mad⟩ := c.def_ 44 (d := d_mad) rfl
  have F_mad := WH.fun_of (st := sMade) D_mad
  have b_mad : Binds K g_mad ["sketch"] [] := F_mad.binds fun _ _ _ _ _ _ us hl => match us, hl with | [_], _ => rfl
  have m_mad := He.glo_ok X G (c.fact 42 (f := .glo "_law_made") rfl)
  obtain ⟨g_att, D_att⟩ := c.def_ 45 (d := d_att) rfl
  have F_att := WH.fun_of (st := sAt) D_att
  have b_att : Binds K g_att ["sketch", "beat"] [] := F_att.binds fun _ _ _ _ _ _ us hl => match us, hl with | [_, _], _ => rfl
  have m_att := He.glo_ok X G (c.fact 43 (f := .glo "_law_at") rfl)
  obtain ⟨g_le2, D_le2⟩ := c.def_ 46 (d := d_le2) rfl
  have F_le2 := WH.fun_of (st := sLe2) D_le2
  have b_le2 : Binds K g_le2 ["one", "other"] [] := F_le2.binds fun _ _ _ _ _ _ us hl => match us, hl with | [_, _], _ => rfl
  have m_le2 := He.glo_ok X G (c.fact 44 (f := .glo "_law_is_least") rfl)
  obtain ⟨g_plu, D_plu⟩ := c.def_ 47 (d := d_plu) rfl
  have F_plu := WH.fun_of (st := sPlu) D_plu
  have b_plu : Binds K g_plu ["one", "other"] [] := F_plu.binds fun _ _ _ _ _ _ us hl => match us, hl with | [_, _], _ => rfl
  have m_plu := He.glo_ok X G (c.fact 45 (f := .glo "_law_plus") rfl)
  obtain ⟨g_sma, D_sma⟩ := c.def_ 48 (d := d_sma) rfl
  have F_sma := WH.fun_of (st := sSma) D_sma
  have b_sma : Binds K g_sma ["draw", "long_here", "most_here"] [] := F_sma.binds fun _ _ _ _ _ _ us hl => match us, hl with | [_, _, _], _ => rfl
  have m_sma := He.glo_ok X G (c.fact 46 (f := .glo "_law_small") rfl)
  obtain ⟨g_fno, D_fno⟩ := c.def_ 49 (d := d_fno) rfl
  have F_fno := WH.fun_of (st := sFno) D_fno
  have b_fno : Binds K g_fno ["sketch"] [] := F_fno.binds fun _ _ _ _ _ _ us hl => match us, hl with | [_], _ => rfl
  have m_fno := He.glo_ok X G (c.fact 47 (f := .glo "_law_from_nought") rfl)
  obtain ⟨g_sat, D_sat⟩ := c.def_ 50 (d := d_sat) rfl
  have F_sat := WH.fun_of (st := sSat) D_sat
  have b_sat : Binds K g_sat ["sketch", "beats"] [] := F_sat.binds fun _ _ _ _ _ _ us hl => match us, hl with | [_, _], _ => rfl
  have m_sat := He.glo_ok X G (c.fact 48 (f := .glo "_law_service_at") rfl)
  obtain ⟨g_lgn, D_lgn⟩ := c.def_ 51 (d := d_lgn) rfl
  have F_lgn := WH.fun_of (st := sLgn) D_lgn
  have b_lgn : Binds K g_lgn ["came_here", "sketch"] [] := F_lgn.binds fun _ _ _ _ _ _ us hl => match us, hl with | [_, _], _ => rfl
  have m_lgn := He.glo_ok X G (c.fact 49 (f := .glo "_law_least_gone") rfl)
  obtain ⟨g_clo, D_clo⟩ := c.def_ 52 (d := d_clo) rfl
  have F_clo := WH.fun_of (st := sClo) D_clo
  have b_clo : Binds K g_clo ["sketch", "beats"] [] := F_clo.binds fun _ _ _ _ _ _ us hl => match us, hl with | [_, _], _ => rfl
  have m_clo := He.glo_ok X G (c.fact 50 (f := .glo "_law_closure") rfl)
  obtain ⟨g_rof, D_rof⟩ := c.def_ 53 (d := d_rof) rfl
  have F_rof := WH.fun_of (st := sRof) D_rof
  have b_rof : Binds K g_rof ["draw", "size", "most_here"] [] := F_rof.binds fun _ _ _ _ _ _ us hl => match us, hl with | [_, _, _], _ => rfl
  have m_rof := He.glo_ok X G (c.fact 51 (f := .glo "_law_row_of") rfl)
  obtain ⟨g_sha, D_sha⟩ := c.def_ 54 (d := d_sha) rfl
  have F_sha := WH.fun_of (st := sSha) D_sha
  have b_sha : Binds K g_sha ["came_here", "promise_here"] [] := F_sha.binds fun _ _ _ _ _ _ us hl => match us, hl with | [_, _], _ => rfl
  have m_sha := He.glo_ok X G (c.fact 52 (f := .glo "_law_shaped") rfl)
  obtain ⟨g_gab, D_gab⟩ := c.def_ 55 (d := d_gab) rfl
  have F_gab := WH.fun_of (st := sGa2) D_gab
  have b_gab : Binds K g_gab ["draw", "came_here", "least_here"] [] := F_gab.binds fun _ _ _ _ _ _ us hl => match us, hl with | [_, _, _], _ => rfl
  have m_gab := He.glo_ok X G (c.fact 53 (f := .glo "_law_gone_above") rfl)
  obtain ⟨g_vri, D_vri⟩ := c.def_ 56 (d := d_vri) rfl
  have F_vri := WH.fun_of (st := sVri) D_vri
  have b_vri : Binds K g_vri ["thing", "row_here"] [] := F_vri.binds fun _ _ _ _ _ _ us hl => match us, hl with | [_, _], _ => rfl
  have m_vri := He.glo_ok X G (c.fact 54 (f := .glo "_law_values_right") rfl)
  obtain ⟨g_ase, D_ase⟩ := c.def_ 57 (d := d_ase) rfl
  have F_ase := WH.fun_of (st := sAse) D_ase
  have b_ase : Binds K g_ase ["draw"] [] := F_ase.binds fun _ _ _ _ _ _ us hl => match us, hl with | [_], _ => rfl
  have m_ase := He.glo_ok X G (c.fact 55 (f := .glo "_law_any_service") rfl)
  obtain ⟨g_who, D_who⟩ := c.def_ 58 (d := d_who) rfl
  have F_who := WH.fun_of (st := sWho) D_who
  have b_who : Binds K g_who ["row_here", "sizes_here"] [] := F_who.binds fun _ _ _ _ _ _ us hl => match us, hl with | [_, _], _ => rfl
  have m_who := He.glo_ok X G (c.fact 56 (f := .glo "_law_whole") rfl)
  obtain ⟨g_lfo, D_lfo⟩ := c.def_ 59 (d := d_lfo) rfl
  have F_lfo := WH.fun_of (st := sFrm) D_lfo
  have b_lfo : Binds K g_lfo ["sketch"] [] := F_lfo.binds fun _ _ _ _ _ _ us hl => match us, hl with | [_], _ => rfl
  have m_lfo := He.glo_ok X G (c.fact 57 (f := .glo "_law_form") rfl)
  obtain ⟨g_isf, D_isf⟩ := c.def_ 60 (d := d_isf) rfl
  have F_isf := WH.fun_of (st := sIsf) D_isf
  have b_isf : Binds K g_isf ["thing", "sketch"] [] := F_isf.binds fun _ _ _ _ _ _ us hl => match us, hl with | [_, _], _ => rfl
  have m_isf := He.glo_ok X G (c.fact 58 (f := .glo "_law_is_form") rfl)
  obtain ⟨g_par, D_par⟩ := c.def_ 61 (d := d_par) rfl
  have F_par := WH.fun_of (st := sPar) D_par
  have b_par : Binds K g_par ["sketch", "less_here"] [] := F_par.binds fun _ _ _ _ _ _ us hl => match us, hl with | [_, _], _ => rfl
  have m_par := He.glo_ok X G (c.fact 59 (f := .glo "_law_parcelled") rfl)
  obtain ⟨g_mor, D_mor⟩ := c.def_ 62 (d := d_mor) rfl
  have F_mor := WH.fun_of (st := sMor) D_mor
  have b_mor : Binds K g_mor ["sketch", "more_here"] [] := F_mor.binds fun _ _ _ _ _ _ us hl => match us, hl with | [_, _], _ => rfl
  have m_mor := He.glo_ok X G (c.fact 60 (f := .glo "_law_more_at_once") rfl)
  obtain ⟨g_lim, D_lim⟩ := c.def_ 63 (d := d_lim) rfl
  have F_lim := WH.fun_of (st := sLim) D_lim
  have b_lim : Binds K g_lim ["draw"] [] := F_lim.binds fun _ _ _ _ _ _ us hl => match us, hl with | [_], _ => rfl
  have m_lim := He.glo_ok X G (c.fact 61 (f := .glo "_law_limit_right") rfl)
  obtain ⟨g_law, D_law⟩ := c.def_ 64 (d := d_law) rfl
  have F_law := WH.fun_of (st := sLaw) D_law
  have b_law : Binds K g_law ["script"] [] := F_law.binds fun _ _ _ _ _ _ us hl => match us, hl with | [_], _ => rfl
  have m_law := He.glo_ok X G (c.fact 62 (f := .glo "law") rfl)
  obtain ⟨g_EBadCurve, D_EBadCurve⟩ := c.def_ 65 (d := d_EBadCurve) rfl
  have F_EBadCurve := WH.fun_of (st := sE_BadCurve) D_EBadCurve
  have b_EBadCurve : Binds K g_EBadCurve ["self", "part"] [] := F_EBadCurve.binds fun _ _ _ _ _ _ us hl => match us, hl with | [_, _], _ => rfl
  obtain ⟨g_EBadNumber, D_EBadNumber⟩ := c.def_ 66 (d := d_EBadNumber) rfl
  have F_EBadNumber := WH.fun_of (st := sE_BadNumber) D_EBadNumber
  have b_EBadNumber : Binds K g_EBadNumber ["self", "part"] [] := F_EBadNumber.binds fun _ _ _ _ _ _ us hl => match us, hl with | [_, _], _ => rfl
  obtain ⟨g_ETooMany, D_ETooMany⟩ := c.def_ 67 (d := d_ETooMany) rfl
  have F_ETooMany := WH.fun_of (st := sE_TooMany) D_ETooMany
  have b_ETooMany : Binds K g_ETooMany ["self", "most"] [] := F_ETooMany.binds fun _ _ _ _ _ _ us hl => match us, hl with | [_, _], _ => rfl
  have m_WaitError := He.glo_ok X G (c.fact 63 (f := .glo "WaitError") rfl)
  have m_BadCurve := He.glo_ok X G (c.fact 64 (f := .glo "BadCurve") rfl)
  have m_BadNumber := He.glo_ok X G (c.fact 65 (f := .glo "BadNumber") rfl)
  have m_BadRow := He.glo_ok X G (c.fact 66 (f := .glo "BadRow") rfl)
  have m_BadRun := He.glo_ok X G (c.fact 67 (f := .glo "BadRun") rfl)
  have m_TooMany := He.glo_ok X G (c.fact 68 (f := .glo "TooMany") rfl)
  have m_Curve := He.glo_ok X G (c.fact 69 (f := .glo "Curve") rfl)
  have n_isinstance := He.free_ok X G (c.fact 70 (f := .free "isinstance") rfl)
  have n_int := He.free_ok X G (c.fact 71 (f := .free "int") rfl)
  have n_bool := He.free_ok X G (c.fact 72 (f := .free "bool") rfl)
  have n_list := He.free_ok X G (c.fact 73 (f := .free "list") rfl)
  have n_tuple := He.free_ok X G (c.fact 74 (f := .free "tuple") rfl)
  have n_len := He.free_ok X G (c.fact 75 (f := .free "len") rfl)
  have n_all := He.free_ok X G (c.fact 76 (f := .free "all") rfl)
  have n_sorted := He.free_ok X G (c.fact 77 (f := .free "sorted") rfl)
  have n_zip := He.free_ok X G (c.fact 78 (f := .free "zip") rfl)
  have n_min := He.free_ok X G (c.fact 79 (f := .free "min") rfl)
  have n_range := He.free_ok X G (c.fact 80 (f := .free "range") rfl)
  have n_type := He.free_ok X G (c.fact 81 (f := .free "type") rfl)
  have n_abs := He.free_ok X G (c.fact 82 (f := .free "abs") rfl)
  have n_repr := He.free_ok X G (c.fact 83 (f := .free "repr") rfl)
  have n_max := He.free_ok X G (c.fact 84 (f := .free "max") rfl)
  have n_enumerate := He.free_ok X G (c.fact 85 (f := .free "enumerate") rfl)
  have n_sum := He.free_ok X G (c.fact 86 (f := .free "sum") rfl)
  have t_MOST := He.int_ok X G (c.fact 87 (f := .int "MOST" 1000000000) rfl)
  have t_MOST_GIVEN := He.int_ok X G (c.fact 88 (f := .int "MOST_GIVEN" 400) rfl)
  have t_MOST_MADE := He.int_ok X G (c.fact 89 (f := .int "MOST_MADE" 4000) rfl)
  have t_FEW := He.int_ok X G (c.fact 90 (f := .int "FEW" 12) rfl)
  have t_MOST_BEATS := He.int_ok X G (c.fact 91 (f := .int "MOST_BEATS" 1000) rfl)
  have t_MOST_SIZES := He.int_ok X G (c.fact 92 (f := .int "MOST_SIZES" 400) rfl)
  have t_MOST_SIZE := He.int_ok X G (c.fact 93 (f := .int "MOST_SIZE" 1000000) rfl)
  have e := hfa.symm.trans m_law
  cases e
  have hB0 := Bool.and_eq_true_iff.mp hB
  have hB1 := Bool.and_eq_true_iff.mp hB0.2
  have hB2 := Bool.and_eq_true_iff.mp hB1.2
  have hB3 := Bool.and_eq_true_iff.mp hB2.2
  have hB4 := Bool.and_eq_true_iff.mp hB3.2
  have hB5 := Bool.and_eq_true_iff.mp hB4.2
  have hB6 := Bool.and_eq_true_iff.mp hB5.2
  have hB7 := Bool.and_eq_true_iff.mp hB6.2
  have hB8 := Bool.and_eq_true_iff.mp hB7.2
  have hB9 := Bool.and_eq_true_iff.mp hB8.2
  have hB10 := Bool.and_eq_true_iff.mp hB9.2
  have hB11 := Bool.and_eq_true_iff.mp hB10.2
  have U := curB_ok hB0.1 m_Curve
  have z_BadCurve := hB1.1
  have z_BadNumber := hB2.1
  have z_TooMany := hB3.1
  have z_EB := hB4.1
  have z_EN := hB5.1
  have z_EM := hB6.1
  have z_PR := hB7.1
  have z_PN := hB8.1
  have z_K := hB9.1
  have z_H := hB10.1
  have z_tb := hB11.1
  have z_i_gcd := hB11.2
  have i_gcd : mg "gcd" = some (.builtin "math.gcd") := PySem.W.mg_of X G (of_decide_eq_true z_i_gcd)
  have hTf : ∀ p ∈ tfN.map (WH.ctOf K), h.get? p.2 = some WH.tab0 ∧ K.lookup p.2 = none ∧ PySem.W.CodeHd h p.1 p.2 := by
    intro p hp
    obtain ⟨x, hx, rfl⟩ := List.mem_map.mp hp
    exact ⟨hT.emp x hx, hT.out x hx, PySem.W.codeHd_of_K X (hT.hd x hx)⟩
  refine ⟨K, g_law, tfN.map (WH.ctOf K), spLaw K (tfN.map (WH.ctOf K)), X, fun p hp => (hTf p hp).1, fun p hp => (hTf p hp).2.1, fun p hp => (hTf p hp).2.2,
    fun s v => (FunD.bindsA (ps := ["script"]) D_law fun _ _ _ _ _ _ us hl => match us, hl with | [_], _ => rfl) s [v] rfl, fun H a ns hl hH hS => ⟨a, ns, rfl, hS, hl, hH, fun _ => rfl⟩, fun base _ _ TB => ?_⟩
  have T_BadCurve : WT.ErrT l.prog w K mg base "BadCurve" "part" _ _ _ := WH.errX_ok z_BadCurve m_BadCurve (okE_BadCurve F_EBadCurve) b_EBadCurve
  have T_BadNumber : WT.ErrT l.prog w K mg base "BadNumber" "part" _ _ _ := WH.errX_ok z_BadNumber m_BadNumber (okE_BadNumber F_EBadNumber) b_EBadNumber
  have T_TooMany : WT.ErrT l.prog w K mg base "TooMany" "most" _ _ _ := WH.errX_ok z_TooMany m_TooMany (okE_TooMany F_ETooMany) b_ETooMany
  have T : CurG mg := ⟨n_isinstance, n_int, n_bool, n_list, n_tuple, n_len, n_all, n_sorted, n_zip, n_min, n_range, n_type, t_MOST, t_MOST_GIVEN, i_gcd⟩
  have PG : PreG mg := ⟨n_abs, n_int, n_len⟩
  have EB := exG_ok z_EB T_BadCurve
  have EN := exG_ok z_EN T_BadNumber
  have EM := exG_ok z_EM T_TooMany
  obtain ⟨PR, r1, r2, r3⟩ := plainY_ok z_PR m_BadRow
  obtain ⟨PN, _, _, _⟩ := plainY_ok z_PN m_BadRun
  obtain ⟨k1, k2, k3⟩ := kitG_ok z_K
  obtain ⟨kd, kt⟩ := kitH_ok z_H
  have ntb : (WH.ctOf K "law").2 ≠ (WH.ctOf K "_law_limit_right").2 := of_decide_eq_true z_tb
  have mem1 : WH.ctOf K "law" ∈ tfN.map (WH.ctOf K) := List.mem_cons_self ..
  have mem2 : WH.ctOf K "_law_limit_right" ∈ tfN.map (WH.ctOf K) := List.mem_cons_of_mem _ (List.mem_cons_self ..)
  have o_num := ok_num (P := l.prog) (w := w) (base := base) F_num T
  have c_num : WC.Cal l.prog w K mg base _ _ _ _ _ := ⟨⟨_, _, o_num, F_num.kp, b_num, m_num⟩⟩
  have o_are := ok_are F_are T o_num F_num.kp b_num m_num
  have c_are : WC.Cal l.prog w K mg base _ _ _ _ _ := ⟨⟨_, _, o_are, F_are.kp, b_are, m_are⟩⟩
  have o_from := ok_from F_from o_num F_num.kp b_num m_num
  have c_from : WC.Cal l.prog w K mg base _ _ _ _ _ := ⟨⟨_, _, o_from, F_from.kp, b_from, m_from⟩⟩
  have o_isl := ok_isList (P := l.prog) (w := w) (base := base) F_isl T
  have c_isl : WC.Cal l.prog w K mg base _ _ _ _ _ := ⟨⟨_, _, o_isl, F_isl.kp, b_isl, m_isl⟩⟩
  have o_nnm := ok_needNum F_nnm T_BadNumber o_from F_from.kp b_from m_from
  have c_nnm : WC.Cal l.prog w K mg base _ _ _ _ _ := ⟨⟨_, _, o_nnm, F_nnm.kp, b_nnm, m_nnm⟩⟩
  have o_eqc := ok_eq (P := l.prog) (w := w) (base := base) F_eqc T U
  have o_abv := ok_above (P := l.prog) (w := w) (mg := mg) (base := base) F_abv
  have c_abv : WC.Cal l.prog w K mg base _ _ _ _ _ := ⟨⟨_, _, o_abv, F_abv.kp, b_abv, m_abv⟩⟩
  have o_sta := ok_start F_sta T o_isl F_isl.kp b_isl m_isl o_are F_are.kp b_are m_are
  have c_sta : WC.Cal l.prog w K mg base _ _ _ _ _ := ⟨⟨_, _, o_sta, F_sta.kp, b_sta, m_sta⟩⟩
  have o_fal := ok_falls F_fal T o_abv F_abv.kp b_abv m_abv
  have c_fal : WC.Cal l.prog w K mg base _ _ _ _ _ := ⟨⟨_, _, o_fal, F_fal.kp, b_fal, m_fal⟩⟩
  have o_stp := ok_step (P := l.prog) (w := w) (base := base) F_stp T
  have c_stp : WC.Cal l.prog w K mg base _ _ _ _ _ := ⟨⟨_, _, o_stp, F_stp.kp, b_stp, m_stp⟩⟩
  have o_ncu := ok_needCur F_ncu T U T_BadCurve
  have c_ncu : WC.Cal l.prog w K mg base _ _ _ _ _ := ⟨⟨_, _, o_ncu, F_ncu.kp, b_ncu, m_ncu⟩⟩
  have o_has := ok_has (P := l.prog) (w := w) (base := base) F_has U
  have c_has : WC.Cal l.prog w K mg base _ _ _ _ _ := ⟨⟨_, _, o_has, F_has.kp, b_has, m_has⟩⟩
  have o_fne := ok_fne (P := l.prog) (w := w) (base := base) F_fne T U
  have c_fne : WC.Cal l.prog w K mg base _ _ _ _ _ := ⟨⟨_, _, o_fne, F_fne.kp, b_fne, m_fne⟩⟩
  have o_reg := ok_regular (P := l.prog) (w := w) (base := base) F_reg T U
  have c_reg : WC.Cal l.prog w K mg base _ _ _ _ _ := ⟨⟨_, _, o_reg, F_reg.kp, b_reg, m_reg⟩⟩
  have o_beh := ok_behind F_beh T t_FEW U o_reg F_reg.kp b_reg m_reg
  have c_beh : WC.Cal l.prog w K mg base _ _ _ _ _ := ⟨⟨_, _, o_beh, F_beh.kp, b_beh, m_beh⟩⟩
  have o_gap := ok_gap (P := l.prog) (w := w) (base := base) F_gap T
  have c_gap : WC.Cal l.prog w K mg base _ _ _ _ _ := ⟨⟨_, _, o_gap, F_gap.kp, b_gap, m_gap⟩⟩
  have o_lab := ok_lab F_lab T n_max c_gap
  have c_lab : WC.Cal l.prog w K mg base _ _ _ _ _ := ⟨⟨_, _, o_lab, F_lab.kp, b_lab, m_lab⟩⟩
  have o_isr := ok_isRow F_isr T t_MOST_BEATS o_isl F_isl.kp b_isl m_isl o_num F_num.kp b_num m_num
  have c_isr : WC.Cal l.prog w K mg base _ _ _ _ _ := ⟨⟨_, _, o_isr, F_isr.kp, b_isr, m_isr⟩⟩
  have o_nro := ok_needRow F_nro PR o_isr F_isr.kp b_isr m_isr
  have c_nro : WC.Cal l.prog w K mg base _ _ _ _ _ := ⟨⟨_, _, o_nro, F_nro.kp, b_nro, m_nro⟩⟩
  have o_rng := ok_run (P := l.prog) (w := w) (mg := mg) (base := base) F_rng
  have c_rng : WC.Cal l.prog w K mg base _ _ _ _ _ := ⟨⟨_, _, o_rng, F_rng.kp, b_rng, m_rng⟩⟩
  have o_whp := ok_whp F_whp T t_MOST_SIZES t_MOST_SIZE T_BadNumber c_nro c_isl c_from c_rng
  have c_whp : WC.Cal l.prog w K mg base _ _ _ _ _ := ⟨⟨_, _, o_whp, F_whp.kp, b_whp, m_whp⟩⟩
  have o_iru := ok_isRun F_iru T o_isr F_isr.kp b_isr m_isr
  have c_iru : WC.Cal l.prog w K mg base _ _ _ _ _ := ⟨⟨_, _, o_iru, F_iru.kp, b_iru, m_iru⟩⟩
  have o_nru := ok_needRun F_nru PN o_iru F_iru.kp b_iru m_iru
  have c_nru : WC.Cal l.prog w K mg base _ _ _ _ _ := ⟨⟨_, _, o_nru, F_nru.kp, b_nru, m_nru⟩⟩
  have o_rwt := ok_waits F_rwt T n_max n_enumerate o_nru F_nru.kp b_nru m_nru
  have c_rwt : WC.Cal l.prog w K mg base _ _ _ _ _ := ⟨⟨_, _, o_rwt, F_rwt.kp, b_rwt, m_rwt⟩⟩
  have o_lsu := ok_lsu (P := l.prog) (w := w) (base := base) F_lsu T n_max
  have c_lsu : WC.Cal l.prog w K mg base _ _ _ _ _ := ⟨⟨_, _, o_lsu, F_lsu.kp, b_lsu, m_lsu⟩⟩
  have o_beg := ok_begun (P := l.prog) (w := w) (base := base) F_beg PG
  have c_beg : WC.Cal l.prog w K mg base _ _ _ _ _ := ⟨⟨_, _, o_beg, F_beg.kp, b_beg, m_beg⟩⟩
  have o_mix := ok_mixed (P := l.prog) (w := w) (base := base) F_mix PG
  have c_mix : WC.Cal l.prog w K mg base _ _ _ _ _ := ⟨⟨_, _, o_mix, F_mix.kp, b_mix, m_mix⟩⟩
  have o_tak := ok_take F_tak PG o_mix F_mix.kp b_mix m_mix
  have c_tak : WC.Cal l.prog w K mg base _ _ _ _ _ := ⟨⟨_, _, o_tak, F_tak.kp, b_tak, m_tak⟩⟩
  have o_pic := ok_pick F_pic PG o_tak F_tak.kp b_tak m_tak
  have c_pic : WC.Cal l.prog w K mg base _ _ _ _ _ := ⟨⟨_, _, o_pic, F_pic.kp, b_pic, m_pic⟩⟩
  have o_sts := ok_steps F_sts T o_pic F_pic.kp b_pic m_pic o_tak F_tak.kp b_tak m_tak
  have c_sts : WC.Cal l.prog w K mg base _ _ _ _ _ := ⟨⟨_, _, o_sts, F_sts.kp, b_sts, m_sts⟩⟩
  have o_ske := ok_sketch F_ske T o_pic F_pic.kp b_pic m_pic o_tak F_tak.kp b_tak m_tak o_sts F_sts.kp b_sts m_sts
  have c_ske : WC.Cal l.prog w K mg base _ _ _ _ _ := ⟨⟨_, _, o_ske, F_ske.kp, b_ske, m_ske⟩⟩
  have o_att := ok_at (P := l.prog) (w := w) (base := base) F_att T
  have c_att : WC.Cal l.prog w K mg base _ _ _ _ _ := ⟨⟨_, _, o_att, F_att.kp, b_att, m_att⟩⟩
  have o_le2 := ok_le2 (P := l.prog) (w := w) (mg := mg) (base := base) F_le2
  have c_le2 : WC.Cal l.prog w K mg base _ _ _ _ _ := ⟨⟨_, _, o_le2, F_le2.kp, b_le2, m_le2⟩⟩
  have o_plu := ok_plu (P := l.prog) (w := w) (mg := mg) (base := base) F_plu
  have c_plu : WC.Cal l.prog w K mg base _ _ _ _ _ := ⟨⟨_, _, o_plu, F_plu.kp, b_plu, m_plu⟩⟩
  have o_fno := ok_fno F_fno T n_max c_att
  have c_fno : WC.Cal l.prog w K mg base _ _ _ _ _ := ⟨⟨_, _, o_fno, F_fno.kp, b_fno, m_fno⟩⟩
  have o_sat := ok_sat F_sat c_att
  have c_sat : WC.Cal l.prog w K mg base _ _ _ _ _ := ⟨⟨_, _, o_sat, F_sat.kp, b_sat, m_sat⟩⟩
  have o_lgn := ok_lgn F_lgn T c_plu c_sat
  have c_lgn : WC.Cal l.prog w K mg base _ _ _ _ _ := ⟨⟨_, _, o_lgn, F_lgn.kp, b_lgn, m_lgn⟩⟩
  have o_clo := ok_clo F_clo T c_att ⟨⟨_, _, ok_pl2 (P := l.prog) (w := w) (mg := mg) (base := base) F_plu, F_plu.kp, b_plu, m_plu⟩⟩ c_le2
  have c_clo : WC.Cal l.prog w K mg base _ _ _ _ _ := ⟨⟨_, _, o_clo, F_clo.kp, b_clo, m_clo⟩⟩
  have o_rof := ok_rof F_rof T c_tak c_pic
  have c_rof : WC.Cal l.prog w K mg base _ _ _ _ _ := ⟨⟨_, _, o_rof, F_rof.kp, b_rof, m_rof⟩⟩
  have o_sha := ok_sha F_sha T ⟨⟨_, _, ok_pl2 (P := l.prog) (w := w) (mg := mg) (base := base) F_plu, F_plu.kp, b_plu, m_plu⟩⟩
  have c_sha : WC.Cal l.prog w K mg base _ _ _ _ _ := ⟨⟨_, _, o_sha, F_sha.kp, b_sha, m_sha⟩⟩
  have o_gab := ok_ga2 F_gab T n_max c_tak c_pic
  have c_gab : WC.Cal l.prog w K mg base _ _ _ _ _ := ⟨⟨_, _, o_gab, F_gab.kp, b_gab, m_gab⟩⟩
  have o_who := ok_who (P := l.prog) (w := w) (base := base) F_who T n_max n_sum
  have c_who : WC.Cal l.prog w K mg base _ _ _ _ _ := ⟨⟨_, _, o_who, F_who.kp, b_who, m_who⟩⟩
  have o_lfo := ok_frmL F_lfo T c_att
  have c_lfo : WC.Cal l.prog w K mg base _ _ _ _ _ := ⟨⟨_, _, o_lfo, F_lfo.kp, b_lfo, m_lfo⟩⟩
  have o_isf := ok_isf F_isf T n_repr U c_lfo
  have c_isf : WC.CalG l.prog w K mg base _ _ _ _ _ := ⟨⟨_, _, o_isf, F_isf.kp, b_isf, m_isf⟩⟩
  have o_par := ok_par F_par T n_max c_att ⟨⟨_, _, ok_fn2 F_fno T n_max c_att, F_fno.kp, b_fno, m_fno⟩⟩
  have c_par : WC.Cal l.prog w K mg base _ _ _ _ _ := ⟨⟨_, _, o_par, F_par.kp, b_par, m_par⟩⟩
  have o_mor := ok_mor F_mor T ⟨⟨_, _, ok_pl2 (P := l.prog) (w := w) (mg := mg) (base := base) F_plu, F_plu.kp, b_plu, m_plu⟩⟩ ⟨⟨_, _, ok_fn2 F_fno T n_max c_att, F_fno.kp, b_fno, m_fno⟩⟩
  have c_mor : WC.Cal l.prog w K mg base _ _ _ _ _ := ⟨⟨_, _, o_mor, F_mor.kp, b_mor, m_mor⟩⟩
  have o_frm := ok_form F_frm T o_stp F_stp.kp b_stp m_stp
  have c_frm : WC.Cal l.prog w K mg base _ _ _ _ _ := ⟨⟨_, _, o_frm, F_frm.kp, b_frm, m_frm⟩⟩
  have o_fst := ok_first F_fst T t_FEW U o_has F_has.kp b_has m_has o_beh F_beh.kp b_beh m_beh
  have c_fst : WC.Cal l.prog w K mg base _ _ _ _ _ := ⟨⟨_, _, o_fst, F_fst.kp, b_fst, m_fst⟩⟩
  have o_vls := ok_values F_vls t_MOST_MADE o_ncu F_ncu.kp b_ncu m_ncu o_nnm F_nnm.kp b_nnm m_nnm o_fst F_fst.kp b_fst m_fst
  have c_vls : WC.Cal l.prog w K mg base _ _ _ _ _ := ⟨⟨_, _, o_vls, F_vls.kp, b_vls, m_vls⟩⟩
  have o_srw := ok_srw F_srw T c_fst
  have c_srw : WC.Cal l.prog w K mg base _ _ _ _ _ := ⟨⟨_, _, o_srw, F_srw.kp, b_srw, m_srw⟩⟩
  have o_lle := ok_lle F_lle T c_lsu c_srw
  have c_lle : WC.Cal l.prog w K mg base _ _ _ _ _ := ⟨⟨_, _, o_lle, F_lle.kp, b_lle, m_lle⟩⟩
  have o_sbr := ok_sbr F_sbr n_enumerate c_nru c_ncu c_lle
  have c_sbr : WC.Cal l.prog w K mg base _ _ _ _ _ := ⟨⟨_, _, o_sbr, F_sbr.kp, b_sbr, m_sbr⟩⟩
  have o_ksv := ok_ksv F_ksv c_sbr
  have c_ksv : WC.Cal l.prog w K mg base _ _ _ _ _ := ⟨⟨_, _, o_ksv, F_ksv.kp, b_ksv, m_ksv⟩⟩
  have o_sma := ok_sma F_sma T c_tak c_ske c_fno
  have c_sma : WC.Cal l.prog w K mg base _ _ _ _ _ := ⟨⟨_, _, o_sma, F_sma.kp, b_sma, m_sma⟩⟩
  have o_vri := ok_vri F_vri T n_repr U c_vls
  have c_vri : WC.CalG l.prog w K mg base _ _ _ _ _ := ⟨⟨_, _, o_vri, F_vri.kp, b_vri, m_vri⟩⟩
  have o_ase := ok_ase F_ase T c_tak c_ske c_sma
  have c_ase : WC.Cal l.prog w K mg base _ _ _ _ _ := ⟨⟨_, _, o_ase, F_ase.kp, b_ase, m_ase⟩⟩
  have o_ini := ok_init F_ini T U T_BadCurve o_sta F_sta.kp b_sta m_sta o_from F_from.kp b_from m_from o_fal F_fal.kp b_fal m_fal o_frm F_frm.kp b_frm m_frm
  have o_made := ok_madeC F_made T t_MOST_MADE U T_TooMany o_ini b_ini c_frm
  have c_made : WC.Cal l.prog w K mg base _ _ _ _ _ := ⟨⟨_, _, o_made, F_made.kp, b_made, m_made⟩⟩
  have o_lif := ok_lif F_lif T n_max t_MOST_MADE T_TooMany c_lab c_made
  have c_lif : WC.Cal l.prog w K mg base _ _ _ _ _ := ⟨⟨_, _, o_lif, F_lif.kp, b_lif, m_lif⟩⟩
  have o_psv := ok_psv F_psv T U n_max t_MOST_SIZE c_ncu c_nnm c_has c_fne c_fst c_lif c_made
  have c_psv : WC.Cal l.prog w K mg base _ _ _ _ _ := ⟨⟨_, _, o_psv, F_psv.kp, b_psv, m_psv⟩⟩
  have o_ppr := ok_ppr F_ppr T U t_MOST_SIZE c_ncu c_nnm c_fst c_made
  have c_ppr : WC.Cal l.prog w K mg base _ _ _ _ _ := ⟨⟨_, _, o_ppr, F_ppr.kp, b_ppr, m_ppr⟩⟩
  have o_mad := ok_made F_mad U o_ini b_ini
  have c_mad : WC.Cal l.prog w K mg base _ _ _ _ _ := ⟨⟨_, _, o_mad, F_mad.kp, b_mad, m_mad⟩⟩
  have o_lim := ok_lim F_lim (code_of F_lim) (TB _ mem2) T n_max n_repr U o_ini b_ini EM m_WaitError m_TooMany c_tak c_psv F_cau b_cau m_cau
  have c_lim : WC.CalG l.prog w K mg base _ _ _ _ _ := ⟨⟨_, _, o_lim, F_lim.kp, b_lim, m_lim⟩⟩
  have qc_whp : WC.CalK l.prog w K mg base _ _ _ _ _ _ _ _ := ⟨⟨_, _, o_whp, F_whp.kp, kbR2 F_whp (fun _ _ _ _ _ _ _ _ => rfl), m_whp⟩⟩
  have qc_psv : WC.CalK l.prog w K mg base _ _ _ _ _ _ _ _ := ⟨⟨_, _, o_psv, F_psv.kp, kbR2 F_psv (fun _ _ _ _ _ _ _ _ => rfl), m_psv⟩⟩
  have qc_ppr : WC.CalK l.prog w K mg base _ _ _ _ _ _ _ _ := ⟨⟨_, _, o_ppr, F_ppr.kp, kbR2 F_ppr (fun _ _ _ _ _ _ _ _ => rfl), m_ppr⟩⟩
  have c_pl2 : WC.Cal l.prog w K mg base _ _ _ _ _ := ⟨⟨_, _, ok_pl2 (P := l.prog) (w := w) (mg := mg) (base := base) F_plu, F_plu.kp, b_plu, m_plu⟩⟩
  exact ok_law F_law (code_of F_law) (TB _ mem1) ntb (fun {H} q => ⟨q _ mem1, q _ mem2⟩) T n_max n_repr U o_ini b_ini o_eqc b_eqc EB EN EM m_WaitError m_BadCurve m_BadNumber m_BadRow m_TooMany ⟨r1, r2, r3⟩ k1 k2 kd c_beg c_tak c_pic c_ase c_ske c_mad c_rof c_who c_att c_pl2 c_le2 c_vri c_isf c_par c_mor c_lgn c_gab c_clo c_sha c_lim c_whp qc_whp c_psv qc_psv c_ppr qc_ppr o_psv F_psv.kp b_psv m_psv o_ppr F_ppr.kp b_ppr m_ppr c_ksv c_rwt F_cau b_cau m_cau
end WK
end

section
set_option Elab.async false
open PySem PySem.W PySem.Calls PyProof.Rows
set_option maxRecDepth 100000 in
set_option maxHeartbeats 0 in
theorem PySem.Challenge.cw_worstwait_k33_whole_parcels_holds : PySem.Challenge.rw_worstwait_k33_whole_parcels.Holds := by
  w_on; o_law
  refine HandSHeadRun.head_imp (r := WK.R) (q := view WK.R.prog [0, 88]) (H := WK.hk) (ob := WK.ob) (M := 10000) (loose := WK.lsN) (d := HandSHeadRun.topDef WK.R.prog 88) (kwd := []) WK.ob_eq
    WK.run (by kernel_rfl) (by kernel_rfl) (by kernel_rfl) (by rfl) (by first | assumption | decide +kernel) (by decide +kernel) ⟨rfl, rfl, rfl, rfl, rfl, by decide +kernel⟩ ?hw ?hc
  case hw => w_witness2
  case hc =>
    refine WH.walkT (l := PySem.Challenge.rw_worstwait_k33_whole_parcels) (n := 63) (k := 12) (x := "script") rfl (by decide) (by kernel_rfl) ⟨rfl, by decide, by decide⟩ ?F
    intro w mg fa h Y G hmg0
    obtain ⟨K, KX, c, hB, hT⟩ := Y
    have hmg : mg ("law" : PySem.Str) = some (.ref fa) := by
      have e : (HandSHeadRun.topDef WK.R.prog 88).name = ("law" : PySem.Str) := by kernel_rfl
      rw [← e]
      exact hmg0
    exact WK.facts (l := PySem.Challenge.rw_worstwait_k33_whole_parcels) (w := w) KX G hmg c hB hT
end
